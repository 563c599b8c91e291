import PyProof.Rows.All
import Wide.All
import OpenK.AllK
import Wide.FinOn
import PyProof.EqAt
import PyProof.EqKinds
import PyProof.TupleCall
import Open.SpecLaws
import KE.OsHead
import KE.OsGo
import Open.FastRun
import KE.KSortRegAny
import KE.KSortKeyAny
import KE.KDictSum
import KE.KDictLaws
import KE.BitLaws
import PyProof.ZipIter
import PyProof.DictItems
import PySem.SetOps
import Sw15Neutral
import PySw15
import PySem.Challenge.RW_bytemachines_s01_answers
set_option Elab.async false
set_option linter.all false
set_option maxRecDepth 100000
set_option maxHeartbeats 4000000
set_option autoImplicit true
open PySem renaming Addr->ag,wpAny_bind->ah,Value->au,wpAny_pure->az,FuncData->aN,Shared->aR,World->a_,sizeLine->bh,Program->bj,starEach->bV,rawInt->cw,boot_len->eI,Around->eJ,backTo->gp,sysModules->i0,wpAny_call_entry->jg,wpAny_field->ji,cellsFrom->jm,wpAny_newObj_type->j4,pyNext->j5,wpAny_holding->kG,wpAny_setField_rec->lB,compareOp->lH,wpAny_callSpecial?_slot->mL,mem_of_lookup->mM,wpAny_seqItems->mP,wpAny_mono->mR,scanBound->mS,NameKind->mU,wpAny_Call_Name_kw->nW,wpAny_attempt->nZ,DictEntry->n9,intKind->n_,mainGlobals->o9,compEnvC->o_,codeAny->ph,IsPair->pi,binaryOp->qp,pyIter->qt,Paired->qu,wpAny_dictEntries->rN,wpAny_setField->rP,wpAny_fieldsOf->tH,firstArgMember->tJ,wpAny_rule->tP,pickOrder->tQ,wpAny_nextOf_list_item->uY,wpAny_truthy_bool->u5,wpAny_isInstance->u7,wpAny_dictEpoch->u_,codeAny_mono->vb,wpAny_letGo->vd,tupleKind->ve,wpAny_ite_split->xn,wpAny_onRaise->xq,attributeBase->xr,assignEach->xt,IsItemIter->xu,pushCells->xw,valueAt->xx,holding->xy,wpAny_pyIter_slot->z8,wpAny_passesOwn->Aa,codeAny_builtin->Ab,isSubtype_stop->Ae,behindInMarks->Ah,bootBuiltins->Ak,sliceBounds->Am,swapsWith->An,relayAll->Ao,SetTable->Ap,getItem->Aq,newExc->As,wpAny_setState_of->FJ,isSubtype_type->FQ,plainId_quiet->FS,wpAny_of_eq->FT,inplaceOp->FU,setField->FV,notedBy->FW,callerA->FX,BindsTo->FY,argsOk->F0,Params->F_,wpAny_nextOf_list_end->JZ,wpAny_setEntries_of->J3,tupleKind_room_in1->J4,wpAny_pyIter_list->J6,wpAny_Call_method->J7,wpAny_pyIter_zip->Kb,wpAny_newTuple->Ke,wpAny_standAt->Kg,wpAny_handled->Kh,call_meetsIn->Kl,wpAny_throw->Kp,sizeLine_eq->Kq,raiseNew->Kv,newTuple->Kw,isTrue->Kx,assign->Ky,Result->Kz,wpAny_typeNameOfWhole_itemiter->Qi,wpAny_typeNameOfWhole_valiter->Qk,wpAny_typeNameOfWhole_keyiter->Ql,wpAny_notOrdered_dict->Qu,builtinLookup_eq_fast->Qv,foldedSetIterable->QG,fits_of_scanBound->QH,atKey_none_of_get->QI,wpAny_updateSeq->QO,wpAny_specialOf->QP,wpAny_execs_nil->QQ,typeLookup_type->QR,pushCells_keeps->QS,seqIndex_neg->Q0,subscripted->Q1,seqIndex_of->Q2,keywordEach->Q3,wpAny_call->Q6,typeLookup->Q7,entryOfKey->Q8,call_meets->Q9,getMethod->Q_,backToKw->Ra,ZipApart->Rb,storedH->Rc,standAt->Re,setNext->Rf,setItem->Rg,hashInt->Rh,MeetsIn->Ri,Keyword->Rj,layNew->Rl,wpAny_isOneOf_itemiter->abg,evalArgs_none->abh,wpAny_isOneOf_valiter->abq,wpAny_updateSeq_pair->abu,wpAny_askSetting->abJ,size_of_entries->abQ,letOwnedTupleGo->abR,codeAny_of_tree->abS,Within->abT,wpAny_runValue->abY,method_meetsIn->abZ,dictSetDefault->ab3,signature?_of->ab6,IsItemIterOut->ab7,wpAny_typeOf->ab8,storedH_new->aca,wpAny_load->acd,wpAny_Name->ace,typeIs_int->acf,builtinsNs->acg,updateSeq->aci,storeName->acj,lastMarks->ack,entry_at->acm,entryFor->acn,compPost->aco,Operator->acp,GenState->acq,spliced->acr,operate->acs,getAttr->act,UnaryOp->acu,ItemsOf->acv,ElemsOf->acw,wpAny_letOwnedTupleGo_items->aqN,wpAny_letOwnedTupleGo_zip->aqV,wpAny_pyNext_range_end->arp,wpAny_pyIter_rangeiter->arq,wpAny_getItem_list_neg->arr,wpAny_isTrue_Compare1->arE,wpAny_isOneOf_keyiter->arF,weight_type_call_type->arG,wpAny_pyIter_keyiter->arN,wpAny_loadName_local->arO,codeAny_extend_loopS->arP,codeAny_call_builtin->arQ,wpAny_loadName_cell->arY,wpAny_pyIter_tuple->ar9,wpAny_pyIter_range->ar_,wpAny_evalAll_cons->asa,wpAny_storeSet_of->asl,wpAny_setEpoch_of->asm,wpAny_pyIter_enum->asn,wpAny_assign_Name->aso,wpAny_getItem_of->asC,wpAny_execs_cons->asD,wpAny_Dict_empty->asE,check_set_init_1->asF,call->asG,recursionLimit->asQ,newFunctionEnv->asR,entryFor_alias->asS,rangeSize_one->asU,intBits_le_64->asV,evalPart_none->asW,setAddHashed->as1,call_range_1->as2
open List renaming length_map->ax,range->aU,map_append->bI,replicate->cu,mem_append->cN,mem_cons->cO,mem_map->cQ,map_map->dy,length_append->dS,getElem?_eq_getElem->eh,mem_of_getElem?->eF,mem_cons_self->eG,mem_cons_of_mem->e5,map_congr_left->fy,take_succ_eq_append_getElem->fJ,take_length->fK,getElem?_eq_some_iff->gm,map_cons->gF,getElem?_map->gP,mem_singleton->hZ,length_take->il,length_range->iX,getElem_map->iY,mem_append_left->jK,nodup_cons->jL,getElem_of_mem->kD,ext_getElem->lC,range_succ->lD,append_nil->lE,mem_range->lF,mem_append_right->lV,contains_iff_mem->lW,length_set->mN,length_cons->nX,getElem_mem->nY,nodup_append->o6,pairwise_cons->rM,not_mem_nil->rO,length_filter_le->tE,replicate_succ->tF,mem_filter->tG,any_eq_true->u6,getD_eq_getElem?_getD->xb,filter_cons_of_pos->xc,mem_map_of_mem->xf,getElem_range->xg,filter_append->xh,flatten_cons->xj,forIn_nil->xo,length_singleton->zW,filter_congr->zZ,append_assoc->z7,forIn_cons->z9,nodup_nil->Ac,sum_cons->Af,map_set->Ai,map_id->Al,eq_nil_of_length_eq_zero->Fy,pairwise_iff_getElem->Fz,getElem?_append_left->FB,filter_cons_of_neg->FC,take_append_drop->FD,length_replicate->FE,pairwise_append->FG,size_toArray->FH,foldl_append->FI,lookup_cons->FK,getElem?_append_right->JO,drop_eq_getElem_cons->JP,set_getElem_self->JV,getElem?_eq_none->JW,filter_eq_self->J0,eraseDups_cons->J1,filter_filter->J2,sum_append->J_,nil_append->J',idxOf_cons->Ka,range'->Kk,range_succ_eq_map->Qr,concat_eq_append->Qs,flatten_append->Qw,mem_filterMap->Qx,pairwise_map->Qz,mem_flatten->QD,cons_append->QE,all_eq_true->QF,prefix_rfl->QM,lookup->QZ,idxOf_lt_length_iff->aa0,pairwise_singleton->aa1,take_of_length_le->aa5,filter_eq_nil_iff->aa6,mem_iff_getElem?->aba,eq_nil_or_concat->abb,getElem?_set_ne->abe,flatMap_append->abo,filterMap_cons->abp,findIdx_cons->abz,length_drop->abB,getElem_inj->abC,flatMap_def->abD,of_mem_zip->abG,length_nil->abH,map_take->abN,any_cons->abO,map_nil->abX,map->acb,mem_singleton_self->aqL,pairwise_lt_range->aqP,getElem_replicate->aqQ,getElem?_set_self->aqR,getElem?_toArray->aqU,range_eq_range'->aq3,range'_append_1->aq4,map_singleton->arj,map_replicate->ark,getElem_idxOf->arl,getElem?_drop->arm,take_sublist->arz,getElem?_set->arA,flatMap_cons->arB,any_eq_false->arC,nodup_range->arL,getElem_set->arM,filter_nil->arV,drop_zero->ar8,map_drop->ash,set_set->asz,map_id'->asA,length->asJ,foldl->asO
open Or renaming inl->aH,inr->lI
open PySem.W renaming Frag->aP,emptyDict->u4,instObj->xk,findIn->xm,keepIn->Kc,fnOf->Kf,plainGet->Qy,lookIn->QJ,ksk_lsortAny->aa8,plainGet_of->abc,callWith_K->abi,hasDictIn->abr,takerIn->abA,codeIn->abE,isFn->abK,length_le_weightAllW->aqn,cellsFrom_some->aqG,methodCall_KW->aqK,callWith_K0->aqO,plainOver->aqW,ktu_apart->aqX,kdl_call->aq6,kcp_self->aq7,handedIn->aq8,WRecords->aq9,makesIn->arh,WalkOS->ars,KdlSrc->art
open Nat renaming le_refl->aW,zero_le->cX,ne_of_lt->d7,le_trans->gn,lt_of_lt_of_le->iC,ne_of_gt->kI,le_of_lt->lY,zero_add->tL,lt_irrefl->xp,min_eq_left->FL,lt_succ_iff_lt_or_eq->JR,div_eq_of_lt->J8,sub_self->Ki,le_succ->Km,add_sub_cancel_left->Qq,sub_zero->QV,mul_comm->QW,le_of_eq->QX,pow_le_pow_right->abk,mul_le_mul_right->abm,lt_of_le_of_lt->abx,mod_eq_of_lt->abF,add_assoc->abV,succ_mul->ab4,add_comm->ab5,mod_lt->ab9,testBit_lt_two_pow->aqT,eq_of_testBit_eq->arc,lt_succ_of_lt->arK,min_eq_right->arS,lt_succ_self->arT,lt_of_not_le->arU,testBit_and->ar6,mul_add_div->ar7,lt_or_ge->asI,add_mod->asN
open Option.some renaming inj->bv,injEq->aus
open PySem.Heap renaming get?_push_of_some->bH,lt_size->bO,get?_push_size->cJ,size_push->jh,SameBut->jM,get?_update_self->o5,get?_update_other->JU,ExtBut->Kj,IsRevIter->ar3,IsList->asH
open Sum renaming inl->bQ,inr->Ku
open Bool renaming toNat->dz,and_eq_true->eA,false_ne_true->ik,false_eq_true->kE,noConfusion->o7,eq_iff_iff->u9,and_eq_true_iff->aq5,eq_false_iff->arD,or_false->asj
open PySem.Value renaming ref->dA,none->im,type->kJ,int->kK,bool->Kn,isInt->QY,isInt_shape->abw,isStrOf->arZ,str->asM
open PySem.PassesOwn renaming never->eR
open PySem.F renaming plainAttrs_list->iB,slot_list_append->jJ,type_list_append->j0,slot_zip_next->xl,slot_list_extend->JS,plainAttrs_dict->JX,slot_dict_valueiterator_next->Qh,slot_dict_itemiterator_next->Qj,slot_dict_keyiterator_next->Qm,type_list_extend->Qo,slot_dict_items->QB,args_zip_next_1->QC,entry_zip_next->QK,slot_dict_setdefault->aaU,plain_extend_loop->aaY,slot_dict_get->aa2,args_dict_setdefault_3->aql,entry_dict_setdefault->aqm,args_dict_valueiterator_next_1->aqp,entry_dict_valueiterator_next->aqt,args_dict_itemiterator_next_1->aqu,slot_dict_values->aqx,entry_dict_itemiterator_next->aqy,args_dict_keyiterator_next_1->aqz,plain_list_iadd->aqB,entry_dict_keyiterator_next->aqC,args_dict_get_3->aqD,slot_dict_keyiterator_iter->aqI,entry_dict_get->aqJ,slot_dict_values_iter->aqZ,slot_dict_items_iter->ara,args_dict_items_1->arJ,entry_dict_items->arR,type_dict_items->ar4,entry_type_call->ar5,typeCall_set_1->asd,slot_dict_iter->ase,entry_set_init->asf,slot_zip_iter->asr,slot_set_iter->ass,slot_int_rmul->asu,slot_dict_len->asv,plain_set_new->asw
open Sw15 renaming machineIn->iD,STEPS->iZ,says->jk,STATES->jN,St->kM,Machine->o8,Ans->tR,machineOf->Kd,kthOf->Ko,apartOf->QT,Call->Q5,Good->ab_,isWord->asB,tells->asK,Step->asP
open Int renaming toNat_natCast->jf,toNat->lZ,toNat_of_nonneg->abt,natCast_nonneg->aby
open Array renaming length_toList->kC,getElem?_eq_getElem->qj,getElem?_eq_none->JT,getElem?_eq_some_iff->aaZ,getElem?_toList->aqS,forIn_toList->arf,toList_push->aro
open PySem.Str renaming ofString->kH
open PySem.Heap.SameBut renaming update->lz,refl->aqH
open Sw15Neutral renaming natural->lA,whole32->rK,inTurn->rL,step->zX,callOf->Qt,asked1->aa7,long->abf,numbersOf->aqs,start->aup,asked->auq
open False renaming elim->lG
open PySem.SetTable renaming below->lX,grown->z_,insertAt->abn,advance->aqY,laid->aru,fits->arv
open PySem.Paired renaming length->mQ,snoc->asc
open PyProof.Rows renaming callWith_type1->nV,envOfC->vf,AllBare->Ar,IntsAre->FZ,boot_list->JQ,boot_range->Kt,boot_sorted->Q4,ite_tt->Rm,ite_ff->Ro,callWith_builtin1->aaS,Subscript_->ach,test_link->acl,boot_tuple->aqo,boot_set->aqq,subscriptTail_builtinR->arx,rangeSize_pos->asX,Constant_none->asY,Constant_bool->asZ,isTrue_chain->as3
open PySem.Obj renaming data_mapFields->qk,mapSeq->qm,mapFields->va,isFreed_of_fields->FF,cls_mapFields->J5,putSet->Kr,data_mapDictKeys->aq_
open True renaming intro->ql
open Prod renaming snd->qo,fst->as0
open Ne renaming symm->qr
open PySem.Builtin.SmallTypes renaming nextOf->rJ,ownedTupleIsFree->JN,ownedTupleHandOut->Qg
open PySem.Calls renaming spliced_cons->uZ,spliced_nil->zY,callWith_builtin->aa3,evalArgs_plain->abd,Name_function_global->aqA,call_len_list->aq0
open PySem.Builtin.Dict_items renaming ownsTuple->xa,ownedTupleIsFree->aqf,ownedTupleFields->aqg,pairFromOwner->aqh
open PySw15 renaming shape->Ag,answers->FM,answers_asked->aa_,whole->arW,calls->arX
open PyFlat renaming told->Aj,played->FP,calls->abM,call->abW,rows->asg,row->asy
open PySem.Builtin renaming bitOr->FN,bitAnd->QL
open PySem.W.Codec renaming encAll->FR,app->Ks,withinAll->arI
open PySem.Around renaming under_plainId->JY,under->abL,under_plain->aq1
open Option renaming map_some->J9,none->QU,isSome_iff_exists->aqE,isSome_map->arb
open PySem.Builtin.List renaming listSameRef->Qn,listExtendWith->aaT,listTooLong->aaV,listLengthHint->aqk,listFitsIndex->aun
open PySem.Builtin.Dict renaming showsAll->Qp
open ForInStep renaming yield->QA
open PySem.Shared renaming TypeIs->QN,heap->asb
open PySem.Builtin.Range renaming rangeSize->aaW,rangeFitsLong->aqj,small->aqv
open Classical renaming byContradiction->aaX
open PySem.SetTable.probe renaming go->aa4
open PyProof.Rows.F renaming plain_set_update_loop->aa9,entry_set_update_loop->aq2
open PySem.Heap.IsList renaming push->abj
open PySem.pickOrder renaming go->abI
open Sum.inl renaming inj->abP
open Prod.mk renaming inj->abU
open PySem.Builtin.Frozenset renaming updateFrom->aqi,slot0->atO,sizeOf->atP,newClass->atQ
open List.Pairwise renaming filter->aqr,nil->aqF,of_map->at7
open PySem.SetTable.below renaming go->aqw
open Function renaming comp_apply->aqM
open List.Perm renaming refl->ard,cons->are,append_left->auA
open PySem.Code renaming quiet_builtin->ari
open List.cons renaming inj->arn
open PySem.NameKind renaming free->arw
open PyProof.Rows.IntsAre renaming int_at->ary
open PySem.W.WData renaming weightAll->arH,int->asL
open PySem.Moved renaming eq_with->ar0
open PySem.ItemsOf renaming nil->ar1
open PySem.IsRange renaming new->ar2
open PySem.Walks renaming range->asq
open PySem.CmpOp renaming NotIn->asx,In->asT
open PySem.Challenge renaming rw_bytemachines_s01_answers->atR
open PySem.Heap.IsSliceOf renaming new->atU
open PySem.W.Looks renaming here->atV
open PySem.EqMixed renaming ne_str_int->atW,ne_str_bool->atX,ne_int_str->atY,ne_bool_str->atZ,eq_str_int->at3,eq_str_bool->at4,eq_int_str->at5,eq_bool_str->at6
open PySem.Within renaming cons->at8
open PySem.EqNone renaming ne_str_none->at9,ne_none_str->aua,ne_none_none->aub,ne_none_int->auc,ne_none_bool->aud,ne_int_none->aue,ne_bool_none->auf,eq_str_none->aug,eq_none_str->auh,eq_none_none->aui,eq_none_int->auj,eq_none_bool->auk,eq_int_none->aul,eq_bool_none->aum
open List.Sublist renaming slnil->auo
open PySem.Heap.DictOf renaming new->aur
open PySem.SeqAt.EqAt renaming str_int->aut,int_str->auu
open PySem.W.ReadsAllW renaming nil->auv,cons->auw
open PySem.IsL renaming update->aux
open PySem.DictEntry renaming refKey->auy
open PySem.AutoListH renaming list___mul___list_int_3->auz
local macro_rules|`(tactic|exists $es,*)=>`(tactic|refine ⟨$es,* ,?_⟩)
local macro_rules|`(tactic|rfl')=>`(tactic|extract_lets)
local macro_rules|`(tactic|lk)=>`(tactic|simp_all)
local macro_rules|`(tactic|x_go)=>`(tactic|decide +kernel)
local macro_rules|`(tactic|z_go)=>`(tactic|constructor<;>decide +kernel)
local macro_rules|`(tactic|room)=>`(tactic|decide)
local macro_rules|`(tactic|fin2)=>`(tactic|grind)
noncomputable section
namespace Hd
open PySem PySem.W PySem.Calls PyProof.Rows PySem.W.Fast
abbrev pw:=PySem.Challenge.pw_bytemachines_s01_answers
def tR(st:SharedT->Thread->Option (SharedT×Thread)):Nat->SharedT->Thread->Option SharedT
 |0,_,_=>none
 |n+1,s,t=>match through t with
  |true=>some s
  |false=>match stepOk 11 (some (.ref 6)) t with
   |false=>none
   |true=>match st s t with
    |some x=>tR st n x.1 x.2
    |none=>none
theorem tR_of: ∀{n:Nat}{s s':SharedT}{t:Thread},tR (stepT (denote treeTable) pw w) n s t=some s'->topRun treeTable pw w 11 (some (.ref 6)) n s.abs t=some s'.abs
 |0,_,_,_,h=>by cases h
 |n+1,s,s',t,h=>by
  unfold tR at h;unfold topRun;cases he:through t<;>rw[he]at h
  ·cases hk:stepOk 11 (some (.ref 6)) t<;>rw[hk]at h
   ·cases h
   ·cases hs:stepT (denote treeTable) pw w s t<;>rw[hs]at h
    ·cases h
    ·rw[stepT_spec hs];exact tR_of h
  ·cases h;rfl
def ofL:BT->Nat->List Obj->BT
 |t,_,[]=>t
 |t,n,o::r=>ofL (t.ins n o) (n+1) r
noncomputable def R0(w:World)(os:OsState):=tR (stepT (denote treeTable) pw w) 8104 ⟨ofL .nil 0 (boot_heap w.params).objs.toList,11,{},#[],boot_drawn,boot_toks,os⟩ (topStub pw)
def pk{X:Prop}(h:Hook)(_:(∀x:Hook,x=h->X)->X):Hook:=h
set_option hygiene false in
local macro_rules|`(tactic|o_headS $h)=>`(tactic|exact ax $h rfl)
noncomputable def H:Hook:=by
 apply pk (X:=atR.Holds);intro ax;k_headS
noncomputable def q:=view pw [1,2,3,4,6,7,8,10,11,12,13,14,16,17,19,20,21,22,24,25,26,27,28,29,31,32,33,35,36,37,39,40,41,42,43,44,45,46,47,48,49,50,51,52,53,54,55,56,57,58,59,60,61,62]
noncomputable abbrev Xt(s:Shared):=xlAt q [] s&&recOk [] s
abbrev Pa(w:World):Prop:= ∀os,(R0 w os).map (λS=>(staticsOk (importedModules pw.main.body) (boot_heap w.params) S.abs.heap&&namesBound pw S.abs.heap&&gensDone S.abs&&laidKept (boot_heap w.params) S.abs.heap,openSeen q ["WIDTHS"] (importedModules pw.main.body) Xt true S.abs))=some (true,openGood q ["WIDTHS"])
abbrev Pb(w:World):Prop:= ∀os,(R0 w os).map (λS=>H.obs S.abs)=some (H.val w)
def a0(w:World):Pa (w.withFollow "special-get-raises" false):=λos=>by
 unfold R0;rw[te10156331382660048174,te11892475500146522536,te14364793385576792824,te4187177175401517315];kernel_rfl
def a1(w:World):Pa (w.withFollow "special-get-raises" true):=λos=>by
 unfold R0;rw[te10156331382660048174,te11892475500146522536,te14364793385576792824,te4187177175401517315];kernel_rfl
def b0(w:World):Pb (w.withFollow "special-get-raises" false):=λos=>by
 unfold R0;rw[te10156331382660048174,te11892475500146522536,te14364793385576792824];kernel_rfl
def b1(w:World):Pb (w.withFollow "special-get-raises" true):=λos=>by
 unfold R0;rw[te10156331382660048174,te11892475500146522536,te14364793385576792824];kernel_rfl
def left:LeftO pw q ["WIDTHS"] Xt H.obs H.val 8104:=λw=>by
 obtain⟨⟨_,_,_,_,os⟩,e,e'⟩:=Option.map_eq_some_iff.mp (boot_open (p:=pw) (N:=8104) (by kernel_rfl) rfl (λs=>by kernel_rfl) w);cases e';have e:_=some (⟨boot_heap w.params,#[],boot_drawn,boot_toks,os⟩:Shared):=e
 obtain⟨S,r,l⟩:=Option.map_eq_some_iff.mp (byRow2 _ a0 a1 w os)
 have m:=byRow2 _ b0 b1 w os
 rw[r]at m;unfold R0 at r;obtain⟨l1,l2⟩:=Prod.mk.inj l
 have r:topRun treeTable pw w 11 (some (.ref 6)) 8104 ⟨boot_heap w.params,#[],boot_drawn,boot_toks,os⟩ (topStub pw)=some S.abs:=(congrArg (λh=>topRun treeTable pw w 11 (some (.ref 6)) 8104 ⟨h,#[],boot_drawn,boot_toks,os⟩ (topStub pw)) (by kernel_rfl)).trans (tR_of r)
 have z:((boot_heap w.params).isNs mainGlobals&&(#[]:Array GenState).size==0,(boot_heap w.params).objs.size,(boot_heap w.params).nsMap mainGlobals "__annotations__")=(true,11,some (.ref 6)):=by kernel_rfl
 obtain⟨z1,z⟩:=Prod.mk.inj z;obtain⟨z2,z⟩:=Prod.mk.inj z
 unfold openEnds;rw[e];show(topFrom treeTable pw w 8104 _).map _=_;unfold topFrom;dsimp only;rw[z1,z2,z,r]
 show Option.map _ (match staticsOk _ _ _&&_&&_&&_ with|true=>_|false=>_)=_
 rw[l1];exact congrArg some (Prod.ext l2 (Option.some.inj m))
end Hd
set_option tactic.hygienic false
abbrev aj:=List Nat
abbrev aZ:=List aj
abbrev bp:=List ag
def cA{n:Nat}(h:Nat.ble n bh=true):n<=bh:=Nat.le_of_ble_eq_true h
namespace BM
section
variable{α β:Type}[BEq α][LawfulBEq α][BEq β][LawfulBEq β]
def aB(ap:List α)(x:α):List α:=if ap.contains x then ap else ap++[x]
noncomputable def cP(ap l:List α):List α:=l.foldl aB ap
def j6{x:α}(h:x∈ap):aB ap x=ap:=by
 unfold aB;rw[if_pos (lW.mpr h)]
def l0{x:α}(h:¬x∈ap):aB ap x=ap++[x]:=by
 unfold aB;rw[if_neg (λe=>h (lW.mp e))]
def Rp(ap:List α):cP ap []=ap:=rfl
def qv(ap:List α)(x:α)(l:List α):cP ap (x::l)=cP (aB ap x) l:=rfl
def vg(ap l r:List α):cP ap (l++r)=cP (cP ap l) r:=by
 unfold cP;rw[FI]
def pj{x y:α}:y∈aB ap x↔y∈ap\/y=x:=by
 by_cases h:x∈ap
 ·rw[j6 h];lk
 ·rw[l0 h,cN,hZ]
theorem rQ{y:α}: ∀{l ap:List α},y∈cP ap l↔y∈ap\/y∈l
 |[],ap=>by simp[Rp]
 |x::r,ap=>by
  rw[qv,rQ,pj,cO,or_assoc]
def Gb{x:α}(h:ap.Nodup):(aB ap x).Nodup:=by
 by_cases q:x∈ap
 ·rw[j6 q];exact h
 ·rw[l0 q,o6];fin2
theorem KA: ∀{l ap:List α},ap.Nodup->(cP ap l).Nodup
 |[],_,h=>h
 |x::r,ap,h=>by
  rw[qv];exact KA (Gb h)
def acx(ap:List α)(x:α):ap<+:aB ap x:=by
 by_cases q:x∈ap
 ·rw[j6 q];exact QM
 ·rw[l0 q];exact List.prefix_append _ _
theorem Gc: ∀(l ap:List α),ap<+:cP ap l
 |[],_=>QM
 |x::r,ap=>(acx ap x).trans (Gc r (aB ap x))
theorem KB: ∀{l ap:List α},(∀x∈l,x∈ap)->cP ap l=ap
 |[],_,_=>rfl
 |x::r,ap,h=>by
  rw[qv,j6 (h x (eG ..))];exact KB λy hy=>h y (e5 _ hy)
theorem KC(p:α->Bool): ∀n(l:List α),l.length<=n->(l.filter p).eraseDups=l.eraseDups.filter p
 |_,[],_=>by simp
 |0,_::_,h=>by simp at h
 |n+1,x::r,h=>by
  have hr:(r.filter (λb=>!b==x)).length<=n:=gn (tE _ _) (by simp at h;omega);rw[J1];by_cases px:p x=true
  ·rw[xc px,J1,xc px,<-KC p n _ hr,J2,J2]
   congr 3
   funext a
   exact Bool.and_comm _ _
  ·rw[FC px,FC px,<-KC p n _ hr,J2];congr 2;funext a
   cases pa:p a with
   |false=>simp
   |true=>
    lia
theorem Gd: ∀(l ap:List α),cP ap l=ap++l.eraseDups.filter (λx=>!ap.contains x)
 |[],ap=>by simp[Rp]
 |x::r,ap=>by
  rw[qv,Gd r,J1,KC _ _ r (aW _)];by_cases h:x∈ap
  ·rw[j6 h,FC (by simp[h]),J2];fin2
  ·rw[l0 h,xc (by simp[h]),z7,J2];fin2
def tS(l:List α):l.eraseDups=cP [] l:=by
 rw[Gd,J'];exact(J0.mpr λa _=>by simp).symm
def acy{f:α->β}(hf: ∀y∈ap,f y=f x->y=x):aB (ap.map f) (f x)=(aB ap x).map f:=by
 by_cases h:x∈ap
 ·rw[j6 h,j6 (xf h)]
 ·rw[l0 h,l0,bI]
  ·rfl
  ·fin2
theorem KD{f:α->β}: ∀{l ap:List α},(∀y∈ap++l,∀z∈ap++l,f y=f z->y=z)->cP (ap.map f) (l.map f)=(cP ap l).map f
 |[],_,_=>rfl
 |x::r,ap,h=>by
  rw[gF,qv,qv,acy λy hy e=>h y (by simp[hy]) x (by simp) e,KD];intro y hy z hz;have sub: ∀u,u∈aB ap x++r->u∈ap++x::r:=λu hu=>by
   rw[cN,pj]at hu;fin2
  fin2
theorem KE(f:α->β): ∀l ap,cP [] ((cP ap l).map f)=cP (cP [] (ap.map f)) (l.map f)
 |[],_=>rfl
 |x::r,ap=>by
  rw[qv,KE f r,gF,qv];by_cases h:x∈ap
  ·rw[j6 h,j6 (rQ.mpr (.inr (xf h)))]
  ·rw[l0 h,bI,vg];rfl
def Rq(ap:List α)(x:α): ∀n,0<n->cP ap (cu n x)=aB ap x
 |n+1,_=>by
  rw[tF,qv];exact KB λy hy=>by rw[(List.mem_replicate.mp hy).2];exact pj.mpr (.inr rfl)
end
end BM
namespace BM
open Sw15
def nx(rows:aZ)(i k:Nat):Nat:=(rows.getD i []).getD k 0
structure gq(rows:aZ)(W:Nat):Prop where
 jO: ∀r∈rows,r.length=W
 d8: ∀r∈rows,∀t∈r,t<rows.length
def cr{α:Type}{l:List α}{d:α}(h:i<l.length):l.getD i d=l[i]:=by
 lk
def acz{α:Type}{l:List α}{d:α}(h:l.length<=i):l.getD i d=d:=by
 lk
def eU{α:Type}{l:List α}{d:α}(h:i<l.length):l.getD i d∈l:=by
 lk
def gq.l5(T:gq rows W)(h:i<rows.length):(rows.getD i []).length=W:=T.jO _ (eU h)
def gq.lt(T:gq rows W)(h:i<rows.length)(hk:k<W):nx rows i k<rows.length:=
 T.d8 _ (eU h) _ (eU (by rw[T.l5 h];exact hk))
def Bis(rows:aZ)(W:Nat)(tk:List Bool)(R:Nat->Nat->Prop):Prop:=
 ∀i j,R i j->i<rows.length->j<rows.length->tk.getD i false=tk.getD j false/\ ∀k,k<W->R (nx rows i k) (nx rows j k)
def rR(rows:aZ)(W:Nat)(tk:List Bool)(i j:Nat):Prop:= ∃R,Bis rows W tk R/\R i j
def l6(rows:aZ)(W:Nat)(tk:List Bool)(c:aj):Prop:=
 ∀i j,i<rows.length->j<rows.length->rR rows W tk i j->c.getD i 0=c.getD j 0
def kN(rows:aZ)(W:Nat)(tk:List Bool)(c:aj):Prop:=
 ∀i j,i<rows.length->j<rows.length->c.getD i 0=c.getD j 0->tk.getD i false=tk.getD j false/\ ∀k,k<W->c.getD (nx rows i k) 0=c.getD (nx rows j k) 0
def rR.tk{tk:List Bool}(h:rR rows W tk i j)(hi:i<rows.length)(hj:j<rows.length):tk.getD i false=tk.getD j false:=by
 obtain⟨R,b,r⟩:=h;exact(b i j r hi hj).1
def rR.next{tk:List Bool}(h:rR rows W tk i j)(hi:i<rows.length)(hj:j<rows.length)(hk:k<W):rR rows W tk (nx rows i k) (nx rows j k):=by
 obtain⟨R,b,r⟩:=h;exact⟨R,b,(b i j r hi hj).2 k hk⟩
def kN.Rr(h:kN rows W tk c)(e:c.getD i 0=c.getD j 0):rR rows W tk i j:=
 ⟨λi j=>c.getD i 0=c.getD j 0,λi j e hi hj=>h i j hi hj e,e⟩
def acA(c1:l6 rows W tk c)(c2:kN rows W tk c)(d1:l6 rows W tk d)(d2:kN rows W tk d)
  (hi:i<rows.length)(hj:j<rows.length):c.getD i 0=c.getD j 0↔d.getD i 0=d.getD j 0:=
 ⟨λe=>d1 i j hi hj (c2.Rr e),λe=>c1 i j hi hj (d2.Rr e)⟩
theorem Au{α:Type}[BEq α][LawfulBEq α]: ∀n(l:List α),l.length<=n->l.eraseDups.length<=l.length
 |_,[],_=>by simp
 |0,_::_,h=>by simp at h
 |n+1,x::r,h=>by
  have hr:(r.filter (λb=>!b==x)).length<=r.length:=tE _ _;have:=Au n (r.filter (λb=>!b==x)) (by simp at h;lia)
  rw[J1,nX,nX]
  lia
theorem Rs{α:Type}[BEq α][LawfulBEq α]: ∀(l:List α),l.eraseDups.length=l.length->l.Nodup
 |[],_=>by simp
 |x::r,h=>by
  have hr:(r.filter (λb=>!b==x)).length<=r.length:=tE _ _;have h2:=Au _ (r.filter (λb=>!b==x)) (aW _);rw[J1,nX,nX]at h;have e:(r.filter (λb=>!b==x)).length=r.length:=by lia
  have e':=J0.mpr (List.length_filter_eq_length_iff.mp e);rw[e']at h;refine jL.mpr ⟨λhx=>?_,Rs r (by lia)⟩;fin2
def acB{α:Type}[BEq α][LawfulBEq α](l:List α):l.eraseDups.Nodup:=by
 rw[tS];exact KA (by simp)
def Ge{α:Type}[BEq α][LawfulBEq α]{l:List α}{x:α}:x∈l.eraseDups↔x∈l:=by
 simp
theorem Rt{α:Type}[BEq α][LawfulBEq α]: ∀{l:List α},l.Nodup->l.eraseDups=l
 |[],_=>by simp
 |x::r,h=>by
  rw[J1];have h':=jL.mp h;have e:r.filter (λb=>!b==x)=r:=J0.mpr λa ha=>by
   fin2
  rw[e,Rt h'.2]
def KF{α β:Type}[BEq α][LawfulBEq α][BEq β][LawfulBEq β](f:α->β)(l:List α):(l.eraseDups.map f).eraseDups=(l.map f).eraseDups:=by
 rw[tS l,tS,tS,KE];rfl
def KG{α:Type}[BEq α][LawfulBEq α]{l:List α}{x y:α}(hx:x∈l)(e:l.idxOf x=l.idxOf y):x=y:=by
 have h1:=aa0.mpr hx;have h2:=e▸h1;have a:=arl h1;lk
theorem KH{α β:Type}{f:α->β}: ∀{l:List α},(l.map f).Nodup-> ∀x∈l,∀y∈l,f x=f y->x=y
 |[],_,x,hx,_,_,_=>by simp at hx
 |a::l,h,x,hx,y,hy,e=>by
  have h':=jL.mp h;rcases cO.mp hx with rfl|tT
  ·fin2
  ·rcases cO.mp hy with rfl|hy2
   ·lk
   ·exact KH h'.2 x tT y hy2 e
theorem Gf{α β:Type}{f:α->β}: ∀{l:List α},l.Nodup->(∀x∈l,∀y∈l,f x=f y->x=y)->(l.map f).Nodup
 |[],_,_=>by simp
 |a::l,h,k=>by
  have h':=jL.mp h;rw[gF];refine jL.mpr ⟨λq=>?_,Gf h'.2 λx hx y hy=>k x (e5 _ hx) y (e5 _ hy)⟩;fin2
def i4(rows:aZ)(c:aj)(i:Nat):aj:=c.getD i 0::(rows.getD i []).map λj=>c.getD j 0
def KI(T:gq rows W)(hi:i<rows.length)(hj:j<rows.length):
  i4 rows c i=i4 rows c j↔c.getD i 0=c.getD j 0/\ ∀k,k<W->c.getD (nx rows i k) 0=c.getD (nx rows j k) 0:=by
 unfold i4;constructor
 ·intro h;obtain⟨h1,h2⟩:=arn h;refine⟨h1,λk hk=>?_⟩;have a:k<(rows.getD i []).length:=by rw[T.l5 hi];exact hk
  have b:k<(rows.getD j []).length:=by rw[T.l5 hj];exact hk
  have e:=congrArg (λl:aj=>l[k]?) h2;simp only[gP,eh a,eh b,J9]at e
  unfold nx
  rw[cr a,cr b]
  exact bv e
 ·rintro⟨h1,h2⟩;rw[h1];congr 1;apply lC
  ·rw[ax,ax,T.l5 hi,T.l5 hj]
  ·intro k a b;rw[iY,iY];rw[ax]at a b;have:=h2 k (by rw[T.l5 hi]at a;exact a);unfold nx at this
   rw[cr a,cr b]at this
   exact this
noncomputable def fg(rows:aZ)(c:aj):aj:=
 let Ru:=(aU rows.length).map (i4 rows c);Ru.map λx=>Ru.eraseDups.idxOf x
def KJ(rows:aZ)(c:aj):(fg rows c).length=rows.length:=by
 unfold fg;simp
def Rv(hi:i<rows.length):(fg rows c).getD i 0=((aU rows.length).map (i4 rows c)).eraseDups.idxOf (i4 rows c i):=by
 rw[cr (by rw[KJ];exact hi)];unfold fg;simp
def Gg(hi:i<rows.length)(hj:j<rows.length):(fg rows c).getD i 0=(fg rows c).getD j 0↔i4 rows c i=i4 rows c j:=by
 rw[Rv hi,Rv hj];constructor
 ·intro e;refine KG ?_ e;rw[Ge]
  exact xf (lF.mpr hi)
 ·intro e;rw[e]
def Rw(hc:c.length=rows.length):((aU rows.length).map (i4 rows c)).map (λx=>x.headD 0)=c:=by
 apply lC
 ·simp[hc]
 ·intro i a b;simp[i4];lk
def acC(hc:c.length=rows.length):c.eraseDups.length<=((aU rows.length).map (i4 rows c)).eraseDups.length:=by
 have e:=KF (λx:aj=>x.headD 0) ((aU rows.length).map (i4 rows c));rw[Rw hc]at e;rw[<-e];refine gn (Au _ _ (aW _)) ?_;simp
def acD(hc:c.length=rows.length)(h:((aU rows.length).map (i4 rows c)).eraseDups.length=c.eraseDups.length)
  (hi:i<rows.length)(hj:j<rows.length)(e:c.getD i 0=c.getD j 0):i4 rows c i=i4 rows c j:=by
 have e1:=KF (λx:aj=>x.headD 0) ((aU rows.length).map (i4 rows c));rw[Rw hc]at e1;have nd:(((aU rows.length).map (i4 rows c)).eraseDups.map (λx:aj=>x.headD 0)).Nodup:=by
  apply Rs;rw[e1,ax,h]
 refine KH nd _ (Ge.mpr (xf (lF.mpr hi))) _ (Ge.mpr (xf (lF.mpr hj))) ?_;exact e
def acE(rows:aZ)(c:aj):(fg rows c).eraseDups.length=((aU rows.length).map (i4 rows c)).eraseDups.length:=by
 unfold fg;rw[<-KF,Rt,ax];exact Gf (acB _) λx hx y _ e=>KG hx e
def acF(rows:aZ)(f:Nat)(c:aj):refined rows (f+1) c=if((aU rows.length).map (i4 rows c)).eraseDups.length=c.eraseDups.length then fg rows c else refined rows f (fg rows c):=rfl
def Rx(T:gq rows W)(h:l6 rows W tk c):l6 rows W tk (fg rows c):=λi j hi hj a=>by
 rw[Gg hi hj,KI T hi hj];exact⟨h i j hi hj a,λk hk=>h _ _ (T.lt hi hk) (T.lt hj hk) (a.next hi hj hk)⟩
theorem Ry{W:Nat}{tk:List Bool}(T:gq rows W): ∀f c,c.length=rows.length->rows.length<f+c.eraseDups.length->l6 rows W tk c->(∀i j,i<rows.length->j<rows.length->c.getD i 0=c.getD j 0->tk.getD i false=tk.getD j false)->(refined rows f c).length=rows.length/\l6 rows W tk (refined rows f c)/\kN rows W tk (refined rows f c)
 |0,c,hl,hf,_,_=>by
  have:=Au _ c (aW _);lia
 |f+1,c,hl,hf,hc,ht=>by
  rw[acF];by_cases h:((aU rows.length).map (i4 rows c)).eraseDups.length=c.eraseDups.length
  ·rw[if_pos h];refine⟨KJ rows c,Rx T hc,λi j hi hj e=>?_⟩;rw[Gg hi hj]at e;have e':=(KI T hi hj).mp e;refine⟨ht i j hi hj e'.1,λk hk=>?_⟩;rw[Gg (T.lt hi hk) (T.lt hj hk)];exact acD hl h (T.lt hi hk) (T.lt hj hk) (e'.2 k hk)
  ·rw[if_neg h];have dJ:=acC (rows:=rows) hl;refine Ry T f (fg rows c) (KJ rows c) ?_ (Rx T hc) λi j hi hj e=>?_
   ·rw[acE];lia
   ·rw[Gg hi hj]at e;exact ht i j hi hj ((KI T hi hj).mp e).1
noncomputable def Li(rows:aZ)(i:Nat):aj:=cP [0] (rows.take i).flatten
structure Av(rows:aZ):Prop where
 kO: ∀i,i<=rows.length->Li rows i=aU (Li rows i).length
 le: ∀i,i<=rows.length->(Li rows i).length<=rows.length
 gt: ∀i,i<rows.length->i<(Li rows i).length
 all:(Li rows rows.length).length=rows.length
def acG(rows:aZ):Li rows 0=[0]:=rfl
def KL(h:i<rows.length):Li rows (i+1)=cP (Li rows i) (rows.getD i []):=by
 unfold Li;rw[<-vg,cr h,fJ h,Qw];simp
def Ek(c:aj)(i:Nat):aj:=((aU i).map λj=>c.getD j 0).eraseDups
def Pk(rows:aZ)(c:aj)(i:Nat):aj:=((Li rows i).map λj=>c.getD j 0).eraseDups
def xz(c:aj)(i:Nat):Ek c (i+1)=aB (Ek c i) (c.getD i 0):=by
 unfold Ek;rw[tS,tS,lD,bI,vg];rfl
def vh:x∈Ek c i↔ ∃j,j<i/\c.getD j 0=x:=by
 unfold Ek;simp
def Rz(h:i<rows.length):Pk rows c (i+1)=cP (Pk rows c i) ((rows.getD i []).map λj=>c.getD j 0):=by
 unfold Pk;rw[tS,tS,KL h,KE]
def acH(h:i<=m):aU i<+:aU m:=by
 have:m=i+(m-i):=by lia
 rw[this,List.range_add];simp
def acI{α:Type}[BEq α][LawfulBEq α]{l r:List α}(h:l<+:r):l.eraseDups<+:r.eraseDups:=by
 obtain⟨t,rfl⟩:=h;fin2
def acJ(B:Av rows)(h:i<=rows.length)(hk:k<=(Li rows i).length):Ek c k<+:Pk rows c i:=by
 unfold Ek Pk;rw[B.kO i h];exact acI ((acH hk).map _)
def KM(hi:i<n)(h:¬c.getD i 0∈Ek c i):(aU n).findIdx (λj=>c.getD j 0==c.getD i 0)=i:=by
 rw[List.findIdx_eq (by simpa using hi)];refine⟨by simp,λj hj=>?_⟩;simp only[xg];apply arD.mpr;intro e;exact h (vh.mpr ⟨j,hj,eq_of_beq e⟩)
def acK(rows:aZ)(c:aj)(f:Nat)(done:aj)(q:Nat)(r:aj):
  inTurn rows c (f+1) done (q::r)=inTurn rows c f (done++[q]) (r++(((rows.getD ((aU rows.length).findIdx λi=>c.getD i 0==q) []).map λj=>c.getD j 0).eraseDups).filter λx=>!(done++(q::r)).contains x):=rfl
def acL(rows:aZ)(c:aj)(f:Nat)(done:aj):inTurn rows c f done []=done:=by
 cases f<;>rfl
def acM(T:gq rows W)(S:kN rows W tk c)(h:i<rows.length)(hm:c.getD i 0∈Ek c i):Pk rows c (i+1)=Pk rows c i:=by
 rw[Rz h];apply KB;intro x hx;obtain⟨j,hj,e⟩:=vh.mp hm;have qw:j<rows.length:=by lia
 obtain⟨t,ht,rfl⟩:=cQ.mp hx;obtain⟨k,hk,rfl⟩:=kD ht;have RA:k<W:=by rw[<-T.l5 h];exact hk
 have st:=(S j i qw h e).2 k RA;unfold nx at st;rw[cr (l:=rows.getD i []) hk]at st;rw[<-st];have kP:k<(rows.getD j []).length:=by rw[T.l5 qw];exact RA
 have m1:(rows.getD j []).getD k 0∈Li rows (j+1):=by
  rw[KL qw,rQ];exact .inr (eU kP)
 have mono: ∀d,j+1+d<=rows.length-> ∀y,y∈Li rows (j+1)->y∈Li rows (j+1+d):=by
  intro d;induction d with
  |zero=>intro _ y hy;exact hy
  |succ d ih=>
   intro hd y hy;rw[<-abV,KL (by lia),rQ]
   exact .inl (ih (by lia) y hy)
 have m2:=mono (i-(j+1)) (by omega) _ m1;rw[show j+1+(i-(j+1))=i by omega]at m2;unfold Pk;rw[Ge]
 exact xf m2
theorem KN{rows:aZ}{W:Nat}{tk:List Bool}{c:aj}(T:gq rows W)(S:kN rows W tk c)(B:Av rows){F:Nat}: ∀i,i<=rows.length->(Ek c i).length<=F->inTurn rows c F [] [c.getD 0 0]=inTurn rows c (F-(Ek c i).length) (Ek c i) ((Pk rows c i).drop (Ek c i).length)
 |0,_,_=>by
  unfold Pk Ek;rw[acG];simp;rfl
 |i+1,hi,hF=>by
  have h_:i<rows.length:=by lia
  by_cases hm:c.getD i 0∈Ek c i
  ·rw[acM T S h_ hm,xz,j6 hm];rw[xz,j6 hm]at hF;exact KN T S B i (by lia) hF
  ·have e1:Ek c (i+1)=Ek c i++[c.getD i 0]:=by rw[xz,l0 hm]
   have e2:(Ek c (i+1)).length=(Ek c i).length+1:=by rw[e1];simp
   rw[KN T S B i (by lia) (by lia)];have p1:Ek c (i+1)<+:Pk rows c i:=acJ B (by lia) (B.gt i h_);obtain⟨r,hr⟩:=p1;have d1:(Pk rows c i).drop (Ek c i).length=c.getD i 0::r:=by
    rw[←hr,e1,z7,List.drop_left];rfl
   rw[d1,show F-(Ek c i).length=(F-(Ek c (i+1)).length)+1 by lia,acK,KM h_ hm,<-e1];congr 1;have e3:Ek c i++c.getD i 0::r=Pk rows c i:=by lk
   have e4:Pk rows c (i+1)=Ek c (i+1)++(r++((((rows.getD i []).map λj=>c.getD j 0).eraseDups).filter λx=>!(Ek c i++c.getD i 0::r).contains x)):=by
    rw[Rz h_,Gd,e3,<-z7,hr]
   rw[e4,List.drop_left]
def acN(T:gq rows W)(S:kN rows W tk c)(B:Av rows)(h:(Ek c rows.length).length<=F):
  inTurn rows c F [] [c.getD 0 0]=Ek c rows.length:=by
 rw[KN T S B rows.length (aW _) h];have e:Pk rows c rows.length=Ek c rows.length:=by
  unfold Pk Ek;rw[B.kO _ (aW _),B.all]
 rw[e,List.drop_length,acL]
noncomputable def c6(c:aj)(n:Nat):aj:=(aU n).filter λi=>!(Ek c i).contains (c.getD i 0)
def KO(c:aj)(n:Nat):c6 c (n+1)=c6 c n++(if c.getD n 0∈Ek c n then[]else[n]):=by
 unfold c6;rw[lD,xh];fin2
theorem vi(c:aj): ∀n,Ek c n=(c6 c n).map λi=>c.getD i 0
 |0=>rfl
 |n+1=>by
  rw[xz,KO,bI,<-vi c n];by_cases h:c.getD n 0∈Ek c n
  ·rw[j6 h,if_pos h];simp
  ·rw[l0 h,if_neg h];rfl
def vj:i∈c6 c n↔i<n/\¬c.getD i 0∈Ek c i:=by
 unfold c6;simp
theorem KP{α:Type}(f:α->Nat)(x:Nat): ∀l:List α,(l.map f).idxOf x=l.findIdx λy=>f y==x
 |[]=>rfl
 |a::l=>by
  rw[gF,Ka,abz,KP f x l]
theorem RB{α:Type}{p q:α->Bool}: ∀{l:List α},(∀x∈l,p x=q x)->l.findIdx p=l.findIdx q
 |[],_=>rfl
 |a::l,h=>by
  rw[abz,abz,h a (eG ..),RB λx hx=>h x (e5 _ hx)]
def RC(h: ∀i j,i<n->j<n->(c.getD i 0=c.getD j 0↔d.getD i 0=d.getD j 0)):c6 c n=c6 d n:=by
 apply zZ;intro i hi;rw[lF]at hi;congr 1;apply u9.mpr;rw[lW,lW,vh,vh]
 constructor
 ·rintro⟨j,hj,e⟩
  exact⟨j,hj,(h j i (by lia) hi).mp e⟩
 ·rintro⟨j,hj,e⟩
  exact⟨j,hj,(h j i (by lia) hi).mpr e⟩
def acO(h: ∀i j,i<n->j<n->(c.getD i 0=c.getD j 0↔d.getD i 0=d.getD j 0))(hj:j<n):(Ek c n).idxOf (c.getD j 0)=(Ek d n).idxOf (d.getD j 0):=by
 rw[vi,vi,KP,KP,RC h];apply RB;intro i hi;have h_:=(vj.mp hi).1;fin2
noncomputable def l7(rows:aZ)(tk:List Bool)(c:aj):Machine:=
 ⟨(c6 c rows.length).map λi=>(rows.getD i []).map λj=>(Ek c rows.length).idxOf (c.getD j 0),(c6 c rows.length).map λi=>tk.getD i false⟩
def KQ(rows:aZ)(takes:List Bool):Machine:=
 let c:=refined rows (MOST+1) (takes.map λb=>b.toNat);let o:=inTurn rows c (MOST+1) [] [c.getD 0 0];let jP (q:Nat):Nat:=(aU rows.length).findIdx λi=>c.getD i 0==q
 ⟨o.map λq=>(rows.getD (jP q) []).map λj=>o.idxOf (c.getD j 0),o.map λq=>takes.getD (jP q) false⟩
def RE{tk:List Bool}(h:i<tk.length):(tk.map λb=>b.toNat).getD i 0=(tk.getD i false).toNat:=by
 lk
def acP{a b:Bool}(h:a.toNat=b.toNat):a=b:=by
 cases a<;>cases b<;>lk
def acQ(T:gq rows W)(B:Av rows)(hn:rows.length<=MOST)(ht:tk.length=rows.length)
  (d1:l6 rows W tk d)(d2:kN rows W tk d):KQ rows tk=l7 rows tk d:=by
 have hb: ∀i j,i<rows.length->j<rows.length->((tk.map λb=>b.toNat).getD i 0=(tk.map λb=>b.toNat).getD j 0↔tk.getD i false=tk.getD j false):=λi j hi hj=>by
  rw[RE (by lia),RE (by lia)];exact⟨acP,λe=>by rw[e]⟩
 obtain⟨r1,r2,r3⟩:=Ry (tk:=tk) T (MOST+1) (tk.map λb=>b.toNat) (by lk) (by lia)
  (λi j hi hj a=>(hb i j hi hj).mpr (a.tk hi hj)) (λi j hi hj e=>(hb i j hi hj).mp e)
 unfold KQ;generalize refined rows (MOST+1) (tk.map λb=>b.toNat)=c at r1 r2 r3⊢;have hEl:(Ek c rows.length).length<=MOST+1:=by
  have:=Au _ ((aU rows.length).map λj=>c.getD j 0) (aW _);unfold Ek;fin2
 have hk: ∀i j,i<rows.length->j<rows.length->(c.getD i 0=c.getD j 0↔d.getD i 0=d.getD j 0):=λi j hi hj=>acA r2 r3 d1 d2 hi hj;simp only[acN T r3 B hEl];unfold l7;rw[RC (c:=d) (d:=c) λi j hi hj=>(hk i j hi hj).symm];congr 1
 ·conv=>lhs;arg 2;rw[vi]
  rw[dy];apply fy;intro i hi;obtain⟨Gh,ba⟩:=vj.mp hi;show(rows.getD ((aU rows.length).findIdx λj=>c.getD j 0==c.getD i 0) []).map _=_;rw[KM Gh ba];apply fy;intro j hj;have qw:=T.d8 _ (eU Gh) j hj;exact acO hk qw
 ·rw[vi,dy];apply fy;intro i hi;obtain⟨Gh,ba⟩:=vj.mp hi;show tk.getD ((aU rows.length).findIdx λj=>c.getD j 0==c.getD i 0) false=_;rw[KM Gh ba]
section
variable{α:Type}[BEq α][LawfulBEq α]
noncomputable def fh(succ:α->List α):Nat->Nat->List α->List α
 |0,_,L=>L
 |f+1,i,L=>match L[i]? with
  |none=>L
  |some s=>fh succ f (i+1) (cP L (succ s))
def xA{succ:α->List α}{i:Nat}{L:List α}(h:L[i]?=none): ∀f,fh succ f i L=L
 |0=>rfl
 |f+1=>by unfold fh;rw[h]
def Aw{s:α}(h:L[i]?=some s):fh succ (f+1) i L=fh succ f (i+1) (cP L (succ s)):=by
 rw[fh,h]
theorem Gi(succ:α->List α): ∀f i L,L<+:fh succ f i L
 |0,_,_=>QM
 |f+1,i,L=>by
  cases h:L[i]? with
  |none=>rw[xA h];exact QM
  |some s=>rw[Aw h];exact(Gc _ _).trans (Gi succ f (i+1) _)
theorem RF(succ:α->List α): ∀f i L,L.Nodup->(fh succ f i L).Nodup
 |0,_,_,h=>h
 |f+1,i,L,h=>by
  cases e:L[i]? with
  |none=>rw[xA e];exact h
  |some s=>rw[Aw e];exact RF succ f (i+1) _ (KA h)
def Lk(succ:α->List α)(a:α)(S:List α)(k:Nat):List α:=cP [a] ((S.take k).flatMap succ)
def acR{S:List α}(h:S[k]?=some s):Lk succ a S (k+1)=cP (Lk succ a S k) (succ s):=by
 unfold Lk;obtain⟨hk,e⟩:=gm.mp h;rw[<-vg,fJ hk,abo,e];simp
def RG{l r:List α}(h:l<+:r)(hi:i<l.length):l[i]?=r[i]?:=by
 obtain⟨t,rfl⟩:=h
 rw[FB hi]
def Gj{S:List α}(hS:fh succ f 0 [a]=S)(hf:S.length<f): ∀k,k<=S.length->fh succ (f-k) k (Lk succ a S k)=S/\Lk succ a S k<+:S/\(k<S.length->k<(Lk succ a S k).length):=by
 have key: ∀k,k<=S.length->fh succ (f-k) k (Lk succ a S k)=S->Lk succ a S k<+:S/\(k<S.length->k<(Lk succ a S k).length):=by
  intro k hk e;have p:Lk succ a S k<+:S:=by
   have:=Gi succ (f-k) k (Lk succ a S k);lk
  refine⟨p,λh=>?_⟩;apply arU;intro h';rw[xA (JW h')]at e;rw[e]at h';lia
 intro k;induction k with
 |zero=>
  intro hk;have e:fh succ (f-0) 0 (Lk succ a S 0)=S:=by
   rw[QV];exact hS
  exact⟨e,key 0 hk e⟩
 |succ k ih=>
  intro hk;obtain⟨e,p,g⟩:=ih (by lia);have kP:=g (by lia);have hs:S[k]?=some S[k]:=eh (by lia);have l8:=(RG p kP).trans hs;have e2:fh succ (f-(k+1)) (k+1) (Lk succ a S (k+1))=S:=by
   rw[acR hs,<-Aw l8,show f-(k+1)+1=f-k by lia];exact e
  exact⟨e2,key (k+1) hk e2⟩
def RH{S:List α}(hS:fh succ f 0 [a]=S)(hf:S.length<f):Lk succ a S S.length=S:=by
 obtain⟨e,p,_⟩:=Gj hS hf S.length (aW _);have hl:=p.length_le;rw[xA (JW hl)]at e;exact e
def RI{S L:List α}(nd:S.Nodup)(h:L<+:S):L.map S.idxOf=aU L.length:=by
 apply lC
 ·simp
 ·intro i a b;rw[iY,xg];rw[ax]at a;have e:L[i]=S[i]'(iC a h.length_le):=by
   have:=RG h a
   rw[eh a,eh (iC a h.length_le)]at this
   exact bv this
  rw[e]
  exact nd.idxOf_getElem i _
def iE(succ:α->List α)(S:List α):aZ:=S.map λs=>(succ s).map λt=>S.idxOf t
def RJ(hS:fh succ f 0 [a]=S)(hf:S.length<f){s t:α}(hs:s∈S)(ht:t∈succ s):t∈S:=by
 rw[<-RH hS hf];unfold Lk;rw[fK,rQ];fin2
def acS{S:List α}(hS:fh succ f 0 [a]=S)(hf:S.length<f):Av (iE succ S):=by
 have nd:S.Nodup:=by rw[<-hS];exact RF succ f 0 [a] (by simp)
 have hn:(iE succ S).length=S.length:=by unfold iE;simp
 have p0:[a]<+:S:=by
  have:=Gi succ f 0 [a];lk
 have a0:S.idxOf a=0:=by
  have:=RI nd p0;simpa using this
 have aS:a∈S:=p0.subset (by simp);have key: ∀i,i<=S.length->Li (iE succ S) i=(Lk succ a S i).map S.idxOf:=by
  intro i hi;unfold Li Lk;rw[<-KD]
  ·rw[arj,a0];congr 1;unfold iE;rw[<-abN,<-abD,List.map_flatMap]
  ·intro y hy z _ e;refine KG ?_ e;rcases cN.mp hy with h|h
   ·lk
   ·obtain⟨s,hs,ht⟩:=List.mem_flatMap.mp h;exact RJ hS hf (List.mem_of_mem_take hs) ht
 have len: ∀i,i<=S.length->(Li (iE succ S) i).length=(Lk succ a S i).length:=λi hi=>by lk
 refine⟨λi hi=>?_,λi hi=>?_,λi hi=>?_,?_⟩
 ·rw[hn]at hi;rw[len i hi,key i hi];exact RI nd (Gj hS hf i hi).2.1
 ·rw[hn]at hi⊢;rw[len i hi];exact(Gj hS hf i hi).2.1.length_le
 ·rw[hn]at hi;rw[len i (lY hi)];exact(Gj hS hf i (lY hi)).2.2 hi
 ·rw[hn,len _ (aW _),RH hS hf]
def RK{S:List α}(hS:fh succ f 0 [a]=S)(hf:S.length<f)(hW: ∀s,(succ s).length=W):gq (iE succ S) W:=by
 refine⟨λr hr=>?_,λr hr t ht=>?_⟩
 ·obtain⟨s,_,rfl⟩:=cQ.mp hr;rw[ax,hW]
 ·obtain⟨s,hs,rfl⟩:=cQ.mp hr;obtain⟨u,hu,rfl⟩:=cQ.mp ht;unfold iE;rw[ax];exact aa0.mpr (RJ hS hf hs hu)
end
def iF(d:Drawing)(s:aj):aZ:=(aU 256).map λc=>d.next s c
theorem RL(d:Drawing): ∀f done j7,setsOf d f done j7=fh (iF d) f done.length (done++j7)
 |0,_,_=>rfl
 |f+1,done,[]=>by
  rw[xA (by simp)];show done=done++[];simp
 |f+1,done,s::r=>by
  have e:(done++s::r)[done.length]?=some s:=by simp
  rw[Aw e];show setsOf d f (done++[s]) (r++_)=_;rw[RL d f,Gd,dS];congr 1;simp[iF]
def xB(d:Drawing):aj:=if d.takes=[]then[]else[0]
noncomputable def gQ(d:Drawing):aZ:=fh (iF d) (MOST+1) 0 [xB d]
def RN(d:Drawing):machineOf d=if MOST<(gQ d).length then none else some (KQ (iE (iF d) (gQ d)) ((gQ d).map λs=>s.any λq=>d.takes.getD q false)):=by
 have e:setsOf d (MOST+1) [] [if d.takes=[]then[]else[0]]=gQ d:=RL d (MOST+1) [] _;have e2: ∀S:aZ,(S.map λs=>(aU 256).map λc=>S.idxOf (d.next s c))=iE (iF d) S:=λS=>by
  unfold iE iF;simp
 unfold machineOf;rw[e];simp only[e2];rfl
def acT(h:MOST<(gQ d).length):machineOf d=none:=by rw[RN,if_pos h]
def acU(h:(gQ d).length<=MOST)
  (d1:l6 (iE (iF d) (gQ d)) 256 ((gQ d).map λs=>s.any λq=>d.takes.getD q false) b)
  (d2:kN (iE (iF d) (gQ d)) 256 ((gQ d).map λs=>s.any λq=>d.takes.getD q false) b):
  machineOf d=some (l7 (iE (iF d) (gQ d)) ((gQ d).map λs=>s.any λq=>d.takes.getD q false) b):=by
 rw[RN,if_neg (by lia)];have hf:(gQ d).length<MOST+1:=by lia
 have hl:(iE (iF d) (gQ d)).length=(gQ d).length:=by unfold iE;simp
 have T:gq (iE (iF d) (gQ d)) 256:=RK (f:=MOST+1) (a:=xB d) rfl hf λs=>by unfold iF;simp
 have B:=acS (f:=MOST+1) (a:=xB d) rfl hf;rw[acQ T B (by lia) (by rw[hl,ax]) d1 d2]
section
variable{rows:aZ}{W:Nat}{tk:List Bool}
structure pz(rows:aZ)(W:Nat)(tk:List Bool)(bo b:aj)(N:Nat)(mv:Nat->Prop):Prop where
 xC:l6 rows W tk b
 takes: ∀i j,i<rows.length->j<rows.length->b.getD i 0=b.getD j 0->tk.getD i false=tk.getD j false
 Gk: ∀i j,i<rows.length->j<rows.length->b.getD i 0=b.getD j 0-> ∀k,k<W->bo.getD (nx rows i k) 0=bo.getD (nx rows j k) 0
 Ax: ∀i,i<rows.length->bo.getD i 0<N
 fi: ∀i,i<rows.length->¬mv i->bo.getD i 0=b.getD i 0
 new: ∀i,i<rows.length->mv i->N<=b.getD i 0
def oa(rows:aZ)(W:Nat)(mv:Nat->Prop)(i:Nat):Prop:= ∃k,k<W/\mv (nx rows i k)
def RO(rows:aZ)(W:Nat)(b b':aj)(mv:Nat->Prop):Prop:=
 ∀i j,i<rows.length->j<rows.length->(b'.getD i 0=b'.getD j 0↔b.getD i 0=b.getD j 0/\(oa rows W mv i↔oa rows W mv j)/\(oa rows W mv i-> ∀k,k<W->b.getD (nx rows i k) 0=b.getD (nx rows j k) 0))
def pz.next(T:gq rows W)(R:pz rows W tk bo b N mv)(P:RO rows W b b' mv)
  (Ax: ∀i,i<rows.length->b.getD i 0<N')(fi: ∀i,i<rows.length->¬KR i->b.getD i 0=b'.getD i 0)(new: ∀i,i<rows.length->KR i->N'<=b'.getD i 0):pz rows W tk b b' N' KR where
 xC:=λi j hi hj a=>by
  have jP: ∀i j,i<rows.length->j<rows.length->rR rows W tk i j->oa rows W mv i->oa rows W mv j:=by
   rintro i j hi hj a ⟨k,hk,m⟩;refine⟨k,hk,aaX λh=>?_⟩;have e1:=R.xC _ _ (T.lt hi hk) (T.lt hj hk) (a.next hi hj hk);have e2:=R.fi _ (T.lt hj hk) h;have e3:=R.Ax _ (T.lt hj hk);have e4:=R.new _ (T.lt hi hk) m;lia
  have sym:rR rows W tk j i:=by
   obtain⟨r,hb,hr⟩:=a;refine⟨λx y=>r y x,λx y h hx hy=>?_,hr⟩;have:=hb y x h hy hx;exact⟨this.1.symm,this.2⟩
  rw[P i j hi hj];exact⟨R.xC i j hi hj a,⟨jP i j hi hj a,jP j i hj hi sym⟩,λ_ k hk=>R.xC _ _ (T.lt hi hk) (T.lt hj hk) (a.next hi hj hk)⟩
 takes:=λi j hi hj e=>R.takes i j hi hj ((P i j hi hj).mp e).1;Gk:=λi j hi hj e k hk=>by
  obtain⟨e1,e2,e3⟩:=(P i j hi hj).mp e;by_cases t:oa rows W mv i
  ·exact e3 t k hk
  ·have t':=λq=>t (e2.mpr q);rw[<-R.fi _ (T.lt hi hk) λq=>t ⟨k,hk,q⟩,<-R.fi _ (T.lt hj hk) λq=>t' ⟨k,hk,q⟩];exact R.Gk i j hi hj e1 k hk
 Ax:=Ax;fi:=fi;new:=new
def pz.acV(T:gq rows W)(R:pz rows W tk bo b N mv)(h: ∀i,¬mv i):kN rows W tk b:=λi j hi hj e=>
 ⟨R.takes i j hi hj e,λk hk=>by
  rw[<-R.fi _ (T.lt hi hk) (h _),<-R.fi _ (T.lt hj hk) (h _)];exact R.Gk i j hi hj e k hk⟩
def pz.first(hb: ∀i j,i<rows.length->j<rows.length->(b.getD i 0=b.getD j 0↔tk.getD i false=tk.getD j false))
  (fi: ∀i,i<rows.length->¬mv i->b.getD i 0=0)(new: ∀i,i<rows.length->mv i->1<=b.getD i 0):pz rows W tk (cu rows.length 0) b 1 mv where
 xC:=λi j hi hj a=>(hb i j hi hj).mpr (a.tk hi hj);takes:=λi j hi hj e=>(hb i j hi hj).mp e;Gk:=λi j hi hj e k hk=>by
  have z: ∀n x,(cu n 0).getD x 0=0:=fun n x=>by
   rw[xb,List.getElem?_replicate];split<;>rfl
  rw[z,z]
 Ax:=λi hi=>by
  lk
 fi:=λi hi h=>by
  lk
 new:=new
end
section
variable{α β:Type}
def cY:aj->List α->List α
 |[],_=>[]
 |_::_,[]=>[]
 |[s],t::_=>cu (256-s) t
 |s::s'::aD,t::r=>cu (s'-s) t++cY (s'::aD) r
theorem Ay(f:α->β): ∀ss r,cY ss (r.map f)=(cY ss r).map f
 |[],_=>rfl
 |_::_,[]=>rfl
 |[s],t::_=>by simp[cY]
 |s::s'::aD,t::r=>by
  rw[gF,cY,cY,Ay f (s'::aD) r,bI,ark]
def fL(ss:aj):Prop:=ss.Pairwise (·< ·)/\ ∀s∈ss,s<256
def fL.tail(h:fL (s::ss)):fL ss:=⟨(rM.mp h.1).2,λx hx=>h.2 x (e5 _ hx)⟩
def fL.lt(h:fL (s::s'::ss)):s<s':=(rM.mp h.1).1 s' (eG ..)
theorem KS[BEq α][LawfulBEq α]: ∀ss(r ap:List α),fL ss->r.length=ss.length->cP ap (cY ss r)=cP ap r
 |[],r,ap,_,hl=>by
  have:=Fy hl;subst this;rfl
 |_::_,[],_,_,hl=>by simp at hl
 |[s],t::r,ap,h,hl=>by
  have:=Fy (by simpa using hl);subst this;have:=h.2 s (eG ..);rw[cY,Rq ap t _ (by lia)];rfl
 |s::s'::aD,t::r,ap,h,hl=>by
  have:=h.lt;rw[cY,vg,Rq ap t _ (by lia),KS (s'::aD) r _ h.tail (by simpa using hl)];rfl
theorem RQ(g:Nat->α): ∀ss s,fL (s::ss)->(∀c,s<=c->c<256-> ∀k,k∈s::ss->k<=c->(∀k',k'∈s::ss->k'<=c->k'<=k)->g c=g k)->cY (s::ss) ((s::ss).map g)=(Kk s (256-s)).map g
 |[],s,h,hc=>by
  show cu (256-s) (g s)=_;apply lC
  ·simp
  ·intro i a b
   simp at a
   simp
   exact(hc (s+i) (by lia) (by omega) s (by simp) (by lia) (by simp)).symm
 |s'::aD,s,h,hc=>by
  have hs:=h.lt;have l8:=h.2 s' (by simp);have ih:=RQ g aD s' h.tail λc h1 h2 k hk h3 h4=>hc c (by lia) h2 k (e5 _ hk) h3 λk' kP h5=>by
   fin2
  show cu (s'-s) (g s)++cY (s'::aD) ((s'::aD).map g)=_;rw[ih,show 256-s=(s'-s)+(256-s')by lia,<-aq4,bI];congr 1
  ·apply lC
   ·simp
   ·intro i a b;simp at a;simp;refine(hc (s+i) (by lia) (by lia) s (by simp) (by lia) λk' kP h5=>?_).symm;rcases cO.mp kP with rfl|kP
    ·lia
    ·have:s'<=k':=by
      rcases cO.mp kP with rfl|q
      ·lia
      ·exact lY ((rM.mp h.tail.1).1 k' q)
     lia
  ·rw[show s+(s'-s)=s' by lia]
theorem KU: ∀ss s(r:List α),fL (s::ss)->r.length=ss.length+1->(cY (s::ss) r).length=256-s
 |[],s,t::r,_,_=>by simp[cY]
 |s'::aD,s,t::r,h,hl=>by
  have h1:=h.lt;have h2:=h.2 s' (by simp);rw[cY,dS,FE,KU aD s' r h.tail (by simpa using hl)];lia
noncomputable def kR(ss:aj)(c:Nat):Nat:=(ss.filter λs=>decide (s<=c)).length-1
theorem Gm(d:α): ∀ss s r c,fL (s::ss)->r.length=ss.length+1->s<=c->c<256->(cY (s::ss) r).getD (c-s) d=r.getD (kR (s::ss) c) d/\kR (s::ss) c<ss.length+1
 |[],s,t::r,c,h,hl,h1,h2=>by
  have:kR [s] c=0:=by simp[kR,h1]
  rw[this];refine⟨?_,by lia⟩;rw[cY,cr (by simp;lia)];simp
 |s'::aD,s,t::r,c,h,hl,h1,h2=>by
  have hs:=h.lt;rw[cY];by_cases q:c<s'
  ·have e:kR (s::s'::aD) c=0:=by
    have:(s'::aD).filter (λs=>decide (s<=c))=[]:=by
     apply aa6.mpr;intro a ha;have:s'<=a:=by
      rcases cO.mp ha with rfl|q
      ·lia
      ·exact lY ((rM.mp h.tail.1).1 a q)
     simp;lia
    unfold kR
    rw[xc (by simpa using h1),this];rfl
   rw[e]
   refine⟨?_,by lia⟩
   rw[xb,FB (by simp;lia),eh (by simp;lia)]
   simp
  ·have ih:=Gm d aD s' r c h.tail (by simpa using hl) (by lia) h2;have p:0<((s'::aD).filter λs=>decide (s<=c)).length:=by
    lk
   have e:kR (s::s'::aD) c=kR (s'::aD) c+1:=by
    unfold kR
    rw[xc (by simpa using h1),nX]
    lia
   rw[e]
   refine⟨?_,by have:=ih.2;simp at this⊢;omega⟩
   rw[xb,JO (by simp;lia),FE,show c-s-(s'-s)=c-s' by lia,←xb,ih.1]
   simp
theorem RR: ∀ss s k hk,fL (s::ss)->kR (s::ss) ((s::ss)[k])=k
 |ss,s,0,_,h=>by
  have:ss.filter (λx=>decide (x<=s))=[]:=by
   apply aa6.mpr;intro a ha;have:=(rM.mp h.1).1 a ha;simp;omega
  unfold kR;lk
 |[],s,k+1,hk,h=>by simp at hk
 |s'::aD,s,k+1,hk,h=>by
  have ih:=RR aD s' k (by simpa using hk) h.tail;rw[List.getElem_cons_succ];have dJ:s'<=(s'::aD)[k]'(by simpa using hk):=by
   have m:=nY (l:=s'::aD) (n:=k) (by simpa using hk);rcases cO.mp m with q|q
   ·lia
   ·exact lY ((rM.mp h.tail.1).1 _ q)
  have hs:=h.lt;unfold kR at ih⊢;fin2
end
section
variable{rows:aZ}{s0:Nat}{ss:aj}{tk:List Bool}
def KW(h:fL (0::ss))(T:gq rows (0::ss).length)(hi:i<rows.length)(hc:c<256):
  nx (rows.map (cY (0::ss))) i c=nx rows i (kR (0::ss) c)/\kR (0::ss) c<(0::ss).length:=by
 unfold nx;have e:=Gm 0 ss 0 (rows.getD i []) c h (by rw[T.l5 hi];rfl) (cX _) hc;lk
def RT(h:fL (0::ss))(T:gq rows (0::ss).length)(hi:i<rows.length)(hk:k<(0::ss).length):
  nx rows i k=nx (rows.map (cY (0::ss))) i ((0::ss)[k]):=by
 rw[(KW h T hi (h.2 _ (nY hk))).1,RR ss 0 k hk h]
def acW(h:fL (0::ss))(T:gq rows (0::ss).length)(S:kN rows (0::ss).length tk b):kN (rows.map (cY (0::ss))) 256 tk b:=λi j hi hj e=>by
 rw[ax]at hi hj;obtain⟨a,c⟩:=S i j hi hj e;refine⟨a,λk hk=>?_⟩;have e1:=KW h T hi hk;have e2:=KW h T hj hk;lk
def acX(h:fL (0::ss))(T:gq rows (0::ss).length)(C:l6 rows (0::ss).length tk b):l6 (rows.map (cY (0::ss))) 256 tk b:=λi j hi hj a=>by
 rw[ax]at hi hj;refine C i j hi hj ?_;obtain⟨R,hb,hr⟩:=a;refine⟨R,λx y r hx hy=>?_,hr⟩;have q:=hb x y r (by lk) (by lk);refine⟨q.1,λk hk=>?_⟩;rw[RT h T hx hk,RT h T hy hk];exact q.2 _ (h.2 _ (nY hk))
end
noncomputable def gG(n m:Nat):aj:=(aU n).filter λq=>m.testBit q
def xD{n m q:Nat}:q∈gG n m↔q<n/\m.testBit q=true:=by
 unfold gG;rw[tG,lF]
def RU(h:m<2^n)(h':m'<2^n)(e:gG n m=gG n m'):m=m':=by
 apply arc;intro i;by_cases hi:i<n
 ·have:=@xD n m i;rw[e,xD]at this;lk
 ·rw[aqT (iC h (abk (by room) (by lia))),aqT (iC h' (abk (by room) (by lia)))]
def Az(d:Drawing)(m c x:Nat):Prop:= ∀q,x.testBit q=d.steps.any λy=>m.testBit y.a&&(y.b==q&&(decide (y.low<=c)&&decide (c<=y.high)))
def Az.lt(G:Good d)(h:Az d m c x):x<2^d.takes.length:=by
 apply Nat.lt_pow_two_of_testBit;intro i hi;rw[h i];apply arC.mpr;intro y hy q;have g:=(G y hy).2.1;simp at q;lia
def Az.gG(G:Good d)(h:Az d m c x):gG d.takes.length x=d.next (gG d.takes.length m) c:=by
 apply zZ;intro q hq;rw[h q];apply u9.mpr;rw[u6,u6];constructor
 ·rintro⟨y,hy,e⟩;exists y,hy;simp only[eA,lW,xD]at e⊢;exact⟨⟨(G y hy).1,e.1⟩,e.2⟩
 ·rintro⟨y,hy,e⟩;exists y,hy;simp only[eA,lW,xD]at e⊢;exact⟨e.1.2,e.2⟩
structure rS(d:Drawing)(ss:aj):Prop where
 st:fL (0::ss)
 low: ∀x∈d.steps,x.low∈0::ss
 high: ∀x∈d.steps,x.high+1<256->x.high+1∈0::ss
def rS.aA(G:Good d)(S:rS d ss)(hc:c<256)(hk:k<=c)(hm: ∀k',k'∈0::ss->k'<=c->k'<=k):d.next s c=d.next s k:=by
 apply zZ;intro q _;apply u9.mpr;rw[u6,u6];have key: ∀x∈d.steps,(x.low<=c/\c<=x.high↔x.low<=k/\k<=x.high):=by
  intro x hx;constructor
  ·rintro⟨a,b⟩;exact⟨hm _ (S.low x hx) a,by lia⟩
  ·rintro⟨a,b⟩;refine⟨by lia,Nat.le_of_not_lt λq=>?_⟩;have:=hm _ (S.high x hx (by lia)) (by lia)
   lia
 constructor
 ·rintro⟨x,hx,e⟩
  refine⟨x,hx,?_⟩
  simp only[eA,decide_eq_true_eq]at e⊢
  exact⟨e.1,e.2.1,(key x hx).mp e.2.2⟩
 ·rintro⟨x,hx,e⟩
  refine⟨x,hx,?_⟩
  simp only[eA,decide_eq_true_eq]at e⊢
  exact⟨e.1,e.2.1,(key x hx).mpr e.2.2⟩
structure iG(d:Drawing)(ss:aj)(m:Nat)(l:aj):Prop where
 len:l.length=(0::ss).length
 at_: ∀k(hk:k<(0::ss).length),Az d m ((0::ss)[k]) (l.getD k 0)
def iG.lt(G:Good d)(L:iG d ss m l): ∀x∈l,x<2^d.takes.length:=λx hx=>by
 obtain⟨k,hk,rfl⟩:=kD hx;have:=(L.at_ k (L.len▸hk)).lt G;rwa[cr hk]at this
def iG.map(G:Good d)(L:iG d ss m l):l.map (BM.gG d.takes.length)=(0::ss).map λc=>d.next (BM.gG d.takes.length m) c:=by
 apply lC
 ·rw[ax,ax,L.len]
 ·intro k a b;rw[ax]at a;rw[iY,iY,<-(L.at_ k (L.len▸a)).gG G,cr a]
def iG.succ(G:Good d)(S:rS d ss)(L:iG d ss m l):iF d (BM.gG d.takes.length m)=cY (0::ss) (l.map (BM.gG d.takes.length)):=by
 rw[L.map G,RQ (λc=>d.next (BM.gG d.takes.length m) c) ss 0 S.st λc _ hc k hk h1 h2=>S.aA G hc h1 h2];unfold iF;rw[aq3]
def iG.step(G:Good d)(S:rS d ss)(D:iG d ss m l)(hL: ∀x∈L,x<2^d.takes.length):
  cP (L.map (BM.gG d.takes.length)) (iF d (BM.gG d.takes.length m))=(cP L l).map (BM.gG d.takes.length):=by
 rw[D.succ G S,KS _ _ _ S.st (by rw[ax,D.len]),KD];have lt: ∀x∈L++l,x<2^d.takes.length:=λx hx=>by
  rcases cN.mp hx with h|h
  ·exact hL x h
  ·exact D.lt G x h
 intro y hy z hz e;exact RU (lt y hy) (lt z hz) e
def acY(d:Drawing):BM.gG d.takes.length (if d.takes=[]then 0 else 1)=xB d:=by
 unfold xB;by_cases h:d.takes=[]
 ·rw[if_pos h,if_pos h,h];rfl
 ·rw[if_neg h,if_neg h]
  cases hd:d.takes with
  |nil=>exact(h hd).elim
  |cons a r=>
   unfold BM.gG;rw[nX,Qr,xc (by room),List.filter_map];have:(aU r.length).filter ((λq=>Nat.testBit 1 q)∘Nat.succ)=[]:=by
    apply aa6.mpr;fin2
   rw[this];rfl
noncomputable def lJ(eK:Nat->aj)(L:aj):aZ:=L.map λm=>(eK m).map λx=>L.idxOf x
theorem RV{α β:Type}[BEq α][LawfulBEq α][BEq β][LawfulBEq β]{f:α->β}{x:α}: ∀{l:List α},(∀y∈l,f y=f x->y=x)->(l.map f).idxOf (f x)=l.idxOf x
 |[],_=>rfl
 |a::l,h=>by
  rw[gF,Ka,Ka,RV λy hy=>h y (e5 _ hy)];fin2
def acZ(G:Good d)(S:rS d ss)(hL: ∀x∈L,x<2^d.takes.length)(hl: ∀m∈L,iG d ss m (eK m)):
  iE (iF d) (L.map (BM.gG d.takes.length))=(lJ eK L).map (cY (0::ss)):=by
 unfold iE lJ;rw[dy,dy];apply fy;intro m hm;rw[aqM,aqM,(hl m hm).succ G S,<-Ay,dy];congr 1;apply fy;intro x hx;exact RV λy hy e=>RU (hL y hy) ((hl m hm).lt G x hx) e
def ac0{d:Drawing}(hT: ∀q,T.testBit q=d.takes.getD q false):((BM.gG d.takes.length m).any λq=>d.takes.getD q false)=decide (m&&&T≠0):=by
 apply u9.mpr;rw[u6,decide_eq_true_eq];constructor
 ·rintro⟨q,hq,e⟩ z;have:=congrArg (λx=>x.testBit q) z;simp only[ar6,Nat.zero_testBit]at this;rw[(xD.mp hq).2,hT,e]at this
  cases this
 ·intro h;obtain⟨q,hq⟩:=Nat.exists_testBit_of_ne_zero h;rw[ar6,eA,hT]at hq;refine⟨q,xD.mpr ⟨arU λdJ=>?_,hq.1⟩,hq.2⟩;lk
def made(G:Good d)(S:rS d ss)(hL: ∀x∈L,x<2^d.takes.length)(hl: ∀m∈L,iG d ss m (eK m))
  (hS:gQ d=L.map (BM.gG d.takes.length))(cS:L.length<=MOST)(hT: ∀q,T.testBit q=d.takes.getD q false)
  (c1:l6 (lJ eK L) (0::ss).length (L.map λm=>decide (m&&&T≠0)) b)(c2:kN (lJ eK L) (0::ss).length (L.map λm=>decide (m&&&T≠0)) b):
  machineOf d=some ⟨(c6 b L.length).map λi=>cY (0::ss) (((lJ eK L).getD i []).map λj=>(Ek b L.length).idxOf (b.getD j 0)),(c6 b L.length).map λi=>(L.map λm=>decide (m&&&T≠0)).getD i false⟩:=by
 have hf:(gQ d).length<MOST+1:=by rw[hS,ax];lia
 have e1:iE (iF d) (gQ d)=(lJ eK L).map (cY (0::ss)):=by rw[hS];exact acZ G S hL hl
 have e2:((gQ d).map λ(s:aj)=>s.any λ(q:Nat)=>d.takes.getD q false)=L.map λm=>decide (m&&&T≠0):=by
  rw[hS,dy];apply fy;intro m _;exact ac0 hT
 have el:(lJ eK L).length=L.length:=by unfold lJ;simp
 have TS:gq (lJ eK L) (0::ss).length:=by
  refine⟨λr hr=>?_,λr hr t ht=>?_⟩
  ·obtain⟨m,hm,rfl⟩:=cQ.mp hr;rw[ax,(hl m hm).len]
  ·have TB:gq (iE (iF d) (gQ d)) 256:=RK (f:=MOST+1) (a:=xB d) rfl hf λs=>by unfold iF;simp
   rw[e1]at TB;have:=TB.d8 (cY (0::ss) r) (xf hr) t ?_
   ·lk
   ·obtain⟨m,hm,rfl⟩:=cQ.mp hr;have q:t∈cP [] (cY (0::ss) ((eK m).map λx=>L.idxOf x)):=by
     rw[KS _ _ _ S.st (by rw[ax,(hl m hm).len]),rQ];exact .inr ht
    rw[rQ]at q;simpa using q
 rw[acU (b:=b) (by lia) (by rw[e1,e2];exact acX S.st TS c1) (by rw[e1,e2];exact acW S.st TS c2),e1,e2];refine congrArg some ?_;unfold l7;rw[ax,el];refine congr (congrArg Machine.mk ?_) rfl;apply fy;intro i hi;have h_:i<(lJ eK L).length:=by rw[el];exact(vj.mp hi).1
 rw[cr (l:=(lJ eK L).map _) (by lk),iY,Ay,cr h_]
inductive i5:List Int->Q5->List Int->Prop
 |open_ (o:Int) (t:List Int):0<=o->o<2->i5 (1::o::t) (.open_ o.toNat) t
 |state (o k:Int) (t:List Int):0<=o->o<2->i5 (2::o::k::t) (.state o.toNat k) t
 |step (o a l h b:Int) (t:List Int):0<=o->o<2->i5 (3::o::a::l::h::b::t) (.step o.toNat a l h b) t
 |make (o:Int) (t:List Int):0<=o->o<2->i5 (4::o::t) (.make o.toNat) t
 |row (o i:Int) (t:List Int):0<=o->o<2->i5 (5::o::i::t) (.row o.toNat i) t
 |takes (o n:Int) (w t:List Int):0<=o->o<2->(∀z∈w,0<=z/\z<256)->((w.length:Int)=if 0<=n/\n<=65536 then n else 0)->i5 (6::o::n::(w.length:Int)::(w++t)) (.takes o.toNat (w.map lZ) n) t
 |count (o n:Int) (t:List Int):0<=o->o<2->i5 (7::o::n::t) (.count o.toNat n) t
 |word (o k m:Int) (t:List Int):0<=o->o<2->0<=k->k<2^64->i5 (8::o::k::m::t) (.word o.toNat k.toNat m) t
 |apart (o p m:Int) (t:List Int):0<=o->o<2->0<=p->p<2->i5 (9::o::p::m::t) (.apart o.toNat p.toNat m) t
def fz(a:Ans):List Int:=a.code::(Sw15Neutral.ints a.nums++Sw15Neutral.ints a.out)
inductive vk:Both->List Int->List Int->Prop
 |nil (s:Both):vk s [] []
 |cons {s:Both} {l t out:List Int} {x:Q5}:i5 l x t->There s x->vk (worked s x).1 t out->vk s l (((fz (worked s x).2).length:Int)::(fz (worked s x).2++out))
def ac1(c:List (List Int)):arW c=c:=by
 rcases c with _|⟨_|⟨x,a⟩,c⟩;rfl;rfl;rcases x with (_|_|_|_|_|_|_|_|_|_|x)|x<;>try rfl
 all_goals(rcases c with _|⟨b,_|_⟩<;>try rfl)
 all_goals iterate 6(all_goals(rcases a with _|⟨y,a⟩<;>try rfl))
def iH(h:lA o 1=true):0<=o/\o<2:=by
 unfold lA at h;lk
inductive CI:List (List Int)->Q5->Prop
 |a{o}:CI [[1,o]] (.open_ o.toNat)|b{o k}:CI [[2,o,k]] (.state o.toNat k)|c{o a l h b}:CI [[3,o,a,l,h,b]] (.step o.toNat a l h b)|d{o}:CI [[4,o]] (.make o.toNat)|e{o i}:CI [[5,o,i]] (.row o.toNat i)|f{o n w}:CI [[6,o,n],w] (.takes o.toNat (w.map lZ) n)|g{o n}:CI [[7,o,n]] (.count o.toNat n)|h{o k m}:CI [[8,o,k,m]] (.word o.toNat k.toNat m)|i{o p m}:CI [[9,o,p,m]] (.apart o.toNat p.toNat m)
def ac2{l t:List Int}{c:List (List Int)}(h:abW Ag l=some (c,t))(ha:aa7 c=true): ∃x,CI c x/\i5 l x t:=by
 cases l with
 |nil=>simp[abW]at h
 |cons p r=>
  dsimp only[abW]at h;have plain: ∀n,Ag p=some (n,0)->r.length>=n/\c=[p::r.take n]/\t=r.drop n:=by
   intro n e;rw[e]at h;simp only[asg]at h;lk
  by_cases h1:p=1
  ·subst h1;obtain⟨hl,rfl,rfl⟩:=plain 1 rfl;match r,hl with
   |o::t,_=>
    have ha:=ha;exact⟨_,.a,.open_ o t (iH ha).1 (iH ha).2⟩
  by_cases h2:p=2
  ·subst h2;obtain⟨hl,rfl,rfl⟩:=plain 2 rfl;match r,hl with
   |o::k::t,_=>
    have ha:(lA o 1&&rK k)=true:=ha;rw[eA]at ha;exact⟨_,.b,.state o k t (iH ha.1).1 (iH ha.1).2⟩
  by_cases h3:p=3
  ·subst h3;obtain⟨hl,rfl,rfl⟩:=plain 5 rfl;match r,hl with
   |o::a::l::h::b::t,_=>
    have ha:(lA o 1&&(rK a&&(rK l&&(rK h&&(rK b)))))=true:=ha;rw[eA]at ha;exact⟨_,.c,.step o a l h b t (iH ha.1).1 (iH ha.1).2⟩
  by_cases h4:p=4
  ·subst h4;obtain⟨hl,rfl,rfl⟩:=plain 1 rfl;match r,hl with
   |o::t,_=>
    have ha:=ha;exact⟨_,.d,.make o t (iH ha).1 (iH ha).2⟩
  by_cases h5:p=5
  ·subst h5;obtain⟨hl,rfl,rfl⟩:=plain 2 rfl;match r,hl with
   |o::k::t,_=>
    have ha:(lA o 1&&rK k)=true:=ha;rw[eA]at ha;exact⟨_,.e,.row o k t (iH ha.1).1 (iH ha.1).2⟩
  by_cases h7:p=7
  ·subst h7;obtain⟨hl,rfl,rfl⟩:=plain 2 rfl;match r,hl with
   |o::k::t,_=>
    have ha:(lA o 1&&rK k)=true:=ha;rw[eA]at ha;exact⟨_,.g,.count o k t (iH ha.1).1 (iH ha.1).2⟩
  by_cases h8:p=8
  ·subst h8;obtain⟨hl,rfl,rfl⟩:=plain 3 rfl;match r,hl with
   |o::k::m::t,_=>
    have ha:(lA o 1&&(lA k 64&&(rK m)))=true:=ha;rw[eA,eA]at ha;have hk:=ha.2.1;unfold lA at hk;rw[eA,decide_eq_true_eq,decide_eq_true_eq]at hk;exact⟨_,.h,.word o k m t (iH ha.1).1 (iH ha.1).2 hk.1 hk.2⟩
  by_cases h9:p=9
  ·subst h9;obtain⟨hl,rfl,rfl⟩:=plain 3 rfl;match r,hl with
   |o::k::m::t,_=>
    have ha:(lA o 1&&(lA k 1&&(rK m)))=true:=ha;rw[eA,eA]at ha;exact⟨_,.i,.apart o k m t (iH ha.1).1 (iH ha.1).2 (iH ha.2.1).1 (iH ha.2.1).2⟩
  by_cases h6:p=6
  ·subst h6;have e:Ag 6=some (2,1):=rfl;rw[e]at h;simp only[asg]at h;split at h
   ·cases h
   ·rename_i hl;match r,hl,h with
    |o::n::q,_,h=>
     simp only[List.drop_succ_cons,ar8]at h
     cases q with
     |nil=>simp[asy]at h
     |cons k r=>
      dsimp only[asy]at h;by_cases hk:0<=k/\k.toNat<=r.length
      ·rw[if_pos hk]at h;have h':=bv h;have hc:=(congrArg as0 h').symm;have ht:=(congrArg qo h').symm;subst hc ht;have ha:(lA o 1&&(rK n&&(((r.take k.toNat).all (λz=>lA z 8)&&abf (r.take k.toNat) n 0 65536))))=true:=ha;simp only[eA]at ha;obtain⟨a1,_,a3,a4⟩:=ha;have hw: ∀z∈r.take k.toNat,0<=z/\z<256:=λz hz=>by
        have:=QF.mp a3 z hz;unfold lA at this;lk
       have cS:(((r.take k.toNat).length:Nat):Int)=k:=by
        rw[il,FL hk.2];lia
       unfold abf at a4;rw[decide_eq_true_eq]at a4;have R:=i5.takes o n (r.take k.toNat) (r.drop k.toNat) (iH a1).1 (iH a1).2 hw a4;rw[cS,FD]at R;exact⟨_,.f,R⟩
      ·rw[if_neg hk]at h
       cases h
  ·have e:Ag p=none:=by
    unfold Ag;lk
   rw[e]at h
   cases h
def ac3{s:Both}{c:List (List Int)}(h:CI c x):zX s c=((worked s x).1,fz (worked s x).2):=by
 cases h<;>rfl
def ac4(s:Both)(x:Q5):(worked s x).1.length=s.length:=by
 unfold worked;fin2
def ac5{s:Both}(h:(s.getD j none).isSome=true):((s.set k (some x)).getD j none).isSome=true:=by
 fin2
def ac6(h:(s.getD j none).isSome=true):((worked s x).1.getD j none).isSome=true:=by
 unfold worked
 cases x<;>dsimp only<;>(repeat' split)<;>first|exact h|exact ac5 h
def ac7{c:List (List Int)}{cs:List (List (List Int))}(hc:CI c x)(R:i5 l x t)(hs:s.length=2)
  (ht: ∀o∈there,0<=o/\o<2/\(s.getD o.toNat none).isSome=true)(h:rL there (c::cs)=true)(ha:aa7 c=true):
  There s x/\ ∃Gn,rL Gn cs=true/\ ∀o∈Gn,0<=o/\o<2/\((worked s x).1.getD o.toNat none).isSome=true:=by
 have keep: ∀o∈there,0<=o/\o<2/\((worked s x).1.getD o.toNat none).isSome=true:=λo ho=>⟨(ht o ho).1,(ht o ho).2.1,ac6 (ht o ho).2.2⟩
 cases hc with
 |@a o=>
  have h:=h;have ho:=iH (ha);refine⟨by show o.toNat<2;lia,_,h,λq hq=>?_⟩;rcases cO.mp hq with rfl|hq
  ·exists ho.1,ho.2;show((s.set q.toNat _).getD q.toNat none).isSome=true;lk
  ·exact keep q hq
 |@b o t'=>
  have h:(there.contains o&&rL there cs)=true:=h;rw[eA,lW]at h;exact⟨(ht o h.1).2.2,there,h.2,keep⟩
 |@c o a l' h' b=>
  have h:(there.contains o&&rL there cs)=true:=h;rw[eA,lW]at h;exact⟨(ht o h.1).2.2,there,h.2,keep⟩
 |@d o=>
  have h:(there.contains o&&rL there cs)=true:=h;rw[eA,lW]at h;exact⟨(ht o h.1).2.2,there,h.2,keep⟩
 |@e o i=>
  have h:(there.contains o&&rL there cs)=true:=h;rw[eA,lW]at h;exact⟨(ht o h.1).2.2,there,h.2,keep⟩
 |@f o n w=>
  have h:(there.contains o&&rL there cs)=true:=h;rw[eA,lW]at h;refine⟨⟨(ht o h.1).2.2,?_⟩,there,h.2,keep⟩;have ha:(lA o 1&&(rK n&&((w.all (λz=>lA z 8)&&abf w n 0 65536))))=true:=ha;simp only[eA]at ha;intro c hc;obtain⟨z,hz,rfl⟩:=cQ.mp hc;have:=QF.mp ha.2.2.1 z hz;unfold lA at this;lk
 |@g o n=>
  have h:(there.contains o&&rL there cs)=true:=h;rw[eA,lW]at h;exact⟨(ht o h.1).2.2,there,h.2,keep⟩
 |@h o k m=>
  have h:(there.contains o&&rL there cs)=true:=h;rw[eA,lW]at h;exact⟨(ht o h.1).2.2,there,h.2,keep⟩
 |@i o p m=>
  have h:(o !=p&&(there.contains o&&(there.contains p&&rL there cs)))=true:=h;simp only[eA,lW,bne_iff_ne]at h;have h1:=ht o h.2.1;have h2:=ht p h.2.2.1;refine⟨⟨?_,h1.2.2,h2.2.2⟩,there,h.2.2.2,keep⟩;lia
set_option tactic.hygienic true in
theorem AA: ∀f l cs s there,abM Ag f l=some cs->cs.all aa7=true->rL there cs=true->s.length=2->(∀o∈there,0<=o/\o<2/\(s.getD o.toNat none).isSome=true)->vk s l (Aj (FP zX s cs))
 |f,[],cs,s,there,h,_,_,_,_=>by
  have:cs=[]:=by cases f<;>exact(bv h).symm
  subst this;exact .nil s
 |0,_::_,cs,s,there,h,_,_,_,_=>by cases h
 |f+1,p::r,cs,s,there,h,ha,hi,hs,ht=>by
  unfold abM at h;split at h
  ·cases h
  ·rename_i c t hc;split at h
   ·cases h
   ·rename_i Go AB;obtain rfl:=bv h;rw[List.all_cons,eA]at ha;obtain⟨x,hx,R⟩:=ac2 hc ha.1;obtain⟨th,Gn,h_,xE⟩:=ac7 hx R hs ht hi ha.1;have ih:=AA f t Go (worked s x).1 Gn AB ha.2 h_ (by rw[ac4];exact hs) xE;have e:Aj (FP zX s (c::Go))=((fz (worked s x).2).length:Int)::(fz (worked s x).2++Aj (FP zX (worked s x).1 Go)):=by
     rw[FP];unfold Aj;rw[ac3 hx,arB];rfl
    rw[e];exact .cons R th ih
theorem RW: ∀cs(s:Both),(Aj (FP zX s cs)).length=cs.length+aqs s cs
 |[],_=>rfl
 |c::cs,s=>by
  have ih:=RW cs (zX s c).1;unfold FP Aj aqs;unfold Aj at ih
  rw[arB,dS,ih,nX,nX]
  lia
set_option tactic.hygienic true in
def ac8(h:aa_ l=true):vk [none,none] l (FM l)/\(FM l).length<=1000200:=by
 unfold aa_ at h;unfold FM
 cases e:arX l with
 |none=>rw[e]at h;cases h
 |some cs=>
  rw[e]at h;simp only[PyFlat.atMost,eA,decide_eq_true_eq]at h;unfold auq at h;simp only[eA,decide_eq_true_eq]at h;obtain⟨h1,h2,h3,h4,h5⟩:=h;have e2:abM Ag l.length l=some cs:=by
   unfold arX at e;split at e
   ·cases e
   ·rename_i Go hc;have:=bv e;rw[fy (g:=id) λc _=>ac1 c,Al]at this;rw[<-this];exact hc
  exists AA l.length l cs aup [] e2 h2 h4 rfl (by simp);rw[RW];lia
structure RX(x:St):Prop where
 AC:Good x.drawing
 cT:x.drawing.takes.length<=64
 steps:x.drawing.steps.length<=1024
 l7: ∀m,x.machine=some m->machineOf x.drawing=some m
def l9(s:Both):Prop:=s.length=2/\ ∀k x,s.getD k none=some x->RX x
def l9.start:l9 [none,none]:=⟨rfl,λk x h=>by
 match k,h with
 |0,h=>cases h
 |1,h=>cases h
 |k+2,h=>simp at h⟩
def l9.set(h:l9 s)(hx:RX x):l9 (s.set k (some x)):=by
 refine⟨by rw[mN];exact h.1,λj y e=>?_⟩;rw[xb,arA]at e;split at e
 ·fin2
 ·exact h.2 j y (by assumption)
def l9.worked(h:l9 s)(c:Q5):l9 (worked s c).1:=by
 unfold Sw15.worked
 cases c with
 |open_ k=>exact h.set ⟨λx hx=>(by cases hx),cX _,cX _,λm e=>(by cases e)⟩
 |state k t=>
  dsimp only;split
  ·exact h
  ·cases e:s.getD k none with
   |none=>exact h
   |some x=>
    dsimp only;split
    ·exact h
    ·rename_i hn;have hx:=h.2 k x e;refine h.set ⟨λy hy=>?_,?_,hx.steps,λm e=>by cases e⟩
     ·have:=hx.AC y hy;fin2
     ·have:=hx.cT;have eV:¬x.drawing.takes.length=64:=hn;fin2
 |step k a l hh b=>
  dsimp only
  cases e:s.getD k none with
  |none=>exact h
  |some x=>
   dsimp only;split
   ·exact h
   ·rename_i hw;split
    ·exact h
    ·rename_i hn;have hx:=h.2 k x e;refine h.set ⟨λy hy=>?_,hx.cT,?_,λm e=>by cases e⟩
     ·rcases cN.mp hy with hy|hy
      ·exact hx.AC y hy
      ·obtain rfl:=hZ.mp hy;rw[Bool.not_eq_false]at hw;unfold within at hw
       simp only[eA,decide_eq_true_eq]at hw
       obtain⟨⟨a1,a2⟩,⟨b1,b2⟩,⟨c1,c2⟩,d1,d2⟩:=hw
       refine⟨?_,?_,?_,?_⟩<;>dsimp only<;>lia
     ·have:=hx.steps;have eV:¬x.drawing.steps.length=1024:=hn;fin2
 |make k=>
  dsimp only
  cases e:s.getD k none with
  |none=>exact h
  |some x=>
   dsimp only;have hx:=h.2 k x e
   cases em:machineOf x.drawing with
   |none=>exact h.set ⟨hx.AC,hx.cT,hx.steps,λm e=>by cases e⟩
   |some m=>
    refine h.set ⟨hx.AC,hx.cT,hx.steps,λm' e=>?_⟩;lk
 |row k i=>dsimp only;(repeat' split)<;>exact h
 |takes k w n=>dsimp only;(repeat' split)<;>exact h
 |count k n=>dsimp only;(repeat' split)<;>exact h
 |word k i r=>dsimp only;(repeat' split)<;>exact h
 |apart k j r=>dsimp only;(repeat' split)<;>exact h
structure io(n:Nat)(b:aj)(ms:aZ):Prop where
 len:b.length=n
 lt: ∀s,s<n->b.getD s 0<ms.length
 mem: ∀s,s<n->s∈ms.getD (b.getD s 0) []
 of: ∀j,j<ms.length-> ∀s,s∈ms.getD j []->s<n/\b.getD s 0=j
 nd: ∀j,j<ms.length->(ms.getD j []).Nodup
 ne: ∀j,j<ms.length->ms.getD j []≠[]
theorem ip: ∀n(l:aj),l.Nodup->(∀x∈l,x<n)->l.length<=n
 |0,l,_,h=>by
  cases l with
  |nil=>simp
  |cons a l=>exact absurd (h a (eG ..)) (by lia)
 |n+1,l,hn,h=>by
  have h1:=ip n (l.filter (λx=>decide (x≠n))) (aqr _ hn) λx hx=>by
   fin2
  have h3:l.length<=(l.filter (λx=>decide (x≠n))).length+1:=by
   clear h1 h;induction l with
   |nil=>simp
   |cons a l ih=>
    have eV:=jL.mp hn;by_cases e:a=n
    ·subst e;have:l.filter (λx=>decide (x≠a))=l:=J0.mpr λx hx=>by
      fin2
     fin2
    ·lk
  lia
def io.cT(P:io n b ms):ms.length<=n:=by
 have h:=ip n ((aU ms.length).map λj=>(ms.getD j []).headD 0) ?_ ?_
 ·simpa using h
 ·apply Gf arL;intro x hx y hy e;rw[lF]at hx hy;have hd: ∀j,j<ms.length->(ms.getD j []).headD 0∈ms.getD j []:=λj hj=>by
   cases q:ms.getD j []with
   |nil=>exact(P.ne j hj q).elim
   |cons a l=>simp
  have e1:=(P.of x hx _ (hd x hx)).2;have e2:=(P.of y hy _ (hd y hy)).2;rw[<-e1,e,e2]
 ·intro x hx;obtain⟨j,hj,rfl⟩:=cQ.mp hx;rw[lF]at hj;have hd:(ms.getD j []).headD 0∈ms.getD j []:=by
   cases q:ms.getD j []with
   |nil=>exact(P.ne j hj q).elim
   |cons a l=>simp
  exact(P.of j hj _ hd).1
def io.KY(P:io n b ms)(hj:j<ms.length):(ms.getD j []).length<=n:=
 ip n _ (P.nd j hj) λx hx=>(P.of j hj x hx).1
def pA(b:aj)(eW:aj)(id:Nat):aj:=eW.foldl (λb s=>b.set s id) b
theorem xF: ∀eW b id,(pA b eW id).length=b.length
 |[],_,_=>rfl
 |s::r,b,id=>by
  show(pA (b.set s id) r id).length=_;rw[xF r,mN]
def RY{b:aj}:(b.set s v).getD t 0=if s=t/\s<b.length then v else b.getD t 0:=by
 rw[xb,arA,xb]
 by_cases e:s=t
 ·subst e
  by_cases h:s<b.length
  ·simp[h]
  ·rw[if_pos rfl,if_neg h,if_neg (by simp[h]),JW (by lia)]
 ·simp[e]
theorem KZ{id t:Nat}: ∀eW b,(∀s∈eW,s<b.length)->(pA b eW id).getD t 0=if t∈eW then id else b.getD t 0
 |[],b,_=>by simp[pA]
 |s::r,b,h=>by
  show(pA (b.set s id) r id).getD t 0=_;rw[KZ r (b.set s id) λx hx=>by lk,RY];fin2
def eM:aZ->aj->aZ->aj×aZ
 |[],b,ms=>(b,ms)
 |p::os,b,ms=>eM os (pA b p ms.length) (ms++[p])
theorem RZ(p:aj): ∀os b ms,eM (os++[p]) b ms=(pA (eM os b ms).1 p (eM os b ms).2.length,(eM os b ms).2++[p])
 |[],_,_=>rfl
 |q::os,b,ms=>by
  show eM (os++[p]) _ _=_;rw[RZ p os];rfl
theorem vn: ∀os b ms,(eM os b ms).2=ms++os
 |[],_,_=>by simp[eM]
 |p::os,b,ms=>by
  show(eM os _ _).2=_;rw[vn os];simp
theorem K0: ∀os b ms,(eM os b ms).1.length=b.length
 |[],_,_=>rfl
 |p::os,b,ms=>by
  show(eM os _ _).1.length=_;rw[K0 os,xF]
theorem Gp{t:Nat}: ∀os b ms,(∀s∈os.flatten,s<b.length)->t∉os.flatten->(eM os b ms).1.getD t 0=b.getD t 0
 |[],_,_,_,_=>rfl
 |p::os,b,ms,h,ht=>by
  rw[xj]at ht h;rw[cN,not_or]at ht;show(eM os _ _).1.getD t 0=_;rw[Gp os _ _ (λs hs=>by rw[xF];exact h s (lV _ hs)) ht.2,KZ p b λs hs=>h s (jK _ hs),if_neg ht.1]
theorem R3{t k:Nat}: ∀os b ms,(∀s∈os.flatten,s<b.length)->os.flatten.Nodup->(hk:k<os.length)->t∈os[k]->(eM os b ms).1.getD t 0=ms.length+k
 |[],_,_,_,_,hk,_=>by simp at hk
 |p::os,b,ms,h,hn,hk,ht=>by
  have eV:=o6.mp hn;show(eM os _ _).1.getD t 0=_
  cases k with
  |zero=>
   have xE:t∈p:=ht;have no:=λq=>eV.2.2 t xE t q rfl;rw[Gp os _ _ (λs hs=>by rw[xF];exact h s (lV _ hs)) no,KZ p b (λs hs=>h s (jK _ hs)),if_pos xE];rfl
  |succ k=>
   rw[R3 os _ (ms++[p]) (λs hs=>by rw[xF];exact h s (lV _ hs)) eV.2.1 (by simpa using hk) ht,dS];simp;lia
structure Gq(n:Nat)(b:aj)(ms:aZ)(j:Nat)(ps:aZ)(b':aj)(gH:aZ)(mv:aj):Prop where
 eW:io n b' gH
 more:ms.length<=gH.length
 grown:mv≠[]->ms.length<gH.length
 AD: ∀i,i<ms.length->i≠j->gH.getD i []=ms.getD i []
 out: ∀s,s<n->b.getD s 0≠j->b'.getD s 0=b.getD s 0
 aA: ∀s t,s<n->t<n->b.getD s 0=j->b.getD t 0=j->(b'.getD s 0=b'.getD t 0↔ ∃p∈ps,s∈p/\t∈p)
 R4: ∀s,s<n->b.getD s 0=j->b'.getD s 0=j\/ms.length<=b'.getD s 0
 xG: ∀s,s<n->s∈mv->ms.length<=b'.getD s 0
 fi: ∀s,s<n->s∉mv->b'.getD s 0=b.getD s 0
 d8: ∀s∈mv,s<n/\b.getD s 0=j
 AE:mv.Nodup
def Gr{ps:aZ}(h:s∈ps.flatten): ∃k,∃hk:k<ps.length,s∈ps[k]:=by
 obtain⟨p,hp,hs⟩:=QD.mp h;obtain⟨k,hk,rfl⟩:=kD hp;exact⟨k,hk,hs⟩
def R8{α:Type}{l r:List α}{d:α}(h:i<l.length):(l++r).getD i d=l.getD i d:=by
 rw[xb,FB h,xb]
def ac9{α:Type}{l r:List α}{d:α}(h:l.length<=i):(l++r).getD i d=r.getD (i-l.length) d:=by
 rw[xb,JO h,xb]
def tU{α:Type}{l:List α}{v d:α}(h:i<l.length):(l.set i v).getD j d=if i=j then v else l.getD j d:=by
 fin2
def ac_(P:io n b ms)(hj:j<ms.length)(hp:(o::os).Perm ps)(hf:ps.flatten.Perm (ms.getD j []))(hne: ∀p∈ps,p≠[]):
  Gq n b ms j ps (eM os b (ms.set j o)).1 (eM os b (ms.set j o)).2 os.flatten:=by
 have og:=(hp.flatten).trans hf;have dL:=og.nodup_iff.mpr (P.nd j hj);have qx: ∀s,s∈o\/s∈os.flatten↔s∈ms.getD j []:=λs=>by
  rw[←og.mem_iff,xj,cN]
 have eV:=o6.mp dL;have gI: ∀s∈os.flatten,s<b.length:=λs hs=>by rw[P.len];exact(P.of j hj s ((qx s).mp (.inr hs))).1
 have qw:j<(ms.set j o).length:=by lk
 have eL:(ms.set j o).length=ms.length:=mN ..;have AF:(eM os b (ms.set j o)).2.length=ms.length+os.length:=by rw[vn,dS,eL]
 have Gu: ∀s,s∈o->(eM os b (ms.set j o)).1.getD s 0=j:=λs hs=>by
  rw[Gp os b _ gI λq=>eV.2.2 s hs s q rfl];exact(P.of j hj s ((qx s).mp (.inl hs))).2
 have K1: ∀s k hk,s∈os[k]->(eM os b (ms.set j o)).1.getD s 0=ms.length+k:=λs k hk hs=>by
  rw[R3 os b _ gI eV.2.1 hk hs,eL]
 have AG: ∀s,s∉os.flatten->(eM os b (ms.set j o)).1.getD s 0=b.getD s 0:=λs hs=>Gp os b _ gI hs;have R_:(eM os b (ms.set j o)).2.getD j []=o:=by
  rw[vn,R8 qw,tU hj,if_pos rfl]
 have AH: ∀i,i<ms.length->i≠j->(eM os b (ms.set j o)).2.getD i []=ms.getD i []:=λi hi hne=>by
  rw[vn,R8 (by rw[eL];exact hi),tU hj,if_neg λq=>hne q.symm]
 have msK: ∀k hk,(eM os b (ms.set j o)).2.getD (ms.length+k) []=os[k]:=λk hk=>by
  rw[vn,ac9 (by rw[eL];lia),eL,Qq,cr hk]
 have xH:=λp kS=>hne p (hp.mem_iff.mp kS);have eW:io n (eM os b (ms.set j o)).1 (eM os b (ms.set j o)).2:=by
  refine⟨by rw[K0];exact P.len,λs hs=>?_,λs hs=>?_,λi hi s hs=>?_,λi hi=>?_,λi hi=>?_⟩
  ·rw[AF];by_cases h:s∈os.flatten
   ·obtain⟨k,hk,AI⟩:=Gr h;rw[K1 s k hk AI];lia
   ·rw[AG s h];have:=P.lt s hs;lia
  ·by_cases h:s∈os.flatten
   ·obtain⟨k,hk,AI⟩:=Gr h
    rw[K1 s k hk AI,msK k hk];exact AI
   ·rw[AG s h];by_cases e:b.getD s 0=j
    ·rw[e,R_];have:=P.mem s hs;fin2
    ·rw[AH _ (P.lt s hs) e];exact P.mem s hs
  ·rw[AF]at hi;by_cases h1:i<ms.length
   ·by_cases e:i=j
    ·subst e;rw[R_]at hs;exact⟨(P.of i hj s ((qx s).mp (.inl hs))).1,Gu s hs⟩
    ·rw[AH i h1 e]at hs;have q:=P.of i h1 s hs;exists q.1;rw[AG s λz=>?_]
     ·exact q.2
     ·have:=(P.of j hj s ((qx s).mp (.inr z))).2;lia
   ·obtain⟨k,rfl⟩: ∃k,i=ms.length+k:=⟨i-ms.length,by lia⟩
    have hk:k<os.length:=by lia
    rw[msK k hk]at hs;have fl:=QD.mpr ⟨_,nY hk,hs⟩;exact⟨(P.of j hj s ((qx s).mp (.inr fl))).1,K1 s k hk hs⟩
  ·rw[AF]at hi;by_cases h1:i<ms.length
   ·by_cases e:i=j
    ·lia
    ·rw[AH i h1 e];exact P.nd i h1
   ·obtain⟨k,rfl⟩: ∃k,i=ms.length+k:=⟨i-ms.length,by lia⟩
    fin2
  ·rw[AF]at hi;by_cases h1:i<ms.length
   ·by_cases e:i=j
    ·lk
    ·rw[AH i h1 e];exact P.ne i h1
   ·obtain⟨k,rfl⟩: ∃k,i=ms.length+k:=⟨i-ms.length,by lia⟩
    lk
 have as4: ∀s,s<n->b.getD s 0=j->(s∈o/\(eM os b (ms.set j o)).1.getD s 0=j)\/ ∃k,∃hk:k<os.length,s∈os[k]/\(eM os b (ms.set j o)).1.getD s 0=ms.length+k:=λs hs e=>by
  have:=P.mem s hs;rw[e,<-qx]at this;rcases this with h|h
  ·exact .inl ⟨h,Gu s h⟩
  ·obtain⟨k,hk,AI⟩:=Gr h
   exact .inr ⟨k,hk,AI,K1 s k hk AI⟩
 refine⟨eW,by lia,λh=>?_,AH,λs hs e=>?_,λs t hs ht es et=>?_,λs hs e=>?_,λs hs h=>?_,λs hs h=>AG s h,λs hs=>?_,eV.2.1⟩
 ·cases os with
  |nil=>exact(h rfl).elim
  |cons=>rw[AF];simp
 ·refine AG s λz=>e (P.of j hj s ((qx s).mp (.inr z))).2
 ·have tV:(∃p∈ps,s∈p/\t∈p)↔ ∃p∈o::os,s∈p/\t∈p:=by
   fin2
  rw[tV];constructor
  ·intro e
   rcases as4 s hs es with⟨s1,s2⟩|⟨k,hk,s1,s2⟩
   ·rcases as4 t ht et with⟨t1,t2⟩|⟨k',kP,t1,t2⟩
    ·exact⟨o,eG ..,s1,t1⟩
    ·rw[s2,t2]at e;lia
   ·rcases as4 t ht et with⟨t1,t2⟩|⟨k',kP,t1,t2⟩
    ·rw[s2,t2]at e;lia
    ·rw[s2,t2]at e
     have:k=k':=by lia
     subst this
     exact⟨_,e5 _ (nY hk),s1,t1⟩
  ·rintro⟨p,h1,h2,h3⟩;rcases cO.mp h1 with rfl|h1
   ·rw[Gu s h2,Gu t h3]
   ·obtain⟨k,hk,rfl⟩:=kD h1
    rw[K1 s k hk h2,K1 t k hk h3]
 ·rcases as4 s hs e with⟨_,s2⟩|⟨k,hk,_,s2⟩
  ·exact .inl s2
  ·exact .inr (by lia)
 ·obtain⟨k,hk,AI⟩:=Gr h;rw[K1 s k hk AI];lia
 ·exact P.of j hj s ((qx s).mp (.inr hs))
structure pB(n:Nat)(b:aj)(ms:aZ)(pf:Nat->aZ)(done:aj)(b':aj)(gH:aZ)(mv:aj):Prop where
 eW:io n b' gH
 more:ms.length<=gH.length
 grown:mv≠[]->ms.length<gH.length
 left: ∀i,i<ms.length->i∉done->gH.getD i []=ms.getD i []
 aA: ∀s t,s<n->t<n->(b'.getD s 0=b'.getD t 0↔b.getD s 0=b.getD t 0/\(b.getD s 0∈done-> ∃p∈pf (b.getD s 0),s∈p/\t∈p))
 xG: ∀s,s<n->s∈mv->ms.length<=b'.getD s 0
 fi: ∀s,s<n->s∉mv->b'.getD s 0=b.getD s 0
 d8: ∀s∈mv,s<n/\b.getD s 0∈done
 AE:mv.Nodup
def pB.start(P:io n b ms):pB n b ms pf [] b ms []:=
 ⟨P,aW _,λh=>(h rfl).elim,λ_ _ _=>rfl,λs t _ _=>by simp,λs _ h=>by simp at h,λ_ _ _=>rfl,λs h=>by simp at h,by simp⟩
def pB.step(P:io n b ms)(S:pB n b ms pf done b' gH mv)(hj:j<ms.length)(hd:j∉done)
  (O:Gq n b' gH j (pf j) b2 AJ pC):pB n b ms pf (done++[j]) b2 AJ (mv++pC):=by
 have fA: ∀s,s<n->b.getD s 0∉done->b'.getD s 0=b.getD s 0:=λs hs h=>S.fi s hs λq=>h (S.d8 s q).2;have rT: ∀s,s<n->(b'.getD s 0=j↔b.getD s 0=j):=λs hs=>by
  constructor
  ·intro e;by_cases q:s∈mv
   ·have:=S.xG s hs q;lia
   ·rw[<-S.fi s hs q];exact e
  ·fin2
 refine⟨O.eW,gn S.more O.more,λh=>?_,λi hi hn=>?_,λs t hs ht=>?_,λs hs h=>?_,λs hs h=>?_,λs h=>?_,?_⟩
 ·by_cases q:mv=[]
  ·subst q;have:=O.grown (by simpa using h);have:=S.more;lia
  ·have:=S.grown q;have:=O.more;lia
 ·rw[cN,not_or,hZ]at hn;rw[O.AD i (iC hi S.more) hn.2];exact S.left i hi hn.1
 ·by_cases es:b.getD s 0=j
  ·by_cases et:b.getD t 0=j
   ·rw[O.aA s t hs ht ((rT s hs).mpr es) ((rT t ht).mpr et),es,et];simp
   ·have h1:=O.out t ht λq=>et ((rT t ht).mp q);constructor
    ·intro e;rw[h1]at e;rcases O.R4 s hs ((rT s hs).mpr es)with q|q
     ·fin2
     ·have:=S.eW.lt t ht;lia
    ·lia
  ·have h0:=O.out s hs λq=>es ((rT s hs).mp q);by_cases et:b.getD t 0=j
   ·constructor
    ·intro e;rw[h0]at e;rcases O.R4 t ht ((rT t ht).mpr et)with q|q
     ·fin2
     ·have:=S.eW.lt s hs;lia
    ·lia
   ·have h1:=O.out t ht λq=>et ((rT t ht).mp q);rw[h0,h1,S.aA s t hs ht];lk
 ·rcases cN.mp h with h|h
  ·have q:=S.d8 s h;have hne:b.getD s 0≠j:=λe=>hd (e▸q.2);rw[O.out s hs λe=>hne ((rT s hs).mp e)];exact S.xG s hs h
  ·exact gn S.more (O.xG s hs h)
 ·rw[cN,not_or]at h;rw[O.fi s hs h.2,S.fi s hs h.1]
 ·rcases cN.mp h with h|h
  ·exact⟨(S.d8 s h).1,jK _ (S.d8 s h).2⟩
  ·have q:=O.d8 s h
   exact⟨q.1,lV _ (hZ.mpr ((rT s q.1).mp q.2))⟩
 ·rw[o6];refine⟨S.AE,O.AE,λa ha c hc e=>?_⟩;subst e;have q:=O.d8 a hc;exact hd ((rT a q.1).mp q.2▸(S.d8 a ha).2)
structure iq(n:Nat)(b:aj)(ms:aZ)(db:Nat->aj)(aI:aj)(F:List (Nat×List (aj×aj))):Prop where
 j8:(F.map (·.1)).Nodup
 gR: ∀j L,(j,L)∈F->(L.map (·.1)).Nodup/\L≠[]/\j<ms.length/\1<(ms.getD j []).length
 jQ: ∀j L,(j,L)∈F-> ∀l ss,(l,ss)∈L->ss≠[]/\ss.Nodup/\ ∀s,s∈ss↔s∈aI/\s<n/\b.getD s 0=j/\db s=l
 all: ∀s,s∈aI->s<n->1<(ms.getD (b.getD s 0) []).length-> ∃L,(b.getD s 0,L)∈F/\ ∃ss,(db s,ss)∈L
def AK{α β:Type}{F:List (α×β)}(h:(F.map (·.1)).Nodup){k:α}{x y:β}(hx:(k,x)∈F)(hy:(k,y)∈F):x=y:=
 (abU (KH h _ hx _ hy rfl)).2
noncomputable def kU(ms:aZ)(aI:aj)(j:Nat)(L:List (aj×aj)):aZ:=
 L.map (·.2)++(if(ms.getD j []).filter (λs=>!aI.contains s)=[]then[]else[(ms.getD j []).filter (λs=>!aI.contains s)])
section
variable{n:Nat}{b:aj}{ms:aZ}{db:Nat->aj}{aI:aj}{F:List (Nat×List (aj×aj))}
def ada:(∃p∈kU ms aI j L,s∈p)↔(∃q∈L,s∈q.2)\/(s∈ms.getD j []/\s∉aI):=by
 constructor
 ·rintro⟨p,hp,hs⟩;rcases cN.mp hp with hp|hp
  ·fin2
  ·fin2
 ·rintro(⟨q,hq,hs⟩|⟨h1,h2⟩)
  ·exact⟨q.2,jK _ (xf hq),hs⟩
  ·have m:s∈(ms.getD j []).filter (λs=>!aI.contains s):=tG.mpr ⟨h1,by simpa using h2⟩;refine⟨_,lV _ ?_,m⟩;fin2
def adb{L:List (aj×aj)}: ∀(_:(L.map (·.1)).Nodup)(_: ∀q∈L,q.2.Nodup)(_: ∀q∈L,∀r∈L,∀s,s∈q.2->s∈r.2->q.1=r.1),(L.map (·.2)).flatten.Nodup:=by
 induction L with
 |nil=>intro _ _ _;simp
 |cons q L ih=>
  intro h1 h2 h3;rw[gF,xj,o6];have vo:=jL.mp h1;refine⟨h2 q (eG ..),ih vo.2 (λr hr=>h2 r (e5 _ hr)) λr hr r' R'=>h3 r (e5 _ hr) r' (e5 _ R'),λa ha c hc e=>?_⟩
  subst e
  obtain⟨p,hp,hs⟩:=QD.mp hc
  obtain⟨r,hr,rfl⟩:=cQ.mp hp
  have:=h3 q (eG ..) r (e5 _ hr) a ha hs
  exact vo.1 (cQ.mpr ⟨r,hr,this.symm⟩)
def iq.perm(O:iq n b ms db aI F)(P:io n b ms)(h:(j,L)∈F):(kU ms aI j L).flatten.Perm (ms.getD j [])/\ ∀p∈kU ms aI j L,p≠[]:=by
 obtain⟨k1,k2,hj,cS⟩:=O.gR j L h;have st:=O.jQ j L h;have nd:(kU ms aI j L).flatten.Nodup:=by
  unfold kU;rw[Qw,o6];refine⟨adb k1 (λq hq=>(st q.1 q.2 hq).2.1) λq hq r hr s h1 h2=>?_,?_,λa ha c hc e=>?_⟩
  ·fin2
  ·split
   ·simp
   ·rw[xj,List.flatten_nil,lE];exact aqr _ (P.nd j hj)
  ·fin2
 refine⟨(List.perm_ext_iff_of_nodup nd (P.nd j hj)).mpr λs=>?_,λp hp=>?_⟩
 ·have e:s∈(kU ms aI j L).flatten↔ ∃p∈kU ms aI j L,s∈p:=QD;rw[e,ada];constructor
  ·rintro(⟨q,hq,hs⟩|⟨h1,_⟩)
   ·have m:=((st q.1 q.2 hq).2.2 s).mp hs;have:=P.mem s m.2.1;lk
   ·exact h1
  ·intro hs;by_cases m:s∈aI
   ·obtain⟨s1,s2⟩:=P.of j hj s hs;obtain⟨L',hL,ss,iI⟩:=O.all s m s1 (by rw[s2];exact cS);rw[s2]at hL;have:=AK O.j8 hL h;fin2
   ·exact .inr ⟨hs,m⟩
 ·unfold kU at hp
  rcases cN.mp hp with hp|hp
  ·obtain⟨q,hq,rfl⟩:=cQ.mp hp
   exact(st q.1 q.2 hq).1
  ·split at hp
   ·cases hp
   ·rename_i hne
    rw[hZ]at hp
    subst hp
    exact hne
def iq.aA(O:iq n b ms db aI F)(P:io n b ms)(h:(j,L)∈F)(hs:s<n)(ht:t<n)(es:b.getD s 0=j)(et:b.getD t 0=j):
  (∃p∈kU ms aI j L,s∈p/\t∈p)↔(s∈aI↔t∈aI)/\(s∈aI->db s=db t):=by
 obtain⟨k1,k2,hj,cS⟩:=O.gR j L h;have st:=O.jQ j L h;constructor
 ·rintro⟨p,hp,h1,h2⟩;rcases cN.mp hp with hp|hp
  ·fin2
  ·lk
 ·rintro⟨h1,h2⟩;by_cases m:s∈aI
  ·obtain⟨L',hL,ss,iI⟩:=O.all s m hs (by rw[es];exact cS);rw[es]at hL;have:=AK O.j8 hL h;subst this;refine⟨ss,jK _ (cQ.mpr ⟨_,iI,rfl⟩),((st _ ss iI).2.2 s).mpr ⟨m,hs,es,rfl⟩,((st _ ss iI).2.2 t).mpr ⟨h1.mp m,ht,et,(h2 m).symm⟩⟩
  ·have m':=λq=>m (h1.mpr q);have a1:s∈(ms.getD j []).filter (λs=>!aI.contains s):=tG.mpr ⟨by have:=P.mem s hs;rwa[es]at this,by simpa using m⟩;have a2:t∈(ms.getD j []).filter (λs=>!aI.contains s):=tG.mpr ⟨by have:=P.mem t ht;rwa[et]at this,by simpa using m'⟩;refine⟨_,lV _ ?_,a1,a2⟩;fin2
def xI(ms:aZ)(aI:aj)(F:List (Nat×List (aj×aj)))(j:Nat):aZ:=kU ms aI j ((F.lookup j).getD [])
theorem Sa: ∀{F:List (Nat×List (aj×aj))}{j:Nat}{L:List (aj×aj)},(F.map (·.1)).Nodup->(j,L)∈F->F.lookup j=some L
 |[],_,_,_,h=>by cases h
 |(i,M)::F,j,L,hn,h=>by
  have eV:=jL.mp hn;rw[FK];rcases cO.mp h with e|h2
  ·lk
  ·have:=λe=>eV.1 (cQ.mpr ⟨_,h2,e⟩);rw[beq_false_of_ne this];exact Sa eV.2 h2
def iq.pf(O:iq n b ms db aI F)(h:(j,L)∈F):xI ms aI F j=kU ms aI j L:=by
 unfold xI;rw[Sa O.j8 h];rfl
def adc{rows:aZ}{W:Nat}{AL:Nat->Prop}{b':aj}{gH:aZ}{mv:aj}(P:io rows.length b ms)(O:iq rows.length b ms db aI F)
  (hp: ∀s,s<rows.length->(s∈aI↔oa rows W AL s))(hl: ∀s t,s<rows.length->t<rows.length->(db s=db t↔ ∀k,k<W->b.getD (nx rows s k) 0=b.getD (nx rows t k) 0))
  (S:pB rows.length b ms (xI ms aI F) (F.map (·.1)) b' gH mv):RO rows W b b' AL:=λs t hs ht=>by
 rw[S.aA s t hs ht];have key:b.getD s 0=b.getD t 0->((b.getD s 0∈F.map (·.1)-> ∃p∈xI ms aI F (b.getD s 0),s∈p/\t∈p)↔((oa rows W AL s↔oa rows W AL t)/\(oa rows W AL s-> ∀k,k<W->b.getD (nx rows s k) 0=b.getD (nx rows t k) 0))):=by
  intro e;rw[<-hp s hs,<-hp t ht,<-hl s t hs ht];by_cases m:b.getD s 0∈F.map (·.1)
  ·obtain⟨⟨j,L⟩,hL,ej⟩:=cQ.mp m;have ej:=ej;subst ej;rw[O.pf hL,O.aA P hL hs ht rfl e.symm];lk
  ·refine⟨λ_=>?_,λ_ q=>(m q).elim⟩;have no: ∀u,u<rows.length->b.getD u 0=b.getD s 0->1<(ms.getD (b.getD s 0) []).length->u∉aI:=λu hu eu h1 hm=>by
    obtain⟨L,hL,_⟩:=O.all u hm hu (by rw[eu];exact h1);lk
   by_cases h1:1<(ms.getD (b.getD s 0) []).length
   ·lk
   ·have:s=t:=by
     have Sb:=P.mem s hs;have AJ:=P.mem t ht;rw[<-e]at AJ;match hq:ms.getD (b.getD s 0) [],h1 with
     |[],_=>rw[hq]at Sb;cases Sb
     |[x],_=>
      lk
     |x::y::r,h1=>exact(h1 (by simp)).elim
    lk
 lk
end
def rV(steps:List Step)(ss:aj)(n:Nat)(L:aZ):Prop:=
 L.length=n/\(∀s,s<n->(L.getD s []).length=ss.length)/\ ∀s k q,s<n->(hk:k<ss.length)->((L.getD s []).getD k 0).testBit q=steps.any λx=>x.a==s&&(x.b==q&&(decide (x.low<=ss[k])&&decide (ss[k]<=x.high)))
def rV.nil(ss:aj)(n:Nat):rV [] ss n (cu n (cu ss.length 0)):=by
 have e: ∀s,s<n->(cu n (cu ss.length 0)).getD s []=cu ss.length 0:=λs hs=>by
  lk
 refine⟨by simp,λs hs=>by rw[e s hs];simp,λs k q hs hk=>?_⟩;lk
def oh(r:aj)(lo v:Nat):Nat->aj
 |0=>r
 |j+1=>(oh r lo v j).set (lo+j) ((oh r lo v j).getD (lo+j) 0|||v)
theorem Gv(r:aj)(lo v:Nat): ∀j,(oh r lo v j).length=r.length
 |0=>rfl
 |j+1=>by rw[oh,mN,Gv r lo v j]
theorem K2(r:aj)(lo v:Nat)(hk:k<r.length): ∀j,(oh r lo v j).getD k 0=if lo<=k/\k<lo+j then r.getD k 0|||v else r.getD k 0
 |0=>by rw[if_neg (by lia)];rfl
 |j+1=>by
  rw[oh,RY,Gv];by_cases e:lo+j=k
  ·subst e;rw[if_pos ⟨rfl,hk⟩,K2 r lo v hk j,if_neg (by lia),if_pos (by lia)]
  ·rw[if_neg (by lia),K2 r lo v hk j];lia
structure Sc(ss:aj)(x:Step)(lo hi:Nat):Prop where
 le:hi<=ss.length
 iff: ∀k(hk:k<ss.length),(lo<=k/\k<hi)↔(x.low<=ss[k]/\ss[k]<=x.high)
def rV.step(h:rV steps ss n L)(I:Sc ss x lo hi)(ha:x.a<n):
  rV (steps++[x]) ss n (L.set x.a (oh (L.getD x.a []) lo (2^x.b) (hi-lo))):=by
 obtain⟨h1,h2,h3⟩:=h;have xJ:x.a<L.length:=by lia
 refine⟨by rw[mN];exact h1,fun s hs=>?_,λs k q hs hk=>?_⟩
 ·rw[tU xJ];split
  ·rename_i e;subst e;rw[Gv];exact h2 _ ha
  ·exact h2 s hs
 ·rw[tU xJ,List.any_append,<-h3 s k q hs hk];by_cases e:x.a=s
  ·subst e;rw[if_pos rfl,K2 _ _ _ (by fin2)];have hI:=I.iff k hk;fin2
  ·rw[if_neg e];simp[e]
def Sd(h:fL ss)(hx:x∈ss)(hk:k<ss.length):ss.idxOf x<=k↔x<=ss[k]:=by
 have hi:=aa0.mpr hx;have e:=arl hi;have mono:=Fz.mp h.1;fin2
def f8(ss:aj)(c:Nat):Nat:=if c=256 then ss.length else ss.idxOf c
def ade(h:fL ss)(h1:x.low∈ss)(h2:x.high+1=256\/x.high+1∈ss):Sc ss x (f8 ss x.low) (f8 ss (x.high+1)):=by
 have hl:f8 ss x.low=ss.idxOf x.low:=by
  unfold f8;rw[if_neg];have:=h.2 _ h1;lia
 refine⟨?_,λk hk=>?_⟩
 ·unfold f8;fin2
 ·rw[hl,Sd h h1 hk];have:k<f8 ss (x.high+1)↔ss[k]<=x.high:=by
   unfold f8;split
   ·rename_i e;have:=h.2 _ (nY hk);lia
   ·rename_i e;have hm:=h2.resolve_left e;have:=Sd h hm hk;lia
  rw[this]
def jn(r l:aj):aj:=List.zipWith (λx y=>x|||y) r l
def mV(m i:Nat)(L:aZ)(W:Nat)(r:aj):Prop:=
 r.length=W/\ ∀k q,k<W->((r.getD k 0).testBit q=true↔ ∃s,s<i/\m.testBit s=true/\((L.getD s []).getD k 0).testBit q=true)
def mV.zero(m:Nat)(L:aZ)(W:Nat):mV m 0 L W (cu W 0):=by
 refine⟨by simp,λk q hk=>?_⟩;lk
def mV.skip(h:mV m i L W r)(hb:m.testBit i=false):mV m (i+1) L W r:=by
 refine⟨h.1,λk q hk=>?_⟩;rw[h.2 k q hk];fin2
def mV.take(h:mV m i L W r)(hb:m.testBit i=true)(hl:(L.getD i []).length=W):mV m (i+1) L W (jn r (L.getD i [])):=by
 have cS:(jn r (L.getD i [])).length=W:=by unfold jn;rw[List.length_zipWith,h.1,hl];simp
 refine⟨cS,λk q hk=>?_⟩;have e:(jn r (L.getD i [])).getD k 0=r.getD k 0|||(L.getD i []).getD k 0:=by
  have e1:(jn r (L.getD i [])).getD k 0=(jn r (L.getD i []))[k]'(by rw[cS];exact hk):=cr _;have e2:r.getD k 0=r[k]'(by rw[h.1];exact hk):=cr _;have e3:(L.getD i []).getD k 0=(L.getD i [])[k]'(by rw[hl];exact hk):=cr _;rw[e1,e2,e3];unfold jn;rw[List.getElem_zipWith]
 rw[e,Nat.testBit_or,Bool.or_eq_true,h.2 k q hk];fin2
def mV.eK(G:Good d)(hL:rV d.steps (0::ss) d.takes.length L)(h:mV m d.takes.length L (0::ss).length r):iG d ss m r:=by
 refine⟨h.1,λk hk q=>?_⟩;apply u9.mpr;rw[h.2 k q hk,u6];constructor
 ·rintro⟨s,h1,h2,h3⟩;rw[hL.2.2 s k q h1 hk,u6]at h3
  obtain⟨y,hy,e⟩:=h3
  rw[eA,beq_iff_eq]at e
  refine⟨y,hy,?_⟩
  rw[eA]
  exact⟨by rw[e.1];exact h2,e.2⟩
 ·rintro⟨y,hy,e⟩;rw[eA]at e;have ha:=(G y hy).1;exists y.a,ha,e.1;rw[hL.2.2 y.a k q ha hk,u6]
  exists y,hy
  rw[eA,beq_iff_eq]
  exact⟨rfl,e.2⟩
end BM
namespace BM
theorem Se(row:aj): ∀ss r,r.length=ss.length->(aU ss.length).flatMap (λi=>cu ((ss.tail++[256]).getD i 0-ss.getD i 0) (r.getD i 0))=cY ss r
 |[],r,_=>by cases r<;>rfl
 |[s],[],h=>by simp at h
 |[s],t::r,h=>by simp[cY]
 |s::s'::aD,[],h=>by simp at h
 |s::s'::aD,t::r,h=>by
  have ih:=Se row (s'::aD) r (by simpa using h);rw[cY,<-ih,nX,Qr,arB,List.flatMap_map];rfl
theorem Sf{α:Type}{f:Nat->List α}{c:Nat}(h: ∀m,(f m).length<=c): ∀j,((aU j).flatMap f).length<=j*c
 |0=>by simp
 |j+1=>by
  have ih:=Sf h j;have:=h j;rw[lD,abo,dS];fin2
open Sw15
def iG.K3(h:iG d ss m l)(h':iG d ss m r):l=r:=by
 apply lC
 ·rw[h.len,h'.len]
 ·intro k a b;have e1:=h.at_ k (h.len▸a);have e2:=h'.at_ k (h.len▸a);rw[cr a]at e1;rw[cr b]at e2;apply arc;intro i;rw[e1 i,e2 i]
noncomputable def tW(d:Drawing)(ss:aj)(m:Nat):aj:=by
 classical
 exact if h: ∃l,iG d ss m l then h.choose else[]
def adf(h:iG d ss m r):r=tW d ss m:=by
 have e: ∃l,iG d ss m l:=⟨r,h⟩
 unfold tW;rw[dif_pos e];exact h.K3 e.choose_spec
def Sg(h:L<+:L'){x:Nat}(hx:x∈L):L'.idxOf x=L.idxOf x:=by
 obtain⟨t,rfl⟩:=h;fin2
structure kW(d:Drawing)(ss:aj)(i:Nat)(L:aj)(rs:aZ):Prop where
 lt: ∀x∈L,x<2^d.takes.length
 pos:0<L.length
 le:i<=L.length
 adg:i<=1024
 fh:fh (iF d) (1025-i) i (L.map (BM.gG d.takes.length))=gQ d
 rows:rs=(L.take i).map λm=>(tW d ss m).map λx=>L.idxOf x
 eK: ∀m∈L.take i,iG d ss m (tW d ss m)
 d8: ∀m∈L.take i,∀x∈tW d ss m,x∈L
def kW.start(d:Drawing)(ss:aj):kW d ss 0 [if d.takes=[]then 0 else 1] []:=by
 refine⟨λx hx=>?_,by simp,cX _,cX _,?_,rfl,by simp,by simp⟩
 ·rw[hZ.mp hx];by_cases h:d.takes=[]
  ·rw[if_pos h,h];decide
  ·lk
 ·rw[arj,acY];rfl
def kW.step(G:Good d)(S:rS d ss)(W:kW d ss i L rs)(hi:i<L.length)(hL:L.length<=1024)(hr:iG d ss (L.getD i 0) r):
  kW d ss (i+1) (cP L r) (rs++[r.map λx=>(cP L r).idxOf x]):=by
 have pre:=Gc r L;have Gw:(cP L r).take (i+1)=L.take i++[L.getD i 0]:=by
  obtain⟨t,e⟩:=pre;rw[<-e,List.take_append_of_le_length (by lia),fJ hi,cr hi]
 have R':=adf hr;refine⟨λx hx=>?_,iC W.pos pre.length_le,gn hi pre.length_le,by lia,?_,?_,λm rW=>?_,λm rW x hx=>?_⟩
 ·rcases rQ.mp hx with h|h
  ·exact W.lt x h
  ·exact hr.lt G x h
 ·rw[<-W.fh,show 1025-i=(1025-(i+1))+1 by lia,Aw (s:=BM.gG d.takes.length (L.getD i 0)) (by lk),hr.step G S W.lt]
 ·rw[Gw,bI,W.rows];congr 1
  ·apply fy;intro m rW;apply fy;intro x hx;exact(Sg pre (W.d8 m rW x hx)).symm
  ·rw[arj,←R']
 ·rw[Gw]at rW;rcases cN.mp rW with h|h
  ·exact W.eK m h
  ·lk
 ·rw[Gw]at rW;rw[rQ];rcases cN.mp rW with h|h
  ·exact .inl (W.d8 m h x hx)
  ·lk
def kW.done(W:kW d ss L.length L rs):gQ d=L.map (BM.gG d.takes.length)/\rs=lJ (tW d ss) L/\(∀m∈L,iG d ss m (tW d ss m))/\L.length<=1024:=by
 have h:=W.fh;rw[xA (by simp)]at h;have hr:=W.rows;rw[fK]at hr;have hl:=W.eK;rw[fK]at hl;exact⟨h.symm,hr,hl,W.adg⟩
def kW.adh(W:kW d ss i L rs)(h:1024<L.length):MOST<(gQ d).length:=by
 have:=(Gi (iF d) (1025-i) i (L.map (BM.gG d.takes.length))).length_le;rw[W.fh,ax]at this;show 1024<_;lia
theorem K4(L:aj): ∀(r ap:aj),(cP ap r).length<=ap.length+r.length
 |[],ap=>aW _
 |x::r,ap=>by
  rw[qv];have h1:=K4 L r (aB ap x);have h2:(aB ap x).length<=ap.length+1:=by
   by_cases h:x∈ap
   ·rw[j6 h];lia
   ·rw[l0 h,dS];simp
  fin2
def adi{L r:aj}(hj:j<r.length):cP L (r.take (j+1))=aB (cP L (r.take j)) (r.getD j 0):=by
 rw[fJ hj,vg,cr hj];rfl
def Sh{α β:Type}{F:List (α×β)}{v e:α×β}(hn:(F.map (·.1)).Nodup)(hx:x<F.length)(hv:v.1=F[x].1):e∈F.set x v↔e=v\/(e∈F/\e.1≠v.1):=by
 constructor
 ·intro h;obtain⟨i,hi,rfl⟩:=kD h;rw[mN]at hi;rw[arM];by_cases q:x=i
  ·rw[if_pos q];exact .inl rfl
  ·rw[if_neg q];refine .inr ⟨nY hi,λz=>q ?_⟩;rw[hv]at z;have h1:x<(F.map (·.1)).length:=by lk
   have h2:i<(F.map (·.1)).length:=by lk
   exact((abC (i:=x) (j:=i) (h₀:=h1) (h₁:=h2) hn).mp (by lk))
 ·rintro(rfl|⟨h,hne⟩)
  ·exact List.mem_set hx _
  ·obtain⟨i,hi,rfl⟩:=kD h;have q:x≠i:=λz=>hne (by lk);have:(F.set x v)[i]'(by lk)=F[i]:=by lk
   fin2
def K5{α β:Type}{F:List (α×β)}{v:α×β}(hx:x<F.length)(hv:v.1=F[x].1):(F.set x v).map (·.1)=F.map (·.1):=by
 rw[Ai,hv];have:(F.map (·.1))[x]'(by lk)=F[x].1:=iY ..;rw[<-this,JV]
section
variable{n:Nat}{b:aj}{ms:aZ}{db:Nat->aj}{aI:aj}{F:List (Nat×List (aj×aj))}
def iq.start:iq n b ms db [] []:=⟨by simp,λ_ _ h=>(by cases h),λ_ _ h=>(by cases h),λs h=>(by cases h)⟩
def iq.skip(O:iq n b ms db aI F)(h1:¬1<(ms.getD (b.getD s 0) []).length):iq n b ms db (aI++[s]) F:=by
 refine⟨O.j8,O.gR,λj L h l ss hl=>?_,λt ht tX h2=>?_⟩
 ·obtain⟨a1,a2,a3⟩:=O.jQ j L h l ss hl;refine⟨a1,a2,λt=>?_⟩;rw[a3 t,cN,hZ];constructor
  ·lk
  ·rintro⟨x|x,y⟩
   ·exact⟨x,y⟩
   ·subst x;rw[y.2.1]at h1;exact(h1 (O.gR j L h).2.2.2).elim
 ·rcases cN.mp ht with q|q
  ·exact O.all t q tX h2
  ·rw[hZ.mp q]at h2
   exact(h1 h2).elim
def iq.aB(O:iq n b ms db aI F)(hs:s<n)(xK:s∉aI)(hj:b.getD s 0=j)(tY:j<ms.length)(h1:1<(ms.getD j []).length)
  (k1:(F'.map (·.1)).Nodup)(m1:(j,L')∈F')(o1: ∀i L,i≠j->((i,L)∈F'↔(i,L)∈F))(k2:(L'.map (·.1)).Nodup)(m2:(db s,gJ)∈L')(o2: ∀l ss,l≠db s->((l,ss)∈L'↔ ∃L,(j,L)∈F/\(l,ss)∈L))
  (e:(∃L ss,(j,L)∈F/\(db s,ss)∈L/\gJ=ss++[s])\/((∀L ss,(j,L)∈F->(db s,ss)∉L)/\gJ=[s])):iq n b ms db (aI++[s]) F':=by
 have eL: ∀L,(j,L)∈F'->L=L':=λL h=>AK k1 h m1;have eS: ∀ss,(db s,ss)∈L'->ss=gJ:=λss h=>AK k2 h m2;have new:gJ≠[]/\gJ.Nodup/\ ∀t,t∈gJ↔t∈aI++[s]/\t<n/\b.getD t 0=j/\db t=db s:=by
  rcases e with⟨L,ss,hL,iI,rfl⟩|⟨no,rfl⟩
  ·obtain⟨a1,a2,a3⟩:=O.jQ j L hL _ ss iI;fin2
  ·refine⟨by simp,by simp,λt=>?_⟩;rw[cN,hZ];constructor
   ·lk
   ·rintro⟨x|x,y1,y2,y3⟩
    ·obtain⟨L,hL,ss,iI⟩:=O.all t x y1 (by rw[y2];exact h1);lk
    ·exact x
 refine⟨k1,λi L h=>?_,λi L h l ss hl=>?_,λt ht tX h2=>?_⟩
 ·by_cases q:i=j
  ·fin2
  ·exact O.gR i L ((o1 i L q).mp h)
 ·have AD: ∀L0,(i,L0)∈F->(l,ss)∈L0->(i≠j\/l≠db s)->ss≠[]/\ss.Nodup/\ ∀t,t∈ss↔t∈aI++[s]/\t<n/\b.getD t 0=i/\db t=l:=λL0 h0 AM hne=>by
   obtain⟨a1,a2,a3⟩:=O.jQ i L0 h0 l ss AM;fin2
  by_cases q:i=j
  ·subst q;rw[eL L h]at hl;by_cases z:l=db s
   ·subst z
    rw[eS ss hl];exact new
   ·obtain⟨L0,h0,AM⟩:=(o2 l ss z).mp hl
    exact AD L0 h0 AM (.inr z)
  ·exact AD L ((o1 i L q).mp h) hl (.inl q)
 ·rcases cN.mp ht with q|q
  ·obtain⟨L,hL,ss,iI⟩:=O.all t q tX h2
   by_cases z:b.getD t 0=j
   ·rw[z]at hL⊢
    exists L',m1
    by_cases z2:db t=db s
    ·rw[z2];exact⟨gJ,m2⟩
    ·exact⟨ss,(o2 _ ss z2).mpr ⟨L,hL,iI⟩⟩
   ·exact⟨L,(o1 _ L z).mpr hL,ss,iI⟩
  ·rw[hZ.mp q,hj]
   exact⟨L',m1,gJ,m2⟩
end
def Gx(n x:Nat):(cu n 0).getD x 0=0:=by
 rw[xb,List.getElem?_replicate];split<;>rfl
def io.start(h:0<n):io n (cu n 0) [aU n]:=by
 refine⟨by simp,λs _=>by rw[Gx];simp,λs hs=>?_,λj hj s hs=>?_,λj hj=>?_,λj hj=>?_⟩
 ·rw[Gx]
  exact lF.mpr hs
 ·have:j=0:=by simp at hj;lia
  subst this
  exact⟨lF.mp hs,Gx _ _⟩
 ·have:j=0:=by simp at hj;lia
  subst this
  exact arL
 ·have:j=0:=by simp at hj;lia
  subst this
  intro q
  have:aU n=[]:=q
  rw[List.range_eq_nil]at this
  lia
def adj(T:gq rows W)(b:aj)(hs:s<rows.length)(ht:t<rows.length):
  ((rows.getD s []).map λx=>b.getD x 0)=((rows.getD t []).map λx=>b.getD x 0)↔ ∀k,k<W->b.getD (nx rows s k) 0=b.getD (nx rows t k) 0:=by
 have ls:=T.l5 hs;have lt:=T.l5 ht;constructor
 ·intro e k hk;have h:=congrArg (λl=>l.getD k 0) e;have g: ∀l:aj,k<l.length->(l.map λx=>b.getD x 0).getD k 0=b.getD (l.getD k 0) 0:=λl hl=>by
   lk
  simp only[g _ (ls▸hk),g _ (lt▸hk)]at h;exact h
 ·intro h;apply lC
  ·fin2
  ·intro k h1 h2;rw[ax]at h1 h2;have:=h k (by rw[<-ls];exact h1);unfold nx at this
   rw[cr h1,cr h2]at this
   rw[iY,iY]
   exact this
def adk{rows eP:aZ}{mv:aj}(T:gq rows W)(hl:eP.length=rows.length)(hm: ∀m∈mv,m<rows.length)
  (AN: ∀x s,x<rows.length->(s∈eP.getD x []↔s<rows.length/\x∈rows.getD s []))(hs:s<rows.length):
  (∃m∈mv,s∈eP.getD m [])↔oa rows W (λx=>x∈mv) s:=by
 have ls:=T.l5 hs;constructor
 ·rintro⟨m,rW,h⟩;obtain⟨_,h⟩:=(AN m s (hm m rW)).mp h;obtain⟨k,hk,e⟩:=kD h;refine⟨k,by rw[<-ls];exact hk,?_⟩
  show nx rows s k∈mv
  unfold nx
  rw[cr hk,e];exact rW
 ·rintro⟨k,hk,h⟩;refine⟨_,h,(AN _ s (hm _ h)).mpr ⟨hs,?_⟩⟩;exact eU (by rw[ls];exact hk)
def adl{bw:aj}(hb: ∀s,s<n->bw.getD s 0=0\/bw.getD s 0=1):
  ((aU n).filter (λs=>bw.getD s 0==1)++(aU n).filter (λs=>bw.getD s 0==0)).Perm (aU n):=by
 have e:(aU n).filter (λs=>bw.getD s 0==0)=(aU n).filter (λs=>!(bw.getD s 0==1)):=by
  apply zZ
  intro s hs
  rw[lF]at hs
  rcases hb s hs with h|h<;>rw[h]<;>rfl
 rw[e];exact List.filter_append_perm _ _
def adm{bw b mv:aj}(hb: ∀s,s<rows.length->bw.getD s 0=0\/bw.getD s 0=1)
  (hp: ∀s t,s<rows.length->t<rows.length->((∃p∈ps,s∈p/\t∈p)↔bw.getD s 0=bw.getD t 0))(hl:bw.length=rows.length)
  (S:Gq rows.length (cu rows.length 0) [aU rows.length] 0 ps b ms mv):pz rows W (bw.map λx=>decide (x=1)) (cu rows.length 0) b 1 (λx=>x∈mv):=by
 have tk: ∀s,s<rows.length->(bw.map λx=>decide (x=1)).getD s false=decide (bw.getD s 0=1):=λs hs=>by
  lk
 refine pz.first (λi j hi hj=>?_) (λi hi hm=>?_) (λi hi hm=>?_)
 ·rw[S.aA i j hi hj (Gx _ _) (Gx _ _),hp i j hi hj,tk i hi,tk j hj,decide_eq_decide];fin2
 ·rw[S.fi i hi hm,Gx]
 ·exact S.xG i hi hm
def dU(ss:aj):aj:=cY ss (aU ss.length)
noncomputable def cy(ss:aj):aj:=(aU ss.length).map λi=>(ss.tail++[256]).getD i 0-ss.getD i 0
def adn(r:aj):(aU r.length).map (λi=>r.getD i 0)=r:=by
 apply lC
 ·simp
 ·intro i a b
  rw[iY,xg,cr b]
def K6(h:r.length=ss.length):cY ss r=(dU ss).map (λs=>r.getD s 0):=by
 unfold dU;rw[<-Ay,<-h,adn]
def vp(ss:aj):(cy ss).length=ss.length:=by unfold cy;simp
def Si(hj:j<ss.length):(cy ss).getD j 0=(ss.tail++[256]).getD j 0-ss.getD j 0:=by
 unfold cy;lk
def ado(ss:aj):(aU ss.length).flatMap (λm=>cu ((cy ss).getD m 0) m)=dU ss:=by
 unfold dU;rw[<-Se ss ss (aU ss.length) iX,abD,abD];congr 1;apply fy;intro i hi;rw[lF]at hi;rw[Si hi,cr (l:=aU ss.length) (by lk),xg]
def Gy(s s':Nat)(aD:aj):cy (s::s'::aD)=(s'-s)::cy (s'::aD):=by
 unfold cy;rw[nX,Qr,gF,dy];rfl
def AO(h:fL ss)(hi:i<ss.length):0<(cy ss).getD i 0/\(cy ss).getD i 0<=256:=by
 induction ss generalizing i with
 |nil=>simp at hi
 |cons s aD ih=>
  have hs:=h.2 s (eG ..)
  cases aD with
  |nil=>
   have:i=0:=by simpa using hi
   subst this;show 0<256-s/\256-s<=256;lia
  |cons s' aD=>
   rw[Gy]
   cases i with
   |zero=>
    have h1:=h.lt;have h2:=h.2 s' (by simp)
    show 0<s'-s∧s'-s≤256
    lia
   |succ i=>exact ih h.tail (by simpa using hi)
def K7(n x:Nat):(cu n x).sum=n*x:=by
 induction n with
 |zero=>simp
 |succ n ih=>rw[tF,Af,ih,ab4];lia
theorem K8: ∀ss r,r.length=ss.length->(cY ss r).sum=((aU ss.length).map λi=>(cy ss).getD i 0*r.getD i 0).sum
 |[],r,_=>by cases r<;>rfl
 |s::aD,[],h=>by simp at h
 |[s],t::r,h=>by
  rw[cY,K7];show _=(256-s)*t+0;lia
 |s::s'::aD,t::r,h=>by
  have ih:=K8 (s'::aD) r (by simpa using h);rw[cY,J_,K7,ih,Gy,show(s::s'::aD).length=(s'::aD).length+1 from rfl];generalize(s'::aD).length=n;rw[Qr,gF,dy,Af];rfl
structure cZ(ss:aj)(mr:aZ)(M:Machine):Prop where
 st:fL ss
 zero: ∃t,ss=0::t
 eq:M.rows=mr.map (cY ss)
 jO: ∀i,i<mr.length->(mr.getD i []).length=ss.length
 d8: ∀i,i<mr.length-> ∀x∈mr.getD i [],x<mr.length
 xL:M.takes.length=mr.length
 pos:0<mr.length
 cT:mr.length<=1024
namespace cZ
variable{ss:aj}{mr:aZ}{M:Machine}
def Gz(h:cZ ss mr M):0<ss.length:=by obtain⟨t,e⟩:=h.zero;rw[e];simp
def size(h:cZ ss mr M):M.size=mr.length:=by unfold Machine.size;rw[h.eq,ax]
def row(h:cZ ss mr M)(hi:i<mr.length):M.rows.getD i []=cY ss (mr.getD i []):=by
 rw[h.eq,cr (by lk),iY,cr hi]
def Sj(h:cZ ss mr M)(hi:i<mr.length):(M.rows.getD i []).length=256:=by
 obtain⟨t,e⟩:=h.zero;have hw:=h.jO i hi;have bW:=h.st;rw[h.row hi];rw[e]at hw bW⊢;rw[KU t 0 _ bW (by rw[hw];rfl)]
def xM(h:cZ ss mr M):(dU ss).length=256:=by
 obtain⟨t,e⟩:=h.zero;have bW:=h.st;rw[e]at bW⊢;unfold dU;rw[KU t 0 _ bW (by simp)]
def AQ(h:cZ ss mr M)(hc:c<256):(dU ss).getD c 0<ss.length:=by
 obtain⟨t,e⟩:=h.zero;have bW:=h.st;rw[e]at bW⊢;have:=Gm 0 t 0 (aU (0::t).length) c bW (by simp) (cX _) hc;unfold dU;lk
def next(h:cZ ss mr M)(hi:i<mr.length)(hc:c<256):M.next i c=(mr.getD i []).getD ((dU ss).getD c 0) 0/\M.next i c<mr.length:=by
 have e:M.next i c=(mr.getD i []).getD ((dU ss).getD c 0) 0:=by
  unfold Machine.next;rw[h.row hi,K6 (h.jO i hi),cr (by rw[ax,h.xM];exact hc),iY,cr (l:=dU ss) (by rw[h.xM];exact hc)]
 exists e;rw[e];exact h.d8 i hi _ (eU (by rw[h.jO i hi];exact h.AQ hc))
def xN(h:cZ ss mr M)(l:aj):further M l=(aU mr.length).map λi=>((aU ss.length).map λj=>(cy ss).getD j 0*l.getD ((mr.getD i []).getD j 0) 0).sum:=by
 unfold further;apply lC
 ·rw[ax,ax,iX,h.eq,ax]
 ·intro i a b;rw[ax,iX]at b;have e:=h.row b;rw[cr (by lk)]at e;rw[iY,e,iY,xg,<-Ay,K8 ss _ (by rw[ax];exact h.jO i b)];congr 1;apply fy;intro j hj;rw[lF]at hj;have qw:j<(mr.getD i []).length:=by rw[h.jO i b];exact hj
  lk
def K9(h:cZ ss mr M)(l:aj):(further M l).length=mr.length:=by rw[h.xN,ax,iX]
def AR(h:cZ ss mr M): ∀n,(countsAt M n).length=mr.length
 |0=>by unfold countsAt;rw[ax,h.xL]
 |n+1=>h.K9 _
end cZ
def adp{l:aj}{f g:Nat->Nat}(h: ∀x∈l,f x%L=g x%L):(l.map f).sum%L=(l.map g).sum%L:=by
 induction l with
 |nil=>rfl
 |cons a l ih=>
  rw[gF,gF,Af,Af,asN,h a (eG ..),ih (λx hx=>h x (e5 _ hx)),<-asN]
def K_(hf:f 0=0)(l:aj)(i:Nat):(l.map f).getD i 0=f (l.getD i 0):=by
 fin2
def f9:Nat:=18446744073709551616
def cB(x:Nat):Nat:=min x f9
def d9(x:Nat):Nat:=x%f9
def adq{l:aj}{f g:Nat->Nat}:d9 (l.map λj=>f j*d9 (g j)).sum=d9 (l.map λj=>f j*g j).sum:=by
 unfold d9;apply adp;simp
def adr(w a:Nat):min (w*min a f9) f9=min (w*a) f9:=by
 unfold f9
 cases w with
 |zero=>simp
 |succ w=>
  fin2
def ads{l:aj}{f g:Nat->Nat}(h: ∀x∈l,min (f x) L=min (g x) L):min (l.map f).sum L=min (l.map g).sum L:=by
 induction l with
 |nil=>rfl
 |cons a l ih=>
  fin2
def adt{l:aj}{f g:Nat->Nat}:cB (l.map λj=>f j*cB (g j)).sum=cB (l.map λj=>f j*g j).sum:=by
 exact ads λx _=>adr _ _
def cZ.adu(h:cZ ss mr M)(l:aj):(further M (l.map d9)).map d9=(further M l).map d9:=by
 rw[h.xN,h.xN,dy,dy];apply fy;intro i _;show d9 _=d9 _;rw[<-adq (f:=λj=>(cy ss).getD j 0) (g:=λj=>l.getD ((mr.getD i []).getD j 0) 0)];congr 1;show(acb _ _).sum=_;congr 1;apply fy;intro j _;rw[K_ (by rfl)]
def cZ.adw(h:cZ ss mr M)(l:aj):(further M (l.map cB)).map cB=(further M l).map cB:=by
 rw[h.xN,h.xN,dy,dy];apply fy;intro i _;show cB _=cB _;rw[<-adt (f:=λj=>(cy ss).getD j 0) (g:=λj=>l.getD ((mr.getD i []).getD j 0) 0)];congr 1;show(acb _ _).sum=_;congr 1;apply fy;intro j _;rw[K_ (by rfl)]
noncomputable def jo(D:List (aj×Nat))(l:aj)(i:Nat):Nat:=(D.map λx=>l.getD (x.1.getD i 0) 0*x.2).sum
def fO:List (aj×Nat)->aj->Nat->List (aj×Nat)
 |[],c,w=>[(c,w)]
 |x::D,c,w=>if x.1=c then(x.1,x.2+w)::D else x::fO D c w
def adx(l:aj)(i:Nat):jo [] l i=0:=rfl
def ady(D E:List (aj×Nat))(l:aj)(i:Nat):jo (D++E) l i=jo D l i+jo E l i:=by
 unfold jo;rw[bI,J_]
def Sk(x:aj×Nat)(l:aj)(i:Nat):jo [x] l i=l.getD (x.1.getD i 0) 0*x.2:=by
 unfold jo;simp
def GA(x:aj×Nat)(D:List (aj×Nat))(l:aj)(i:Nat):jo (x::D) l i=l.getD (x.1.getD i 0) 0*x.2+jo D l i:=by
 unfold jo;rw[gF,Af]
theorem Sl(c:aj)(w:Nat)(l:aj)(i:Nat): ∀D,jo (fO D c w) l i=jo D l i+l.getD (c.getD i 0) 0*w
 |[]=>by unfold fO;rw[Sk,adx,tL]
 |x::D=>by
  unfold fO;split
  ·rename_i e;rw[GA,GA,e,Nat.mul_add];lia
  ·rw[GA,GA,Sl c w l i D];lia
noncomputable def dW(ss:aj)(mr:aZ)(j:Nat):List (aj×Nat):=(aU j).foldl (λD s=>fO D (mr.map λr=>r.getD s 0) ((cy ss).getD s 0)) []
def vq(ss:aj)(mr:aZ)(j:Nat):dW ss mr (j+1)=fO (dW ss mr j) (mr.map λr=>r.getD j 0) ((cy ss).getD j 0):=by
 unfold dW;rw[lD,FI];rfl
theorem Sm(ss:aj)(mr:aZ)(l:aj)(i:Nat)(hi:i<mr.length): ∀j,jo (dW ss mr j) l i=((aU j).map λj=>(cy ss).getD j 0*l.getD ((mr.getD i []).getD j 0) 0).sum
 |0=>rfl
 |j+1=>by
  rw[vq,Sl,Sm ss mr l i hi j,lD,bI,J_]
  congr 1
  rw[cr (l:=mr.map _) (by rw[ax];exact hi),iY,cr (l:=mr) hi,QW]
  simp
theorem Sn(c:aj)(w:Nat): ∀D,(fO D c w).length<=D.length+1
 |[]=>by simp[fO]
 |x::D=>by
  have:=Sn c w D
  unfold fO
  split
  ·simp
  ·simp;omega
def adz(c:aj)(w:Nat): ∀D,0<(fO D c w).length
 |[]=>by simp[fO]
 |x::D=>by
  unfold fO;split<;>simp
theorem K'(ss:aj)(mr:aZ): ∀j,(dW ss mr j).length<=j
 |0=>aW _
 |j+1=>by
  rw[vq];have:=K' ss mr j;have:=Sn (mr.map λr=>r.getD j 0) ((cy ss).getD j 0) (dW ss mr j);lia
def cZ.adA(h:cZ ss mr M)(l:aj):further M l=(aU mr.length).map λi=>jo (dW ss mr ss.length) l i:=by
 rw[h.xN];apply fy;intro i hi;rw[Sm ss mr l i (lF.mp hi)]
def kX(val:Nat->Nat):aj->Nat->Option (Nat×Nat)
 |[],_=>none
 |c::cs,k=>if k<val c then some (c,k)else kX val cs (k-val c)
def So(val:Nat->Nat)(c:Nat)(cs:aj)(k:Nat):kX val (c::cs) k=if k<val c then some (c,k)else kX val cs (k-val c):=rfl
theorem Sq{val:Nat->Nat}: ∀{cs:aj}{k:Nat},k<(cs.map val).sum-> ∃c r,kX val cs k=some (c,r)/\c∈cs/\r<val c
 |[],k,h=>by simp at h
 |c::cs,k,h=>by
  unfold kX;by_cases q:k<val c
  ·exact⟨c,k,by rw[if_pos q],eG ..,q⟩
  ·rw[gF,Af]at h;obtain⟨c',r,e,hc,hr⟩:=Sq (val:=val) (cs:=cs) (k:=k-val c) (by lia)
   exact⟨c',r,by rw[if_neg q,e],e5 _ hc,hr⟩
theorem Sr{val:Nat->Nat}{v:Nat}(aD:aj): ∀w a b,(∀c,a<=c->c<a+w->val c=v)->kX val (Kk a w++aD) b=if b<w*v then some (a+b/v,b%v)else kX val aD (b-w*v)
 |0,a,b,_=>by simp
 |w+1,a,b,h=>by
  have ha:=h a (aW _) (by lia);have ih:=Sr (val:=val) (v:=v) aD w (a+1) (b-v) λc h1 h2=>h c (by lia) (by lia);rw[List.range'_succ,QE,So,ha,ih,ab4];by_cases q:b<v
  ·rw[if_pos q,if_pos (by lia),J8 q,abF q];rfl
  ·rw[if_neg q];by_cases q2:b<w*v+v
   ·rw[if_pos (by omega),if_pos q2];have v0:0<v:=by
     lia
    have e1:b/v=(b-v)/v+1:=by
     rw[<-Nat.add_div_right _ v0,Nat.sub_add_cancel (by lia)]
    have e2:b%v=(b-v)%v:=by
     rw[Nat.mod_eq_sub_mod (by lia)]
    rw[e1,e2]
    generalize(b-v)/v=z
    rw[show a+1+z=a+(z+1)by lia]
   ·rw[if_neg (by lia),if_neg q2,show b-v-w*v=b-(w*v+v)by lia]
def AS(val:Nat->Nat)(x:Option Nat×Nat)(c:Nat):Option Nat×Nat:=match x.1 with
 |some _=>x
 |none=>if x.2<val c then(some c,x.2)else(none,x.2-val c)
theorem Ss(val:Nat->Nat)(y z:Nat): ∀cs:aj,cs.foldl (AS val) (some y,z)=(some y,z)
 |[]=>rfl
 |_::cs=>Ss val y z cs
theorem Su(val:Nat->Nat): ∀cs k,(∀c r,kX val cs k=some (c,r)->cs.foldl (AS val) (none,k)=(some c,r))/\(kX val cs k=none->(cs.foldl (AS val) (none,k)).1=none)
 |[],k=>⟨λc r h=>(by cases h),λ_=>rfl⟩
 |c::cs,k=>by
  have ih:=Su val cs (k-val c);have e:(c::cs).foldl (AS val) (none,k)=cs.foldl (AS val) (if k<val c then(some c,k)else(none,k-val c)):=rfl;rw[e];unfold kX;by_cases q:k<val c
  ·rw[if_pos q,if_pos q,Ss]
   refine⟨fun c' r h=>?_,fun h=>by cases h⟩
   cases h
   rfl
  ·rw[if_neg q,if_neg q]
   exact ih
def adB{l:aj}(r:aZ)(cs:aj)(h:kX (λc=>l.getD (m.next s c) 0) cs k=some (c,k'))(f:Option Nat×Nat->Word)(hf: ∀c k',f (some c,k')=c::spelledBy m r (m.next s c) k'):f (cs.foldl (λx c=>match x.1 with
   |some _=>x
   |none=>let w:=l.getD (m.next s c) 0
    if x.2<w then(some c,x.2)else(none,x.2-w)) (none,k))=c::spelledBy m r (m.next s c) k':=by
 have e:=(Su (λc=>l.getD (m.next s c) 0) cs k).1 c k' h;have e':cs.foldl (λx c=>match x.1 with
   |some _=>x
   |none=>let w:=l.getD (m.next s c) 0
    if x.2<w then(some c,x.2)else(none,x.2-w)) (none,k)=(some c,k'):=e
 rw[e',hf]
def adC(r:aZ)(h:kX (λc=>l.getD (m.next s c) 0) (aU 256) k=some (c,k')):spelledBy m (l::r) s k=c::spelledBy m r (m.next s c) k':=
 adB r (aU 256) h (λx=>match x.1 with
  |some c=>c::spelledBy m r (m.next s c) x.2
  |none=>[]) (λ_ _=>rfl)
def down(m:Machine):Nat->aZ
 |0=>[]
 |n+1=>countsAt m n::down m n
def adD(m:Machine)(f n k:Nat):kthFrom m (f+1) (down m n) (countsAt m n) k=if k<(countsAt m n).getD 0 0 then some (spelledBy m (down m n) 0 k)else kthFrom m f (down m (n+1)) (countsAt m (n+1)) (k-(countsAt m n).getD 0 0):=rfl
def adE(m:Machine)(k:Nat):kthOf m k=kthFrom m 257 (down m 0) (countsAt m 0) k:=rfl
def La(hb:b<f9)(hw:0<w):w*cB a<=b↔w*a<=b:=by
 unfold cB;unfold f9 at*;by_cases h:a<=18446744073709551616
 ·rw[FL h]
 ·rw[arS (by lia)];have h2:1*18446744073709551616<=w*a:=Nat.mul_le_mul hw (by lia);lia
def Sv(hb:b<f9)(hw:0<w)(h:w*a<=b):cB a=a:=by
 have:1*a<=w*a:=abm _ hw;exact FL (by lia)
def adF(hb:b<f9):b/cB a=b/a/\b%cB a=b%a:=by
 unfold cB;unfold f9 at*;by_cases h:a<=18446744073709551616
 ·lk
 ·rw[arS (by lia)];rw[J8 hb,J8 (by lia),abF hb,abF (by lia)];exact⟨rfl,rfl⟩
def adG:0<cB a↔0<a:=by unfold cB f9;lia
def Sw(ss:aj)(h:fL ss)(hj:j<ss.length):ss.getD j 0+(cy ss).getD j 0=if j+1<ss.length then ss.getD (j+1) 0 else 256:=by
 induction ss generalizing j with
 |nil=>simp at hj
 |cons s aD ih=>
  have hs:=h.2 s (eG ..)
  cases aD with
  |nil=>
   have:j=0:=by simpa using hj
   subst this;show s+(256-s)=256;lia
  |cons s' aD=>
   rw[Gy]
   cases j with
   |zero=>
    have h1:=h.lt
    rw[if_pos (by simp)]
    show s+(s'-s)=s'
    lia
   |succ j=>
    have:=ih h.tail (j:=j) (by simpa using hj);lk
def adH(h:fL (s::ss))(hj:j<(s::ss).length):s<=(s::ss).getD j 0:=by
 have:=eU (d:=0) hj;rcases cO.mp this with e|e
 ·rw[e];exact aW _
 ·exact lY ((rM.mp h.1).1 _ e)
theorem Sx: ∀ss s r c j,fL (s::ss)->r.length=ss.length+1->j<ss.length+1->(s::ss).getD j 0<=c->c<(s::ss).getD j 0+(cy (s::ss)).getD j 0->(cY (s::ss) r).getD (c-s) 0=r.getD j 0
 |[],s,t::r,c,j,h,hl,hj,h1,h2=>by
  have:j=0:=by simpa using hj
  subst this;have h2:c<s+(256-s):=h2;have h1:s<=c:=h1;rw[cY,cr (by fin2),aqQ];rfl
 |s'::aD,s,t::r,c,j,h,hl,hj,h1,h2=>by
  have hs:=h.lt;rw[Gy]at h2;rw[cY]
  cases j with
  |zero=>
   have h2:c<s+(s'-s):=h2
   have h1:s≤c:=h1
   rw[xb,FB (by simp;lia),eh (by simp;lia)]
   simp
  |succ j=>
   have h1:(s'::aD).getD j 0<=c:=h1;have h2:=h2;have qw:j<(s'::aD).length:=by simp at hj⊢;omega
   have hg:=adH h.tail qw;have ih:=Sx aD s' r c j h.tail (by simpa using hl) (by simpa using hj) h1 h2
   rw[xb,JO (by simp;lia),FE,show c-s-(s'-s)=c-s' by lia,←xb,ih]
   rfl
def cZ.Sy(h:cZ ss mr M)(hj:j<ss.length)(h1:ss.getD j 0<=c)(h2:c<ss.getD j 0+(cy ss).getD j 0):(dU ss).getD c 0=j:=by
 obtain⟨t,e⟩:=h.zero;have bW:=h.st;rw[e]at bW hj h1 h2⊢;have:=Sx t 0 (aU (0::t).length) c j bW (by simp) hj h1 h2;rw[QV]at this;unfold dU;lk
def cZ.adI(h:cZ ss mr M)(l:aj)(hq:q<mr.length)(hj:j<ss.length):
  kX (λc=>l.getD (M.next q c) 0) (Kk (ss.getD j 0) (256-ss.getD j 0)) b=
   if b<(cy ss).getD j 0*l.getD ((mr.getD q []).getD j 0) 0 then some (ss.getD j 0+b/l.getD ((mr.getD q []).getD j 0) 0,b%l.getD ((mr.getD q []).getD j 0) 0)
   else if j+1<ss.length then kX (λc=>l.getD (M.next q c) 0) (Kk (ss.getD (j+1) 0) (256-ss.getD (j+1) 0)) (b-(cy ss).getD j 0*l.getD ((mr.getD q []).getD j 0) 0)else none:=by
 have he:=Sw ss h.st hj;have dJ:ss.getD j 0+(cy ss).getD j 0<=256:=by
  rw[he];split
  ·rename_i q;exact lY (h.st.2 _ (eU q))
  ·exact aW _
 rw[show 256-ss.getD j 0=(cy ss).getD j 0+(256-(ss.getD j 0+(cy ss).getD j 0))by lia,<-aq4,Sr (v:=l.getD ((mr.getD q []).getD j 0) 0)]
 ·congr 1;rw[he];split
  ·rfl
  ·rfl
 ·intro c h1 h2;rw[(h.next hq (by lia)).1,h.Sy hj h1 h2]
def cZ.adJ(h:cZ ss mr M)(l:aj)(hq:q<mr.length):(further M l).getD q 0=((aU 256).map λc=>l.getD (M.next q c) 0).sum:=by
 have kY:q<M.rows.length:=by rw[h.eq,ax];exact hq
 unfold further;rw[cr (l:=M.rows.map _) (by rw[ax];exact kY),iY];congr 1;have hl:=h.Sj hq;unfold Machine.next;rw[cr kY]at hl⊢;generalize M.rows[q]=r at hl⊢;apply lC
 ·fin2
 ·lk
def code(w:Word):Nat:=w.foldl (λn c=>n*256+c+1) 0
theorem Sz: ∀(v:Word) a b,a<=b->v.foldl (λn c=>n*256+c+1) a<=v.foldl (λn c=>n*256+c+1) b
 |[],_,_,h=>h
 |c::v,a,b,h=>Sz v _ _ (show a*256+c+1<=b*256+c+1 by lia)
def Lb(u v:Word):code (u++v)=v.foldl (λn c=>n*256+c+1) (code u):=by
 unfold code;rw[FI]
def ir(u:Word)(c:Nat):code (u++[c])=code u*256+c+1:=by rw[Lb];rfl
def adK(v:Word)(h:code u<=code u'):code (u++v)<=code (u'++v):=by
 rw[Lb,Lb];exact Sz v _ _ h
theorem Ld(u:Word): ∀v:Word,code u<=code (u++v)
 |[]=>by simp
 |c::v=>by
  have h1:=Ld (u++[c]) v;rw[z7,ir]at h1;fin2
theorem SA: ∀n u v,u.length<=n->isWord u->isWord v->code u=code v->u=v
 |n,u,v,hn,hu,hv,h=>by
  rcases abb u with rfl|⟨u',c,rfl⟩
  ·rcases abb v with rfl|⟨v',d,rfl⟩
   ·rfl
   ·rw[Qs,ir]at h;have:code []=0:=rfl;lia
  ·rcases abb v with rfl|⟨v',d,rfl⟩
   ·rw[Qs,ir]at h;have:code []=0:=rfl;lia
   ·rw[Qs]at*;rw[Qs]at*;rw[ir,ir]at h;have hc:=hu c (by simp);have hd:=hv d (by simp);have e1:code u'=code v':=by lia
    have e2:c=d:=by lia
    match n,hn with
    |0,hn=>simp at hn
    |n+1,hn=>
     rw[SA n u' v' (by simp at hn;omega) (λx hx=>hu x (by simp[hx])) (λx hx=>hv x (by simp[hx])) e1,e2]
def adL(hu:isWord u)(hv:isWord v)(h:code u=code v):u=v:=SA _ u v (aW _) hu hv h
def Le(h:isWord w)(hc:c<256):isWord (w++[c]):=λx hx=>by
 rcases cN.mp hx with hx|hx
 ·exact h x hx
 ·lk
def gK(M N:Machine)(v:Word)(a b:Nat):Prop:=M.takes.getD (v.foldl M.next a) false≠N.takes.getD (v.foldl N.next b) false
abbrev fP:=Word×Nat×Nat
def vt(M N:Machine)(D:List fP)(x:fP)(c:Nat):Prop:= ∀v,gK M N v (M.next x.2.1 c) (N.next x.2.2 c)-> ∃y∈D,code y.1<=code (x.1++[c])/\gK M N v y.2.1 y.2.2
theorem Lf{M N:Machine}{D:List fP}{w:Word}(h0: ∀x∈D,gK M N [] x.2.1 x.2.2->code w<=code x.1)(hc: ∀x∈D,∀c,c<256->code w<=code (x.1++[c])\/vt M N D x c):
  ∀v x,x∈D->isWord v->gK M N v x.2.1 x.2.2->code w<=code (x.1++v)
 |[],x,hx,_,ht=>by rw[lE];exact h0 x hx ht
 |c::v,x,hx,hv,ht=>by
  have fQ:=hv c (eG ..);have e:x.1++c::v=(x.1++[c])++v:=by simp
  rw[e];rcases hc x hx c fQ with h|h
  ·exact gn h (Ld _ v)
  ·obtain⟨y,hy,h1,h2⟩:=h v ht;exact gn (Lf h0 hc v y hy (λz hz=>hv z (e5 _ hz)) h2) (adK v h1)
theorem Lg(h0: ∀x∈D,¬gK M N [] x.2.1 x.2.2)(hc: ∀x∈D,∀c,c<256->vt M N D x c):
  ∀v x,x∈D->isWord v->¬gK M N v x.2.1 x.2.2
 |[],x,hx,_,ht=>h0 x hx ht
 |c::v,x,hx,hv,ht=>by
  obtain⟨y,hy,_,h2⟩:=hc x hx c (hv c (eG ..)) v ht;exact Lg h0 hc v y hy (λz hz=>hv z (e5 _ hz)) h2
structure vw(M N:Machine)(w:Word):Prop where
 word:isWord w
 tells:gK M N w 0 0
 min: ∀v,isWord v->gK M N v 0 0->code w<=code v
def vw.K3(h:vw M N v)(k:vw M N w):v=w:=adL h.word k.word (Nat.le_antisymm (h.min w k.word k.tells) (k.min v h.word h.tells))
structure GB(M N:Machine)(m n:Nat)(P j7:List fP):Prop where
 eK: ∀x∈P++j7,isWord x.1/\x.1.foldl M.next 0=x.2.1/\x.1.foldl N.next 0=x.2.2/\x.2.1<m/\x.2.2<n
 xO:((P++j7).map qo).Nodup
 sorted:(P++j7).Pairwise λx y=>code x.1<code y.1
 first:(([],0,0):fP)∈P++j7
 aA: ∀x∈P,¬gK M N [] x.2.1 x.2.2
 mW: ∀x∈P,∀c,c<256-> ∃y∈P++j7,y.2=(M.next x.2.1 c,N.next x.2.2 c)/\code y.1<=code (x.1++[c])
 Lh: ∀y∈P++j7,∀t∈j7,code y.1<code t.1*256+1
structure SB(M N:Machine)(x:fP)(done:List (Nat×Nat))(c:Nat)(E:List fP):Prop where
 xP: ∀y∈E,∃c',c'<c/\y=(x.1++[c'],M.next x.2.1 c',N.next x.2.2 c')
 sorted:E.Pairwise λx y=>code x.1<code y.1
 xO:(done++E.map qo).Nodup
 mW: ∀c',c'<c->(M.next x.2.1 c',N.next x.2.2 c')∈done\/ ∃y∈E,y.2=(M.next x.2.1 c',N.next x.2.2 c')/\code y.1<=code (x.1++[c'])
noncomputable def AT(M N:Machine)(x:fP)(s:List (Nat×Nat)×List fP)(c:Nat):List (Nat×Nat)×List fP:=
 if s.1.contains (M.next x.2.1 c,N.next x.2.2 c)then s else(s.1++[(M.next x.2.1 c,N.next x.2.2 c)],s.2++[(x.1++[c],M.next x.2.1 c,N.next x.2.2 c)])
theorem SC(M N:Machine)(x:fP)(done:List (Nat×Nat))(hd:done.Nodup): ∀c,∃E,(aU c).foldl (AT M N x) (done,[])=(done++E.map qo,E)/\SB M N x done c E
 |0=>⟨[],by simp,λy hy=>(by cases hy),aqF,by simpa using hd,λc' h=>by lia⟩
 |c+1=>by
  obtain⟨E,e,h⟩:=SC M N x done hd c;rw[lD,FI,e];show∃E',AT M N x (done++E.map qo,E) c=_/\_;unfold AT;by_cases q:(M.next x.2.1 c,N.next x.2.2 c)∈done++E.map qo
  ·rw[if_pos (lW.mpr q)];refine⟨E,rfl,λy hy=>?_,h.sorted,h.xO,λc' fQ=>?_⟩
   ·obtain⟨c',h1,h2⟩:=h.xP y hy;exact⟨c',by lia,h2⟩
   ·rcases JR.mp fQ with h1|rfl
    ·exact h.mW c' h1
    ·rcases cN.mp q with q|q
     ·exact .inl q
     ·obtain⟨y,hy,e⟩:=cQ.mp q;obtain⟨c'',h1,h2⟩:=h.xP y hy;refine .inr ⟨y,hy,e,?_⟩;rw[h2,ir,ir];lia
  ·rw[if_neg (λz=>q (lW.mp z))];refine⟨E++[(x.1++[c],M.next x.2.1 c,N.next x.2.2 c)],?_,λy hy=>?_,?_,?_,λc' fQ=>?_⟩
   ·simp
   ·rcases cN.mp hy with hy|hy
    ·obtain⟨c',h1,h2⟩:=h.xP y hy;exact⟨c',by lia,h2⟩
    ·exact⟨c,by lia,hZ.mp hy⟩
   ·refine FG.mpr ⟨h.sorted,aa1 _ _,λy hy z hz=>?_⟩;obtain⟨c',h1,h2⟩:=h.xP y hy;rw[hZ.mp hz,h2,ir,ir];lia
   ·rw[bI,<-z7];refine o6.mpr ⟨h.xO,by simp,λa ha b hb=>?_⟩;fin2
   ·rcases JR.mp fQ with h1|rfl
    ·rcases h.mW c' h1 with z|⟨y,hy,z⟩
     ·exact .inl z
     ·exact .inr ⟨y,jK _ hy,z⟩
    ·exact .inr ⟨_,lV _ (aqL _),rfl,aW _⟩
def xQ{m:Machine}{w:Word}(h:w.foldl m.next 0=q):(w++[c]).foldl m.next 0=m.next q c:=by
 lk
def GB.next(h:GB M N m n P (x::r))(hM: ∀a c,a<m->c<256->M.next a c<m)(hN: ∀a c,a<n->c<256->N.next a c<n)
  (hs:¬gK M N [] x.2.1 x.2.2)(hE:SB M N x ((P++x::r).map qo) 256 E):GB M N m n (P++[x]) (r++E):=by
 have eq:(P++[x])++(r++E)=(P++x::r)++E:=by simp
 have hx:x∈P++x::r:=by simp
 have lx:=h.eK x hx;have hsx:=λt ht=>(rM.mp (FG.mp h.sorted).2.1).1 t ht;have SD: ∀y∈E,code x.1*256+1<=code y.1/\code y.1<=code x.1*256+256:=λy hy=>by
  obtain⟨c,hc,e⟩:=hE.xP y hy;rw[e,ir];lia
 refine⟨?_,?_,?_,?_,?_,?_,?_⟩
 ·rw[eq];intro y hy;rcases cN.mp hy with hy|hy
  ·exact h.eK y hy
  ·obtain⟨c,hc,e⟩:=hE.xP y hy;rw[e];exact⟨Le lx.1 hc,xQ lx.2.1,xQ lx.2.2.1,hM _ _ lx.2.2.2.1 hc,hN _ _ lx.2.2.2.2 hc⟩
 ·rw[eq,bI];exact hE.xO
 ·rw[eq];refine FG.mpr ⟨h.sorted,hE.sorted,λy hy z hz=>?_⟩;have:=h.Lh y hy x (by simp);have:=SD z hz;lia
 ·rw[eq];exact jK _ h.first
 ·intro y hy;rcases cN.mp hy with hy|hy
  ·exact h.aA y hy
  ·lk
 ·rw[eq];intro y hy c hc;rcases cN.mp hy with hy|hy
  ·obtain⟨z,hz,k⟩:=h.mW y hy c hc
   exact⟨z,jK _ hz,k⟩
  ·rw[hZ.mp hy];rcases hE.mW c hc with z|⟨z,hz,k⟩
   ·obtain⟨z',rX,e⟩:=cQ.mp z;exists z',jK _ rX,e;have:=h.Lh z' rX x (by simp);rw[ir];lia
   ·exact⟨z,lV _ hz,k⟩
 ·rw[eq];intro y hy t ht;have h1:code y.1<=code x.1*256+256:=by
   rcases cN.mp hy with hy|hy
   ·have:=h.Lh y hy x (by simp);lia
   ·exact(SD y hy).2
  fin2
def adM: ∀m n(l:List (Nat×Nat)),l.Nodup->(∀x∈l,x.1<m/\x.2<n)->l.length<=m*n:=by
 intro m n l hl hx;have h:(l.map λx=>x.1*n+x.2).Nodup:=by
  refine Qz.mpr (hl.imp_of_mem λ{a b}ha hb hne e=>hne ?_);have h1:=hx a ha;have h2:=hx b hb;have n0:0<n:=by lia
  have e1:(a.1*n+a.2)/n=a.1:=by rw[QW,ar7 n0,J8 h1.2];rfl
  have e2:(b.1*n+b.2)/n=b.1:=by rw[QW,ar7 n0,J8 h2.2];rfl
  fin2
 have:=ip (m*n) _ h λy hy=>by
  obtain⟨x,Lj,rfl⟩:=cQ.mp hy;have h1:=hx x Lj;have:(x.1+1)*n<=m*n:=abm _ h1.1;fin2
 lk
def adN(m n:Machine)(f:Nat)(done:List (Nat×Nat))(x:fP)(r:List fP):apartFrom m n (f+1) done (x::r)=if m.takes.getD x.2.1 false !=n.takes.getD x.2.2 false then some x.1 else apartFrom m n f ((aU 256).foldl (AT m n x) (done,[])).1 (r++((aU 256).foldl (AT m n x) (done,[])).2):=rfl
theorem SE{M N:Machine}{m n:Nat}(hM: ∀a c,a<m->c<256->M.next a c<m)(hN: ∀a c,a<n->c<256->N.next a c<n): ∀f P j7,GB M N m n P j7->P.length+f=m*n+1->(∀w,apartFrom M N f ((P++j7).map qo) j7=some w->vw M N w)/\(apartFrom M N f ((P++j7).map qo) j7=none-> ∀v,isWord v->¬gK M N v 0 0)
 |0,P,j7,h,hf=>by
  exfalso;have:=adM m n _ h.xO λx hx=>by
   obtain⟨y,hy,rfl⟩:=cQ.mp hx;exact(h.eK y hy).2.2.2
  fin2
 |f+1,P,[],h,hf=>by
  rw[lE];refine⟨λw e=>?_,λ_ v hv=>?_⟩
  ·exact absurd (show none=some w from e) (by simp)
  ·have h1:=h.first;rw[lE]at h1;refine Lg h.aA (λx hx c hc v ht=>?_) v _ h1 hv;obtain⟨y,hy,e,dJ⟩:=h.mW x hx c hc
   rw[lE]at hy
   refine⟨y,hy,dJ,?_⟩
   rw[e];exact ht
 |f+1,P,x::r,h,hf=>by
  rw[adN];have lx:=h.eK x (by simp);by_cases q:gK M N [] x.2.1 x.2.2
  ·have q':(M.takes.getD x.2.1 false !=N.takes.getD x.2.2 false)=true:=by rw[bne_iff_ne];exact q
   rw[if_pos q'];refine⟨λw e=>?_,λe=>by cases e⟩;obtain rfl:=bv e;have Ll: ∀y∈x::r,code x.1<=code y.1:=λy hy=>by
    rcases cO.mp hy with rfl|hy
    ·exact aW _
    ·exact lY ((rM.mp (FG.mp h.sorted).2.1).1 y hy)
   refine⟨lx.1,?_,λv hv ht=>?_⟩
   ·unfold gK;lk
   ·refine Lf (D:=P++x::r) (λy hy ht=>?_) (λy hy c hc=>?_) v _ h.first hv ht
    ·rcases cN.mp hy with hy|hy
     ·exact(h.aA y hy ht).elim
     ·exact Ll y hy
    ·rcases cN.mp hy with hy|hy
     ·refine .inr λv ht=>?_;obtain⟨z,hz,e,dJ⟩:=h.mW y hy c hc
      refine⟨z,hz,dJ,?_⟩
      rw[e];exact ht
     ·exact .inl (gn (Ll y hy) (Ld _ _))
  ·have q':¬(M.takes.getD x.2.1 false !=N.takes.getD x.2.2 false)=true:=by rw[bne_iff_ne];exact q
   rw[if_neg q'];obtain⟨E,e,hE⟩:=SC M N x ((P++x::r).map qo) h.xO 256;rw[e];have ih:=SE hM hN f (P++[x]) (r++E) (h.next hM hN q hE) (by simp;lia)
   have eq:(P++[x])++(r++E)=(P++x::r)++E:=by simp
   rw[eq,bI]at ih
   exact ih
def SF(hM:cZ ss mr M)(hN:cZ tt nr N):(∀w,apartOf M N=some w->vw M N w)/\(apartOf M N=none-> ∀v,isWord v->¬gK M N v 0 0):=by
 unfold apartOf;rw[hM.size,hN.size];exact SE (m:=mr.length) (n:=nr.length) (λa c h1 h2=>(hM.next h1 h2).2) (λa c h1 h2=>(hN.next h1 h2).2) _ [] [([],0,0)]
  ⟨λx hx=>by
   rw[J',hZ]at hx;subst hx;exact⟨λc hc=>(by cases hc),rfl,rfl,hM.pos,hN.pos⟩,by simp,by simp,by simp,λx hx=>(by cases hx),λx hx=>(by cases hx),λy hy t ht=>by
   rw[J',hZ]at hy;subst hy;show 0<_;lia⟩ (by simp)
def SG(hM:cZ ss mr M)(hN:cZ tt nr N)(h:vw M N w):apartOf M N=some w:=by
 have:=SF hM hN
 cases e:apartOf M N with
 |none=>exact(this.2 e w h.word h.tells).elim
 |some v=>rw[(this.1 v e).K3 h]
def adO(hM:cZ ss mr M)(hN:cZ tt nr N)(h: ∀v,isWord v->¬gK M N v 0 0):apartOf M N=none:=by
 have:=SF hM hN
 cases e:apartOf M N with
 |none=>rfl
 |some v=>exact(h v (this.1 v e).word (this.1 v e).tells).elim
def rY(n:Nat)(ab:aj)(f:Nat->Bool):Prop:= ∀s,s<n->f (ab.getD s 0)=f s
noncomputable def pE(n:Nat)(ab:aj):Nat:=((aU n).filter λs=>ab.getD s 0==s).length
structure Uf(n:Nat)(ab:aj):Prop where
 len:ab.length=n
 aB: ∀s,s<n->ab.getD s 0<n
 up: ∃(rk:Nat->Nat)(B:Nat),(∀s,s<n->rk s<=B)/\ ∀s,s<n->ab.getD s 0≠s->rk s<rk (ab.getD s 0)
def xR{l:aj}(hi:i<l.length):(l.set i x).getD j 0=if j=i then x else l.getD j 0:=by
 fin2
structure oj(n:Nat)(qy:aj)(a:Nat)(rk:Nat->Nat)(B:Nat)(ab:aj)(x:Nat):Prop where
 len:ab.length=n
 aB: ∀s,s<n->ab.getD s 0<n
 le: ∀s,s<n->rk s<=B
 up: ∀s,s<n->ab.getD s 0≠s->rk s<rk (ab.getD s 0)
 gS: ∀f,rY n qy f->rY n ab f/\f x=f a
 vx: ∀s,s<n->(ab.getD s 0=s↔qy.getD s 0=s)
 lt:x<n
def oj.start(h:Uf n ab)(ha:a<n): ∃rk B,oj n ab a rk B ab a:=by
 obtain⟨rk,B,h1,h2⟩:=h.up;exact⟨rk,B,h.len,h.aB,h1,h2,λf hf=>⟨hf,rfl⟩,λs _=>Iff.rfl,ha⟩
def oj.step(h:oj n qy a rk B ab x)(hx:ab.getD x 0≠x):
  oj n qy a rk B (ab.set x (ab.getD (ab.getD x 0) 0)) (ab.getD (ab.getD x 0) 0)/\B-rk (ab.getD (ab.getD x 0) 0)<B-rk x:=by
 have h1:=h.aB x h.lt;have h2:=h.aB _ h1;have r1:=h.up x h.lt hx;have r2:rk (ab.getD x 0)<=rk (ab.getD (ab.getD x 0) 0):=by
  by_cases q:ab.getD (ab.getD x 0) 0=ab.getD x 0
  ·rw[q];exact aW _
  ·exact lY (h.up _ h1 q)
 have qz:x<ab.length:=by rw[h.len];exact h.lt
 have hb:=h.le _ h2;refine⟨⟨by rw[mN];exact h.len,λs hs=>?_,h.le,λs hs=>?_,λf hf=>?_,λs hs=>?_,h2⟩,by lia⟩
 ·rw[xR qz];split
  ·exact h2
  ·exact h.aB s hs
 ·rw[xR qz];split
  ·lia
  ·exact h.up s hs
 ·have hg:=h.gS f hf;have e:f (ab.getD (ab.getD x 0) 0)=f x:=by rw[hg.1 _ h1,hg.1 _ h.lt]
  refine⟨λs hs=>?_,e.trans hg.2⟩;rw[xR qz];split
  ·rename_i e';rw[e',e]
  ·exact hg.1 s hs
 ·rw[xR qz];split
  ·rename_i e;rw[<-h.vx s hs,e];lia
  ·exact h.vx s hs
def oj.uf(h:oj n qy a rk B ab x):Uf n ab:=⟨h.len,h.aB,rk,B,h.le,h.up⟩
def SH(h: ∀s,s<n->(ab.getD s 0=s↔pF.getD s 0=s)):pE n ab=pE n pF:=by
 unfold pE;congr 1;apply zZ;fin2
structure GC(n:Nat)(qy:aj)(a:Nat)(ab:aj)(x:Nat):Prop where
 uf:Uf n ab
 gS: ∀f,rY n qy f->rY n ab f/\f x=f a
 vx: ∀s,s<n->(ab.getD s 0=s↔qy.getD s 0=s)
 lt:x<n
 cg:ab.getD x 0=x
def oj.done(h:oj n qy a rk B ab x)(hx:ab.getD x 0=x):GC n qy a ab x:=⟨h.uf,h.gS,h.vx,h.lt,hx⟩
structure AU(n:Nat)(ab:aj)(a b:Nat)(pF:aj)(r:Bool):Prop where
 uf:Uf n pF
 SJ:r=true->pE n pF+1=pE n ab/\ ∀f,rY n ab f->f a=f b->rY n pF f
 no:r=false->pE n pF=pE n ab/\ ∀f,rY n ab f->rY n pF f/\f a=f b
theorem SK{p q:Nat->Bool}{x:Nat}: ∀{l:aj},l.Nodup->x∈l->p x=true->q x=false->(∀s∈l,s≠x->p s=q s)->(l.filter q).length+1=(l.filter p).length
 |[],_,hx,_,_,_=>by cases hx
 |y::l,hn,hx,hp,hq,h=>by
  have eV:=jL.mp hn;by_cases e:y=x
  ·subst e;rw[xc hp,FC (by rw[hq];simp),nX];congr 2;apply zZ;fin2
  ·have Lj:x∈l:=by
    fin2
   have ih:=SK eV.2 Lj hp hq λs hs=>h s (e5 _ hs);have hy:=h y (eG ..) e
   cases ep:p y with
   |true=>
    lk
   |false=>
    lk
def adP(h1:GC n ab a ab1 x)(h2:GC n ab1 b GD y):AU n ab a b (GD.set y x) (!decide (x=y)):=by
 have ey:=h2.cg;have ex:=(h2.vx x h1.lt).mpr h1.cg;have hy:y<GD.length:=by rw[h2.uf.len];exact h2.lt
 have hr:=(SH h2.vx).trans (SH h1.vx);by_cases q:x=y
 ·subst q;have e:GD.set x x=GD:=by
   apply lC
   ·rw[mN]
   ·fin2
  rw[e];refine⟨h2.uf,λe=>by simp at e,λ_=>⟨hr,λf hf=>?_⟩⟩;have g1:=h1.gS f hf;have g2:=h2.gS f g1.1;lk
 ·refine⟨⟨by rw[mN];exact h2.uf.len,λs hs=>?_,?_⟩,λ_=>⟨?_,λf hf gU=>?_⟩,λe=>by simp[q]at e⟩
  ·rw[xR hy];split
   ·exact h1.lt
   ·exact h2.uf.aB s hs
  ·obtain⟨rk,B,dJ,hup⟩:=h2.uf.up;refine⟨λs=>if s=x then rk x+rk y+1 else rk s,2*B+1,λs hs=>?_,λs hs=>?_⟩
   ·have:=dJ s hs;have:=dJ x h1.lt;have:=dJ y h2.lt
    dsimp only
    split<;>lia
   ·rw[xR hy]
    dsimp only
    by_cases es:s=y
    ·have hsx:¬s=x:=fun e=>q (e.symm.trans es)
     rw[if_pos es,if_pos (show x=x from rfl),if_neg hsx]
     intro _
     rw[es];lia
    ·rw[if_neg es]
     intro hne
     have l8:s≠x:=fun e=>hne (by rw[e];exact ex)
     rw[if_neg l8]
     have:=hup s hs hne
     split
     ·rename_i e
      rw[e]at this;lia
     ·exact this
  ·rw[<-hr];unfold pE;refine SK (x:=y) arL (lF.mpr h2.lt) (by rw[ey];simp) (by lk) λs hs hne=>?_
   rw[xR hy,if_neg hne]
  ·have g1:=h1.gS f hf;have g2:=h2.gS f g1.1;intro s hs;rw[xR hy];split
   ·lk
   ·exact g2.1 s hs
def SM(n:Nat):Uf n (aU n)/\pE n (aU n)=n:=by
 have e: ∀s,s<n->(aU n).getD s 0=s:=λs hs=>by lk
 exists⟨iX,λs hs=>by lk,λ_=>0,0,λ_ _=>aW _,λs hs h=>(h (e s hs)).elim⟩;unfold pE;rw[J0.mpr,iX];lk
def d0:fP:=([],0,0)
structure ia(M N:Machine)(m n:Nat)(Ls:aj)(D:List fP)(bZ lb ab:aj)(p j:Nat):Prop where
 eK: ∀x∈D,isWord x.1/\x.1.foldl M.next 0=x.2.1/\x.1.foldl N.next 0=x.2.2/\x.2.1<m/\x.2.2<n
 sorted:D.Pairwise λx y=>code x.1<code y.1
 zero:D.getD 0 d0=d0
 rZ:bZ.length=D.length
 cq:lb.length=D.length
 GF: ∀k,0<k->k<D.length->bZ.getD k 0<k/\(D.getD k d0).1=(D.getD (bZ.getD k 0) d0).1++[lb.getD k 0]
 bytes: ∀x∈lb,x<256
 aA: ∀x∈D,¬gK M N [] x.2.1 x.2.2
 uf:Uf (m+n) ab
 AV:pE (m+n) ab+D.length=m+n
 gS: ∀f,(∀x∈D,f x.2.1=f (m+x.2.2))->rY (m+n) ab f
 mW: ∀k,k<p-> ∀c,c<256->vt M N D (D.getD k d0) c
 GG: ∀i,i<j->vt M N D (D.getD p d0) (Ls.getD i 0)
 here: ∀y∈D,∀i,j<=i->i<Ls.length->code y.1<code (D.getD p d0).1*256+Ls.getD i 0+1
 Lm: ∀y∈D,∀k,p<k->k<D.length->code y.1<code (D.getD k d0).1*256+1
 jp:p<D.length
structure GH(ss tt Ls:aj):Prop where
 sorted:Ls.Pairwise (·< ·)
 lt: ∀x∈Ls,x<256
 mem: ∀x,x∈Ls↔x∈ss\/x∈tt
def xS{D:List fP}(h:k<D.length):D.getD k d0∈D:=by
 lk
def on{D E:List fP}(h:k<D.length):(D++E).getD k d0=D.getD k d0:=by
 rw[xb,FB h,xb]
def AW(D:List fP)(x:fP):(D++[x]).getD D.length d0=x:=by
 simp
def GI{D E:aj}(h:k<D.length):(D++E).getD k 0=D.getD k 0:=by
 rw[xb,FB h,xb]
def xT(D:aj)(x:Nat):(D++[x]).getD D.length 0=x:=by
 simp
def SN{D:List fP}(h:D.Pairwise λx y=>code x.1<code y.1)(Ln:i<k)(hk:k<D.length):code (D.getD i d0).1<code (D.getD k d0).1:=by
 rw[xb,eh (by lia:i<D.length),xb,eh hk];exact Fz.mp h i k (by lia) hk Ln
def SQ{Ls:aj}(h:Ls.Pairwise (·< ·))(Ln:i<k)(hk:k<Ls.length):Ls.getD i 0<Ls.getD k 0:=by
 rw[cr (by lia:i<Ls.length),cr hk];exact Fz.mp h i k (by lia) hk Ln
def SR(h:vt M N D x c):vt M N (D++E) x c:=λv ht=>by
 obtain⟨y,hy,k⟩:=h v ht
 exact⟨y,jK _ hy,k⟩
section
variable{ss tt Ls:aj}{mr nr:aZ}{M N:Machine}{D:List fP}{bZ lb ab:aj}{p j:Nat}
def ia.skip(h:ia M N m n Ls D bZ lb ab p j)(hj:j<Ls.length)(hm:M.next (D.getD p d0).2.1 (Ls.getD j 0)<m)(u:AU (m+n) ab (M.next (D.getD p d0).2.1 (Ls.getD j 0)) (m+N.next (D.getD p d0).2.2 (Ls.getD j 0)) pF false):ia M N m n Ls D bZ lb pF p (j+1):=by
 have un:=u.no rfl;refine⟨h.eK,h.sorted,h.zero,h.rZ,h.cq,h.GF,h.bytes,h.aA,u.uf,by rw[un.1];exact h.AV,λf hf=>(un.2 f (h.gS f hf)).1,h.mW,λi hi=>?_,λy hy i h1 h2=>h.here y hy i (by lia) h2,h.Lm,h.jp⟩;rcases JR.mp hi with hi|rfl
 ·exact h.GG i hi
 ·intro v ht;refine aaX λq=>?_;have hn:=λy hy xE=>q ⟨y,hy,by rw[ir];exact lY (h.here y hy i (aW _) hj),xE⟩;have hg:=h.gS (λs=>if s<m then M.takes.getD (v.foldl M.next s) false else N.takes.getD (v.foldl N.next (s-m)) false) λx hx=>by
   have:=h.eK x hx;rw[if_pos this.2.2.2.1,if_neg (by lia),Qq];exact aaX λz=>hn x hx z
  have:=(un.2 _ hg).2;rw[if_pos hm,if_neg (by lia),Qq]at this;exact ht this
def ia.add(h:ia M N m n Ls D bZ lb ab p j)(L:Ls.Pairwise (·< ·))(hl: ∀x∈Ls,x<256)(hj:j<Ls.length)(hm:M.next (D.getD p d0).2.1 (Ls.getD j 0)<m)(hn:N.next (D.getD p d0).2.2 (Ls.getD j 0)<n)
  (u:AU (m+n) ab (M.next (D.getD p d0).2.1 (Ls.getD j 0)) (m+N.next (D.getD p d0).2.2 (Ls.getD j 0)) pF true)(hs:¬gK M N [] (M.next (D.getD p d0).2.1 (Ls.getD j 0)) (N.next (D.getD p d0).2.2 (Ls.getD j 0))):
  ia M N m n Ls (D++[((D.getD p d0).1++[Ls.getD j 0],M.next (D.getD p d0).2.1 (Ls.getD j 0),N.next (D.getD p d0).2.2 (Ls.getD j 0))]) (bZ++[p]) (lb++[Ls.getD j 0]) pF p (j+1):=by
 have uy:=u.SJ rfl;have hc:Ls.getD j 0<256:=hl _ (eU hj);have lx:=h.eK _ (xS h.jp);have h0:0<D.length:=by have:=h.jp;lia
 refine⟨λx hx=>?_,?_,by rw[on h0];exact h.zero,by simp[h.rZ],by simp[h.cq],λk h1 h2=>?_,λx hx=>?_,λx hx=>?_,u.uf,?_,λf hf=>?_,λk hk c fQ=>?_,λi hi=>?_,λy hy i h1 h2=>?_,λy hy k h1 h2=>?_,?_⟩
 ·rcases cN.mp hx with hx|hx
  ·exact h.eK x hx
  ·rw[hZ.mp hx];exact⟨Le lx.1 hc,xQ lx.2.1,xQ lx.2.2.1,hm,hn⟩
 ·refine FG.mpr ⟨h.sorted,aa1 _ _,λy hy z hz=>?_⟩;rw[hZ.mp hz,ir];exact h.here y hy j (aW _) hj
 ·rw[dS,zW]at h2;by_cases q:k<D.length
  ·have hp:=h.GF k h1 q;rw[GI (by rw[h.rZ];exact q),GI (by rw[h.cq];exact q),on q,on (by lia)];exact hp
  ·have:k=D.length:=by lia
   subst this;rw[AW,<-h.rZ,xT,h.rZ,<-h.cq,xT,on h.jp];exact⟨by rw[h.cq];exact h.jp,rfl⟩
 ·rcases cN.mp hx with hx|hx
  ·exact h.bytes x hx
  ·lk
 ·rcases cN.mp hx with hx|hx
  ·exact h.aA x hx
  ·rw[hZ.mp hx];exact hs
 ·have:=h.AV
  rw[dS,zW]
  lia
 ·refine uy.2 f (h.gS f λx hx=>hf x (jK _ hx)) ?_;exact hf _ (lV _ (aqL _))
 ·rw[on (by have:=h.jp;lia)];exact SR (h.mW k hk c fQ)
 ·rw[on h.jp];rcases JR.mp hi with hi|rfl
  ·exact SR (h.GG i hi)
  ·intro v ht
   exact⟨_,lV _ (aqL _),aW _,ht⟩
 ·rw[on h.jp];rcases cN.mp hy with hy|hy
  ·exact h.here y hy i (by lia) h2
  ·rw[hZ.mp hy,ir];have:=SQ L (show j<i by lia) h2;lia
 ·rw[dS,zW]at h2;have hy':code y.1<=code (D.getD p d0).1*256+256:=by
   rcases cN.mp hy with hy|hy
   ·have:=h.here y hy j (aW _) hj;lia
   ·rw[hZ.mp hy,ir];lia
  by_cases q:k<D.length
  ·rw[on q];have:=SN h.sorted h1 q;lia
  ·have:k=D.length:=by lia
   subst this;rw[AW,ir];lia
 ·rw[dS];have:=h.jp;lia
def ia.found(h:ia M N m n Ls D bZ lb ab p j)(hM:cZ ss mr M)(hN:cZ tt nr N)(em:mr.length=m)(en:nr.length=n)(L:GH ss tt Ls)(hj:j<Ls.length)
  (hs:gK M N [] (M.next (D.getD p d0).2.1 (Ls.getD j 0)) (N.next (D.getD p d0).2.2 (Ls.getD j 0)))
  (pG: ∀a c,a<m->c<256-> ∃i,i<Ls.length/\Ls.getD i 0<=c/\ ∀a b,a<m->b<n->M.next a c=M.next a (Ls.getD i 0)/\N.next b c=N.next b (Ls.getD i 0)):vw M N ((D.getD p d0).1++[Ls.getD j 0]):=by
 have hc:Ls.getD j 0<256:=L.lt _ (eU hj);have lx:=h.eK _ (xS h.jp);refine⟨Le lx.1 hc,?_,λv hv ht=>?_⟩
 ·unfold gK;rw[xQ lx.2.1,xQ lx.2.2.1];exact hs
 ·have AX:d0∈D:=by have:=xS (D:=D) (k:=0) (by have:=h.jp;lia);rwa[h.zero]at this
  refine Lf (D:=D) (λy hy ht=>(h.aA y hy ht).elim) (λy hy c fQ=>?_) v d0 AX hv ht;obtain⟨k,hk,rfl⟩: ∃k,k<D.length/\D.getD k d0=y:=by
   obtain⟨k,hk,e⟩:=kD hy;exact⟨k,hk,by lk⟩
  rcases Nat.lt_trichotomy k p with q|rfl|q
  ·exact .inr (h.mW k q c fQ)
  ·obtain⟨i,hi,dJ,mX⟩:=pG (D.getD k d0).2.1 c lx.2.2.2.1 fQ;by_cases q:i<j
   ·refine .inr λv ht=>?_;rw[(mX _ _ lx.2.2.2.1 lx.2.2.2.2).1,(mX _ _ lx.2.2.2.1 lx.2.2.2.2).2]at ht;obtain⟨y,hy,h1,h2⟩:=h.GG i q v ht;refine⟨y,hy,?_,h2⟩;rw[ir]at h1⊢;lia
   ·left;have:Ls.getD j 0<=Ls.getD i 0:=by
     rcases asI j i with q'|q'
     ·exact lY (SQ L.sorted q' hi)
     ·fin2
    rw[ir,ir];lia
  ·left;have:=SN h.sorted q hk;rw[ir,ir];lia
def ia.SS(h:ia M N m n Ls D bZ lb ab p Ls.length)
  (pG: ∀a c,a<m->c<256-> ∃i,i<Ls.length/\Ls.getD i 0<=c/\ ∀a b,a<m->b<n->M.next a c=M.next a (Ls.getD i 0)/\N.next b c=N.next b (Ls.getD i 0)): ∀c,c<256->vt M N D (D.getD p d0) c:=λc fQ v ht=>by
 have lx:=h.eK _ (xS h.jp);obtain⟨i,hi,dJ,mX⟩:=pG (D.getD p d0).2.1 c lx.2.2.2.1 fQ;rw[(mX _ _ lx.2.2.2.1 lx.2.2.2.2).1,(mX _ _ lx.2.2.2.1 lx.2.2.2.2).2]at ht;obtain⟨y,hy,h1,h2⟩:=h.GG i hi v ht;refine⟨y,hy,?_,h2⟩;rw[ir]at h1⊢;lia
def ia.next(h:ia M N m n Ls D bZ lb ab p Ls.length)(hp:p+1<D.length)
  (pG: ∀a c,a<m->c<256-> ∃i,i<Ls.length/\Ls.getD i 0<=c/\ ∀a b,a<m->b<n->M.next a c=M.next a (Ls.getD i 0)/\N.next b c=N.next b (Ls.getD i 0)):ia M N m n Ls D bZ lb ab (p+1) 0:=by
 refine⟨h.eK,h.sorted,h.zero,h.rZ,h.cq,h.GF,h.bytes,h.aA,h.uf,h.AV,h.gS,λk hk=>?_,λi hi=>by lia,λy hy i _ _=>?_,λy hy k h1 h2=>h.Lm y hy k (by lia) h2,hp⟩
 ·rcases JR.mp hk with hk|rfl
  ·exact h.mW k hk
  ·exact h.SS pG
 ·have:=h.Lm y hy (p+1) (by lia) hp;lia
def ia.none(h:ia M N m n Ls D bZ lb ab p Ls.length)(hp:¬p+1<D.length)
  (pG: ∀a c,a<m->c<256-> ∃i,i<Ls.length/\Ls.getD i 0<=c/\ ∀a b,a<m->b<n->M.next a c=M.next a (Ls.getD i 0)/\N.next b c=N.next b (Ls.getD i 0)): ∀v,isWord v->¬gK M N v 0 0:=by
 have AX:d0∈D:=by have:=xS (D:=D) (k:=0) (by have:=h.jp;lia);rwa[h.zero]at this
 intro v hv;refine Lg (D:=D) h.aA (λy hy c hc=>?_) v d0 AX hv;obtain⟨k,hk,rfl⟩: ∃k,k<D.length/\D.getD k d0=y:=by
  obtain⟨k,hk,e⟩:=kD hy;exact⟨k,hk,by lk⟩
 by_cases q:k=p
 ·subst q;exact h.SS pG c hc
 ·exact h.mW k (by have:=h.jp;lia) c hc
def ia.start(hm:0<m)(hn:0<n)(hs:¬gK M N [] 0 0)(u:AU (m+n) (aU (m+n)) 0 m ab r):ia M N m n Ls [d0] [0] [0] ab 0 0:=by
 have er:r=true:=by
  cases r with
  |true=>rfl
  |false=>
   have:=(u.no rfl).2 (λs=>decide (s=0)) λs hs=>by
    lk
   simp at this;lia
 subst er;have uy:=u.SJ rfl;have us:=SM (m+n);refine⟨λx hx=>?_,aa1 _ _,rfl,rfl,rfl,λk h1 h2=>?_,λx hx=>?_,λx hx=>?_,u.uf,?_,λf hf=>?_,λk hk=>by lia,λi hi=>by lia,λy hy i _ _=>?_,λy hy k h1 h2=>?_,by simp⟩
 ·rw[hZ.mp hx];exact⟨λc hc=>(by cases hc),rfl,rfl,hm,hn⟩
 ·simp at h2;lia
 ·lk
 ·rw[hZ.mp hx];exact hs
 ·lk
 ·refine uy.2 f (λs hs=>?_) (hf d0 (aqL _));lk
 ·fin2
 ·simp at h2;lia
end
def cZ.SU(h:cZ ss mr M)(hi:i<mr.length)(hc:c<256)(AY:c'<=c)(hs: ∀s∈ss,s<=c->s<=c'):M.next i c=M.next i c':=by
 have e: ∀d,d<256->M.next i d=(mr.getD i []).getD (kR ss d) 0:=λd hd=>by
  unfold Machine.next;rw[h.row hi];obtain⟨t,e⟩:=h.zero;have hw:=h.jO i hi;have bW:=h.st;rw[e]at hw bW⊢;have:=(Gm 0 t 0 (mr.getD i []) d bW (by rw[hw];rfl) (cX _) hd).1;rwa[QV]at this
 rw[e c hc,e c' (by lia)];congr 1;unfold kR;congr 2;apply zZ;fin2
def adQ{Ls:aj}{c:Nat}(h0:0∈Ls): ∃i,i<Ls.length/\Ls.getD i 0<=c/\ ∀s∈Ls,s<=c->s<=Ls.getD i 0:=by
 have key: ∀(l:aj),(∃x∈l,x<=c)-> ∃x∈l,x<=c/\ ∀s∈l,s<=c->s<=x:=by
  intro l;induction l with
  |nil=>intro⟨x,hx,_⟩;cases hx
  |cons a l ih=>
   intro _;by_cases q: ∃x∈l,x<=c
   ·fin2
   ·fin2
 obtain⟨x,hx,h1,h2⟩:=key Ls ⟨0,h0,cX _⟩;obtain⟨i,hi,e⟩:=kD hx;refine⟨i,hi,?_,?_⟩
 ·lk
 ·lk
def GH.GJ{ss tt Ls:aj}{mr nr:aZ}{M N:Machine}(L:GH ss tt Ls)(hM:cZ ss mr M)(hN:cZ tt nr N)(a c:Nat)(_:a<mr.length)(hc:c<256):
  ∃i,i<Ls.length/\Ls.getD i 0<=c/\ ∀a b,a<mr.length->b<nr.length->M.next a c=M.next a (Ls.getD i 0)/\N.next b c=N.next b (Ls.getD i 0):=by
 have h0:=(L.mem 0).mpr (.inl (by obtain⟨t,e⟩:=hM.zero;lk));obtain⟨i,hi,h1,h2⟩:=adQ (c:=c) h0;exact⟨i,hi,h1,λa b ha hb=>⟨hM.SU ha hc h1 λs hs=>h2 s ((L.mem s).mpr (.inl hs)),hN.SU hb hc h1 λs hs=>h2 s ((L.mem s).mpr (.inr hs))⟩⟩
end BM
def zA(_:0=0:=by rfl):=True
def zC(_:0=0\/0=1:=by first|exact .inl rfl|exact .inr rfl):=True
def zD(_: ∀_ _:Nat,0=0:=by exact λ_ _=>rfl):=True
def zB(_:0=0:=by room):=True
namespace L2
open PySem PySem.Spec PyProof.Rows
abbrev bR:=Sum Int Str
def tZ:bR->au->Bool
 |.inl k,v=>QY k v
 |.inr x,v=>arZ x v
def adR(w:a_):bR->Int
 |.inl k=>Rh k
 |.inr x=>hashStr w x
def qA: ∀{k:bR}{v:au},tZ k v=true->(∃i t,k=bQ i/\v=kK i t)\/(∃x t,k=Ku x/\v=asM x t)
 |.inl i,v,h=>by
  obtain⟨t,e⟩:=abw (k:=i) (v:=v) h;exact .inl ⟨i,t,rfl,e⟩
 |.inr x,v,h=>by
  obtain⟨t,e⟩:=Value.isStrOf_shape (x:=x) (v:=v) h;exact .inr ⟨x,t,rfl,e⟩
def adS(i:Int)(t:Tok):tZ (.inl i) (.int i t)=true:=by simp[tZ,QY]
def adT(x:Str)(t:Tok):tZ (.inr x) (.str x t)=true:=by simp[tZ,arZ]
def adU(a b:Int):decide ((bQ a:bR)=bQ b)=(a==b):=by
 fin2
def adV(a b:Str):decide ((Ku a:bR)=Ku b)=decide (a=b):=by
 simp
def adW(a:Int)(b:Str):decide ((bQ a:bR)=Ku b)=false:=decide_eq_false (λq=>nomatch q)
def adX(a:Str)(b:Int):decide ((Ku a:bR)=bQ b)=false:=decide_eq_false (λq=>nomatch q)
def fC(prog:bj)(w:a_):PySem.KeyKind prog w bR where
 is:=tZ;hash:=adR w;inj:=λv a b ha hb=>by
  rcases qA ha with⟨i,t,rfl,rfl⟩|⟨x,t,rfl,rfl⟩
  ·rcases qA hb with⟨j,u,rfl,e⟩|⟨y,u,rfl,e⟩
   ·injection e with e1 _;rw[e1]
   ·exact nomatch e
  ·rcases qA hb with⟨j,u,rfl,e⟩|⟨y,u,rfl,e⟩
   ·exact nomatch e
   ·injection e with e1 _;rw[e1]
 byValue:=λk v h=>by
  rcases qA h with⟨i,t,rfl,rfl⟩|⟨x,t,rfl,rfl⟩<;>rfl
 pyHash:=λhv h=>by
  rcases qA hv with⟨i,t,rfl,rfl⟩|⟨x,t,rfl,rfl⟩
  ·exact wpAny_pyHash_int h
  ·exact wpAny_pyHash_str h
 eqBool:=λhu hv h=>by
  rcases qA hu with⟨i,t,rfl,rfl⟩|⟨x,t,rfl,rfl⟩
  ·rcases qA hv with⟨j,u,rfl,rfl⟩|⟨y,u,rfl,rfl⟩
   ·rw[adU]at h;exact wpAny_eqBool_int h
   ·rw[adW]at h;exact auu i t y u _ _ _ _ h
  ·rcases qA hv with⟨j,u,rfl,rfl⟩|⟨y,u,rfl,rfl⟩
   ·rw[adX]at h;exact aut x t j u _ _ _ _ h
   ·rw[adV]at h;exact wpAny_eqBool_str h
 «strs» :=λk x t v h=>by
  rcases qA h with⟨i,u,rfl,e⟩|⟨y,u,rfl,e⟩
  ·exact nomatch e
  ·injection e with e1 _;subst e1
   cases v<;>rfl
def adY(prog:bj)(w:a_)(i:Int)(t:Tok):(fC prog w).is (.inl i) (.int i t)=true:=adS i t
def adZ(prog:bj)(w:a_)(x:Str)(t:Tok):(fC prog w).is (.inr x) (.str x t)=true:=adT x t
inductive V where
 |aX|bl (b:Bool)|int (i:Int)|str (x:Str)|j9 (b:Array UInt8)|AZ (b:UInt64)|ref (a:ag)|ty (n:String)
 deriving DecidableEq
def bJ:V->au->Prop
 |.aX,u=>u=im
 |.bl b,u=>u=Kn b
 |.int i,u=> ∃t,u=kK i t
 |.str x,u=> ∃t,u=asM x t
 |.j9 b,u=> ∃t,u=Value.bytes b t
 |.AZ b,u=> ∃t,u=Value.float b t
 |.ref a,u=>u=dA a
 |.ty n,u=>u=kJ n
abbrev bd:List V->List au->Prop:=qu bJ
def bd.length(r:bd xs us):xs.length=us.length:=mQ r
theorem bd.get: ∀{xs:List V}{us:List au}{i:Nat}{x:V},bd xs us->xs[i]?=some x-> ∃u,us[i]?=some u/\bJ x u
 |_,_,_,_,.nil,e=>by simp at e
 |_,_,0,_,.cons r _,e=>by lk
 |_,_,i+1,x,.cons _ t,e=>by
  obtain⟨u,h1,h2⟩:=bd.get (i:=i) (x:=x) t (by simpa using e);lk
theorem bd.set{x:V}{u:au}(r:bJ x u): ∀{xs:List V}{us:List au}(i:Nat),bd xs us->bd (xs.set i x) (us.set i u)
 |_,_,_,.nil=>.nil
 |_,_,0,.cons _ t=>.cons r t
 |_,_,i+1,.cons q t=>.cons q (bd.set r i t)
theorem bd.append: ∀{xs ys:List V}{us ws:List au},bd xs us->bd ys ws->bd (xs++ys) (us++ws)
 |_,_,_,_,.nil,s=>s
 |_,_,_,_,.cons r t,s=>.cons r (bd.append t s)
theorem bd.take: ∀{xs:List V}{us:List au}(n:Nat),bd xs us->bd (xs.take n) (us.take n)
 |_,_,0,_=>.nil
 |_,_,_+1,.nil=>.nil
 |_,_,n+1,.cons r t=>.cons r (bd.take n t)
theorem bd.drop: ∀{xs:List V}{us:List au}(n:Nat),bd xs us->bd (xs.drop n) (us.drop n)
 |_,_,0,r=>r
 |_,_,_+1,.nil=>.nil
 |_,_,n+1,.cons _ t=>bd.drop n t
def jq:Option V->Option au->Prop
 |some v,some u=>bJ v u
 |none,none=>True
 |_,_=>False
def KV{κ:Type}:List (κ×V)->List (κ×au)->Prop:=qu λp q=>p.1=q.1/\bJ p.2 q.2
def kV:bR->V
 |.inl i=>.int i
 |.inr x=>.str x
inductive HO where
 |af (xs:List V)
 |aE (xs:List V)
 |dK (kvs:List (bR×V))|dT (kvs:List (List bR×V))
 |set (S:Int->Bool) (n:Nat)
 |aB (C dx:ag) (fs:List (Str×V))
 |bz (x:ag)
 |xd (fs:List (Str×V))
 |GK (f x:ag)
 |kO (lo hi:Int)
 |bu (o:Obj) (u:HO)
 |t4 (ps:Array au)
 |ext (φ:Heap->Prop)
abbrev Hp:=ag->Option HO
def aa(H:Hp)(a:ag)(o:HO):Hp:=λb=>if b=a then some o else H b
def ao:aa H a o a=some o:=by unfold aa;rw[if_pos rfl]
def aw(h:b≠a):aa H a o b=H b:=by unfold aa;rw[if_neg h]
def qB:aa (aa H a o) a u=aa H a u:=by
 funext b;unfold aa;split<;>rfl
def bx{H:Hp}(h:H a=some o)(h':H b=some u)(d:o≠u):a≠b:=by
 lia
def aF{H:Hp}(h:H a=some o)(h':H b=none):a≠b:=by
 lia
section
variable(P:bj)(w:a_)
def dN(H:Hp)(h:Heap)(a:ag):HO->Prop
 |.af xs=>xs.length<=bh/\ ∃its n,bd xs its/\h.get? a=some {cls:=.type "list",data:=.seq its.toArray n}
 |.aE xs=>xs.length<=bh/\ ∃its:List au,bd xs its/\IsTup h a its.toArray
 |.dK kvs=>kvs.length<=bh/\(a==i0)=false/\ ∃vs,KV kvs vs/\h.DictOf (fC P w) a vs
 |.dT kvs=>kvs.length<=bh/\(a==i0)=false/\ ∃xs:List (List bR×ag×au),
   qu (λp q=>p.1=q.1/\H q.2.1=some (.aE (p.1.map kV))/\bJ p.2 q.2.2) kvs xs/\∃o es ep,h.get? a=some o/\o.ExactDict/\o.data=.dict es ep/\es.toList=xs.map (Q8 (ve (fC P w)))/\(xs.map (·.1)).Nodup
 |.set S n=>h.SetOf (n_ P w) a S n
 |.aB C dx fs=>H dx=some (.bz a)/\fs.length<=1000/\dx≠a/\h.get? a=some (xk C dx)/\∃mA,h.Ns1 dx mA/\(∀f,jq (fs.lookup f) (mA f))/\abT mA (fs.map (·.1))
 |.bz _=> ∃o,h.get? a=some o
 |.xd fs=> ∃mA,h.Ns1 a mA/\ ∀f,jq (fs.lookup f) (mA f)
 |.kO lo hi=> ∃t u v,h.get? a=some {cls:=.type "range",data:=.fields #[.int lo t,.int hi u,.int 1 v]}
 |.bu o u=>h.get? a=some o/\dN H h a u
 |.t4 ps=>h.get? a=some {cls:=.none,data:=.fields ps}
 |.GK f x=>h.get? a=some (PySem.W.methodObj (.ref f) (.ref x))
 |.ext φ=>φ h/\(∃o,h.get? a=some o)/\ ∀h1 h2:Heap,φ h1->(∀o,h1.get? a=some o->h2.get? a=some o)->φ h2
def d_(H:Hp)(h:Heap):Prop:= ∀a o,H a=some o->dN P w H h a o
end
section
variable{P:bj}{w:a_}{H H':Hp}{h h':Heap}{a:ag}{o:HO}
def dN.lt(x:dN P w H h a o):a<h.objs.size:=by
 cases o with
 |af xs=>obtain⟨_,_,_,_,e⟩:=x;exact bO e
 |aE xs=>obtain⟨_,_,_,p⟩:=x;exact p.lt
 |dK kvs=>obtain⟨_,_,_,_,o,_,_,e,_⟩:=x;exact bO e
 |dT kvs=>obtain⟨_,_,_,_,o,_,_,e,_⟩:=x;exact bO e
 |set S n=>obtain⟨o,_,_,_,e,_⟩:=x;exact bO e
 |aB C dx fs=>obtain⟨_,_,_,e,_⟩:=x;exact bO e
 |bz y=>obtain⟨_,e⟩:=x;exact bO e
 |xd fs=>obtain⟨_,⟨_,_,_,e,_⟩,_⟩:=x;exact bO e
 |kO lo hi=>obtain⟨_,_,_,e⟩:=x;exact bO e
 |bu ob u=>obtain⟨e,_⟩:=x;exact bO e
 |t4 ps=>exact bO (x)
 |GK f y=>exact bO (x)
 |ext φ=>obtain⟨_,⟨_,e⟩,_⟩:=x;exact bO e
theorem Paired.Lo{α β:Type}{F G:α->β->Prop}: ∀{vy:List α}{vz:List β},qu F vy vz->(∀a b,F a b->G a b)->qu G vy vz
 |_,_,.nil,_=>.nil
 |_,_,.cons r t,f=>.cons (f _ _ r) (Paired.Lo t f)
def dN.fi(x:dN P w H h a o)(k: ∀b u,(b=a\/H b=some (.bz a))->h.get? b=some u->h'.get? b=some u)
  (ho: ∀b,H b=some (.bz a)->H' b=some (.bz a))(ht: ∀b xs,H b=some (.aE xs)->H' b=some (.aE xs)):dN P w H' h' a o:=by
 induction o with
 |af xs=>obtain⟨z,its,n,r,e⟩:=x;exact⟨z,its,n,r,k _ _ (.inl rfl) e⟩
 |aE xs=>obtain⟨z,its,r,ob,e,c⟩:=x;exact⟨z,its,r,ob,k _ _ (.inl rfl) e,c⟩
 |dK kvs=>obtain⟨z,y,vs,r,ob,es,ep,e,c⟩:=x;exact⟨z,y,vs,r,ob,es,ep,k _ _ (.inl rfl) e,c⟩
 |dT kvs=>
  obtain⟨z,y,xs,r,ob,es,ep,e,c⟩:=x;exact⟨z,y,xs,Paired.Lo r λp q z=>⟨z.1,ht _ _ z.2.1,z.2.2⟩,ob,es,ep,k _ _ (.inl rfl) e,c⟩
 |set S n=>obtain⟨ob,es,ep,t,e,c⟩:=x;exact⟨ob,es,ep,t,k _ _ (.inl rfl) e,c⟩
 |aB C dx fs=>
  obtain⟨d,z,ne,e,mA,⟨od,es,ep,e2,c⟩,r⟩:=x;exact⟨ho _ d,z,ne,k _ _ (.inl rfl) e,mA,⟨od,es,ep,k _ _ (.inr d) e2,c⟩,r⟩
 |bz y=>obtain⟨ob,e⟩:=x;exact⟨ob,k _ _ (.inl rfl) e⟩
 |xd fs=>obtain⟨mA,⟨od,es,ep,e,c⟩,r⟩:=x;exact⟨mA,⟨od,es,ep,k _ _ (.inl rfl) e,c⟩,r⟩
 |kO lo hi=>obtain⟨t,u,v,e⟩:=x;exact⟨t,u,v,k _ _ (.inl rfl) e⟩
 |bu ob u ih=>obtain⟨e,q⟩:=x;exact⟨k _ _ (.inl rfl) e,ih q⟩
 |t4 ps=>
  have e:=x;exact k a _ (.inl rfl) e
 |GK f y=>
  have e:=x;exact k a _ (.inl rfl) e
 |ext φ=>obtain⟨p,⟨o,e⟩,st⟩:=x;exact⟨st _ _ p λo q=>k _ _ (.inl rfl) q,⟨o,k _ _ (.inl rfl) e⟩,st⟩
def d_.lt(x:d_ P w H h)(e:H a=some o):a<h.objs.size:=(x a o e).lt
def d_.fresh(x:d_ P w H h)(e:h.objs.size<=a):H a=none:=by
 cases q:H a with
 |none=>rfl
 |some u=>exact absurd (iC (x.lt q) e) (xp _)
def d_.dX(x:d_ P w H h)(k: ∀b u,h.get? b=some u->h'.get? b=some u):d_ P w H h':=λa o e=>
 (x a o e).fi (λb u _ q=>k b u q) (λ_ q=>q) λ_ _ q=>q
def d_.laid(x:d_ P w H h)(k: ∀b u,h.get? b=some u->h'.get? b=some u)(hp:h.objs.size<=a)(new:dN P w (aa H a o) h' a o):d_ P w (aa H a o) h':=λb u e=>by
 have hn:=x.fresh hp;by_cases hb:b=a
 ·subst hb;rw[ao]at e;cases e;exact new
 ·rw[aw hb]at e;exact(x b u e).fi (λc v _ q=>k c v q) (λc q=>by rw[aw (aF q hn)];exact q) λc xs q=>by rw[aw (aF q hn)];exact q
end
def Rd(H:Hp)(a:ag)(u:HO):Prop:=H a=some u\/ ∃o,H a=some (.bu o u)
def Rd.ok(r:Rd H a u)(x:d_ P w H h):dN P w H h a u:=by
 rcases r with r|⟨o,r⟩
 ·exact x a u r
 ·obtain⟨_,q⟩:=x a _ r;exact q
def r8:Option HO->Prop
 |some (.af _)=>True
 |some (.dK _)=>True
 |some (.dT _)=>True
 |some (.set _ _)=>True
 |some (.aB _ _ _)=>True
 |some (.ext _)=>True
 |_=>False
section
variable{P:bj}{w:a_}{H:Hp}{h h':Heap}{x e:ag}{o':HO}
def d_.qC(ok:d_ P w H h)(mu:r8 (H x))(he:e=x\/H e=some (.bz x))(k: ∀b u,b≠e->h.get? b=some u->h'.get? b=some u)(A0: ∃u,h'.get? e=some u)
  (new:dN P w (aa H x o') h' x o'):d_ P w (aa H x o') h':=λb u q=>by
 have ad0: ∀c y,H c=some (.bz y)->c≠x:=λc y r z=>by subst z;rw[r]at mu;exact mu
 have ad1: ∀c xs,H c=some (.aE xs)->c≠x:=λc xs r z=>by subst z;rw[r]at mu;exact mu
 by_cases hb:b=x
 ·subst hb;rw[ao]at q;cases q;exact new
 ·rw[aw hb]at q;by_cases hbe:b=e
  ·have q':H b=some (.bz x):=by
    lia
   rw[q]at q';cases q';obtain⟨v,hv⟩:=A0;exact⟨v,by rw[hbe];exact hv⟩
  ·refine(ok b u q).fi (λc v hc r=>k c v ?_ r) (λc r=>by rw[aw (ad0 c b r)];exact r) λc xs r=>by rw[aw (ad1 c xs r)];exact r
   fin2
end
structure Un(fs ex:bp)(H H':Hp)(h h':Heap):Prop where
 keep: ∀b o,h.get? b=some o->H b=none->b∉fs->b∉ex->h'.get? b=some o
 slot: ∀b o,h.get? b=some o->H b=none->b∈fs->b∉ex-> ∃sl,h'.get? b=some {o with slots:=sl}
 free: ∀b o,h.get? b=some o->H b=none->b∉ex->H' b=none
 there: ∀b o,h.get? b=some o->b∉ex-> ∃o',h'.get? b=some o'
 r9: ∀b xs,H b=some (.aE xs)->H' b=some (.aE xs)
 pI: ∀b o u,H b=some (.bu o u)->H' b=some (.bu o u)
 t5: ∀b ps,H b=some (.t4 ps)-> ∃more,H' b=some (.t4 (ps++more))
section
variable{fs fs' ex t6:bp}{H H1 H2:Hp}{h h1 h2 h':Heap}{a x e:ag}{o:HO}
def Un.any(u:Un fs ex H H1 h h1)(q:h.get? b=some ob)(n:H b=none)(hx:b∉ex): ∃sl,h1.get? b=some {ob with slots:=sl}:=by
 by_cases hb:b∈fs
 ·exact u.slot b ob q n hb hx
 ·exact⟨ob.slots,u.keep b ob q n hb hx⟩
def Un.dX(k: ∀b u,h.get? b=some u->h'.get? b=some u):Un fs ex H H h h':=
 ⟨λb ob q _ _ _=>k b ob q,λb ob q _ _ _=>⟨ob.slots,k b ob q⟩,λ_ _ _ n _=>n,λb ob q _=>⟨ob,k b ob q⟩,λ_ _ q=>q,λ_ _ _ q=>q,λ_ ps q=>⟨#[],by rw[q];simp⟩⟩
def Un.refl:Un fs ex H H h h:=Un.dX λ_ _ q=>q
def Un.laid(k: ∀b u,h.get? b=some u->h'.get? b=some u)(hp:h.objs.size<=a)(hn:H a=none):Un fs ex H (aa H a o) h h' where
 keep:=λb u q _ _ _=>k b u q;slot:=λb u q _ _ _=>⟨u.slots,k b u q⟩
 free:=λb u q n _=>by rw[aw (d7 (iC (bO q) hp))];exact n
 there:=λb u q _=>⟨u,k b u q⟩
 r9:=λb xs q=>by rw[aw (aF q hn)];exact q
 pI:=λb u xs q=>by rw[aw (aF q hn)];exact q
 t5:=λb ps q=>⟨#[],by rw[aw (aF q hn),q];simp⟩
def Un.qC(mu:r8 (H x))(he:e=x\/H e=some (.bz x))(k: ∀b u,b≠e->h.get? b=some u->h'.get? b=some u)(A0: ∃u,h'.get? e=some u):Un fs ex H (aa H x o) h h':=by
 have hx: ∀b,H b=none->b≠x:=λb n z=>by subst z;rw[n]at mu;exact mu
 have hb: ∀b,H b=none->b≠e:=λb n z=>by
  lk
 have hm: ∀b u,H b=some u->¬r8 (some u)->b≠x:=λb u q nm z=>by lk
 refine⟨λb u q n _ _=>k b u (hb b n) q,λb u q n _ _=>⟨u.slots,k b u (hb b n) q⟩,λb u q n _=>by rw[aw (hx b n)];exact n,λb u q _=>?_,
  λb xs q=>by rw[aw (hm b _ q λz=>z)];exact q,λb u xs q=>by rw[aw (hm b _ q λz=>z)];exact q,λb ps q=>⟨#[],by rw[aw (hm b _ q λz=>z),q];simp⟩⟩
 fin2
end
noncomputable def A1(h:Heap)(H:Hp):bp:=(aU h.objs.size).filter λa=>(H a).isSome
def t7(h:Heap)(H:Hp):Heap:=PySem.W.hideAll h (A1 h H)
def ad2(h:Heap)(H:Hp):(t7 h H).objs.size=h.objs.size:=PySem.W.hideAll_size _ _
def ad3(e:h.get? b=some o)(n:H b=none):(t7 h H).get? b=some o:=
 PySem.W.hideAll_get _ e λhm=>by
  have q:=(tG.mp hm).2;rw[n]at q;simp at q
def ad4(e:(t7 h H).get? b=some o):h.get? b=some o/\H b=none:=by
 have e':=PySem.W.of_hideAll (A1 h H) e;exists e'
 cases q:H b with
 |none=>rfl
 |some x=>
  have hm:b∈A1 h H:=tG.mpr ⟨lF.mpr (bO e'),by simp[q]⟩;have z:(t7 h H).get? b=none:=PySem.W.hideAll_none (A1 h H) hm;rw[z]at e;cases e
noncomputable def pJ(g h:Heap)(L:ag):List (ag×Obj):=(aU h.objs.size).filterMap λa=>if a=L\/(g.get? a).isSome=true then none else(h.get? a).map λo=>(a,o)
def Lq(h1:a≠L)(h2:g.get? a=none)(h3:h.get? a=some o):(a,o)∈pJ g h L:=
 Qx.mpr ⟨a,lF.mpr (bO h3),by simp[h1,h2,h3]⟩
def ad5(hp:p∈pJ g h L):p.1≠L/\g.get? p.1=none/\h.get? p.1=some p.2:=by
 obtain⟨b,_,e⟩:=Qx.mp hp;split at e
 ·cases e
 ·rename_i hn
  cases q:h.get? b with
  |none=>rw[q]at e;simp at e
  |some u=>
   rw[q]at e;simp only[J9,aus]at e;subst e;refine⟨λz=>hn (.inl z),?_,q⟩
   cases r:g.get? b with
   |none=>rfl
   |some v=>exact(hn (.inr (by simp[r]))).elim
def GL{g h:Heap}{L:ag}:News g L h (pJ g h L):=λp hp=>let⟨a,b,c⟩:=ad5 hp;⟨c,a,b⟩
structure Mod(K:aP)(mg:Str->Option au)(base:Heap):Prop where
 A2:K.In base
 r_:base.Ns o9 mg
 xU: ∃mb,base.Ns acg mb/\ ∀x:Str,x≠"__name__" ->mb x=Ak x
 nolimit:base.NoLimit
structure Cx where
 prog:bj
 w:a_
 K:aP
 mg:Str->Option au
 base:Heap
 A:eJ
 N:List Str
 i6:aR
 vA:Hp
 ai:Env
 aY:List Env
 jR:List Env
 ex:bp
 fn:Str->Bool
 jS:Bool
 pn:List (ag×Obj)
 xe:au->aR->Prop
noncomputable def pK(l:List Env):bp:=l.filterMap (·.frame)
abbrev Cx.fs(X:Cx):bp:=pK X.aY
def A3(sc:Scope)(x:Str):Prop:=sc.names.lookup x=some .local\/sc.names.lookup x=some .cell\/sc.names.lookup x=some .free
def A4(sc:Scope)(x:Str):Prop:=sc.names.lookup x=some .local\/sc.names.lookup x=some .cell
def ad6(ai:Env)(h:Heap)(m:Str->Option au)(x:Str)(u:au):Prop:=
 (ai.kindOf x=some .local/\m x=some u)\/((ai.kindOf x=some .cell\/ai.kindOf x=some .free)/\ ∃c,ai.cells.lookup x=some c/\h.IsCell c (some u))
structure Cx.Ok(X:Cx):Prop where
 jr:Mod X.K X.mg X.base
 kind:X.ai.scope.kind=.function
 r_:X.ai.globals=o9
 xU:X.ai.builtins=acg
 above:X.i6.heap.objs.size<=X.ai.locals
 inj: ∀x y c,X.ai.cells.lookup x=some c->X.ai.cells.lookup y=some c->x=y
 has: ∀x,(X.ai.kindOf x=some .cell\/X.ai.kindOf x=some .free)-> ∃c,X.ai.cells.lookup x=some c
 A5: ∀x c,X.fn x=true->X.ai.cells.lookup x=some c->X.i6.heap.objs.size<=c
 hd:X.jS=true->X.A.handled=none
 frames:X.A.frames=some X.jR
 GM:X.jR=X.aY\/(X.jR=X.ai::X.aY/\X.ai.frame=some X.ai.locals)
 GN: ∀b∈X.ex,b≠X.ai.locals/\ ∀x c,X.ai.cells.lookup x=some c->c≠b
 bs: ∀b o,X.base.get? b=some o->X.i6.heap.get? b=some o/\X.vA b=none
 qD:X.base.objs.size<=X.i6.heap.objs.size
 A6: ∀b o,X.base.get? b=some o->b∉X.ex
 A7: ∀b∈X.ex,b∉X.fs
 oo:X.i6.heap.FunFrames X.base X.aY
 vB: ∀b∈X.fs,X.vA b=none
structure aq(X:Cx)(ae:List (ag×Obj))(σ:List (Option V))(H:Hp)(s:aR):Prop where
 ok:X.Ok
 os:s.os=X.i6.os
 gV:Ar s.gens
 base:Un X.fs X.ex X.vA H X.i6.heap s.heap
 jt: ∃m,s.heap.Ns X.ai.locals m/\ ∀(i:Nat)(x:Str)(v:V),X.N[i]?=some x->σ[i]?=some (some v)->A3 X.ai.scope x-> ∃u,bJ v u/\ad6 X.ai s.heap m x u
 cell: ∀x c,X.ai.cells.lookup x=some c-> ∃v,s.heap.IsCell c v
 free:H X.ai.locals=none
 l_: ∀x c,X.ai.cells.lookup x=some c->H c=none
 lK: ∀p∈X.pn++ae,s.heap.get? p.1=some p.2/\H p.1=none/\p.1≠X.ai.locals/\p.1∉X.fs/\ ∀v,p.2.data≠.cell v
 aG:d_ X.prog X.w H s.heap
 len:σ.length=X.N.length
section
variable{X:Cx}{ae:List (ag×Obj)}{σ:List (Option V)}{H H':Hp}{s:aR}{h':Heap}
def Cx.Ok.ad7(ok:X.Ok)(e:X.base.get? b=some o):b∉X.fs:=λhb=>by
 have:=(ok.oo.mem hb).1;rw[e]at this;cases this
def aq.bs(I:aq X ae σ H s): ∀b o,X.base.get? b=some o->s.heap.get? b=some o/\H b=none:=λb o e=>
 ⟨I.base.keep b o (I.ok.bs b o e).1 (I.ok.bs b o e).2 (I.ok.ad7 e) (I.ok.A6 b o e),I.base.free b o (I.ok.bs b o e).1 (I.ok.bs b o e).2 (I.ok.A6 b o e)⟩
def aq.bk(I:aq X ae σ H s): ∀b o,X.base.get? b=some o->s.heap.get? b=some o:=λb o e=>(I.bs b o e).1
def aq.jr(I:aq X ae σ H s):Mod X.K X.mg X.base:=I.ok.jr
def aq.kZ(I:aq X ae σ H s):X.K.In s.heap:=I.ok.jr.A2.keeps I.bk
def aq.fr(I:aq X ae σ H s): ∃m,Fr X.base X.ai.locals s.heap m:=
 let⟨m,hn,_⟩:=I.jt
 ⟨m,hn,I.bk,gn I.ok.qD I.ok.above⟩
def aq.lt(I:aq X ae σ H s):X.ai.locals<s.heap.objs.size:=let⟨_,hn,_⟩:=I.jt;hn.lt
def aq.sz(I:aq X ae σ H s):X.i6.heap.objs.size<=s.heap.objs.size:=gn I.ok.above (lY I.lt)
def aq.ad8(I:aq X ae σ H s){a:ag}(h:s.heap.objs.size<=a):a∉X.fs:=λhb=>by
 obtain⟨_,o,ho,_⟩:=I.ok.oo.mem hb;exact absurd (iC (bO ho) (gn I.sz h)) (xp _)
def aq.vC(I:aq X ae σ H s): ∀x c,X.ai.cells.lookup x=some c->c≠X.ai.locals:=λx c e z=>by
 obtain⟨v,o,ho,hd⟩:=I.cell x c e;obtain⟨m,⟨o',es,ep,ju,xV,_⟩,_⟩:=I.jt;lk
def aq.oo(I:aq X ae σ H s):s.heap.FunFrames X.base X.aY:=by
 have all: ∀l,(∀b∈pK l,b∈X.fs)->X.i6.heap.FunFrames X.base l->s.heap.FunFrames X.base l:=by
  intro l;induction l with
  |nil=>intro _ _;trivial
  |cons ai r ih=>
   intro hs hl;obtain⟨hk,⟨L,o,hf,hn,ho,hd⟩,hr⟩:=hl;have hL:=hs L (by unfold pK;lk);obtain⟨sl,e⟩:=I.base.slot L o ho (I.ok.vB L hL) hL λz=>I.ok.A7 L z hL;exact⟨hk,⟨L,_,hf,hn,e,hd⟩,ih (λb hb=>hs b (by unfold pK;rw[abp,hf];exact e5 _ hb)) hr⟩
 exact all X.aY (λ_ hb=>hb) I.ok.oo
def aq.jR(I:aq X ae σ H s):s.heap.FunFrames X.base X.jR:=by
 rcases I.ok.GM with e|⟨e,hf⟩
 ·rw[e];exact I.oo
 ·rw[e];obtain⟨m,hn,_⟩:=I.jt;refine .cons (by rw[I.ok.kind];decide) hf hn ?_ I.oo;exact Heap.get?_none_of_le (gn I.ok.qD I.ok.above)
def aq.Lr(I:aq X ae σ H s): ∀b∈pK X.jR,b∈X.ai.locals::X.fs:=λb hb=>by
 rcases I.ok.GM with e|⟨e,hf⟩
 ·lk
 ·rw[e]at hb;unfold pK at hb;rw[abp,hf]at hb;exact hb
def aq.SV(I:aq X ae σ H s): ∀b∈pK X.jR,H b=none:=λb hb=>by
 rcases cO.mp (I.Lr b hb)with e|hb
 ·rw[e];exact I.free
 ·obtain⟨_,o,ho,_⟩:=I.ok.oo.mem hb;exact I.base.free b o ho (I.ok.vB b hb) λz=>I.ok.A7 b z hb
def aq.step{g':Array acq}{t':Nat}{d':Drawn}{ch:bp}(I:aq X ae σ H s)
  (sd: ∀b∈ch,(b∈X.ex\/X.i6.heap.objs.size<=b)/\b≠X.ai.locals/\(∀x c,X.ai.cells.lookup x=some c->c≠b)/\ ∀p∈X.pn++ae,p.1≠b)
  (keep: ∀b o,b≠X.ai.locals->b∉X.fs->b∉ch->s.heap.get? b=some o->H b=none->h'.get? b=some o)
  (slot: ∀b o,b≠X.ai.locals->b∈X.fs->b∉ch->s.heap.get? b=some o->H b=none-> ∃sl,h'.get? b=some {o with slots:=sl})(free: ∀b o,b∉ch->s.heap.get? b=some o->H b=none->H' b=none)
  (there: ∀b o,b∉ch->s.heap.get? b=some o-> ∃o',h'.get? b=some o')
  (r9: ∀b xs,H b=some (.aE xs)->H' b=some (.aE xs))(pI: ∀b o u,H b=some (.bu o u)->H' b=some (.bu o u))(t5: ∀b ps,H b=some (.t4 ps)-> ∃more,H' b=some (.t4 (ps++more)))
  (ns: ∀m,s.heap.Ns X.ai.locals m->h'.Ns X.ai.locals m)(aG:d_ X.prog X.w H' h')(hg:Ar g'):
  aq X ae σ H' {s with heap:=h',gens:=g',drawn:=d',toks:=t'}:=by
 have Lu: ∀b o,X.i6.heap.get? b=some o->b≠X.ai.locals:=λb o e=>d7 (iC (bO e) I.ok.above)
 have Lv: ∀b o,X.i6.heap.get? b=some o->b∉X.ex->b∉ch:=λb o e hx hb=>by
  rcases(sd b hb).1 with z|z
  ·exact hx z
  ·exact absurd (iC (bO e) z) (xp _)
 have SW: ∀x c,X.ai.cells.lookup x=some c-> ∀v,s.heap.IsCell c v->h'.IsCell c v:=λx c e v⟨o,ho,hd⟩=>by
  have SX:=λz=>(sd c z).2.2.1 x c e rfl
  by_cases hc:c∈X.fs
  ·obtain⟨sl,q⟩:=slot c o (I.vC x c e) hc SX ho (I.l_ x c e)
   exact⟨_,q,hd⟩
  ·exact⟨o,keep c o (I.vC x c e) hc SX ho (I.l_ x c e),hd⟩
 refine⟨I.ok,I.os,hg,⟨λb o e n hb hx=>?_,λb o e n hb hx=>?_,λb o e n hx=>?_,λb o e hx=>?_,λb xs e=>r9 b xs (I.base.r9 b xs e),λb o xs e=>pI b o xs (I.base.pI b o xs e),λb ps e=>?_⟩,?_,λx c e=>?_,?_,λx c e=>?_,λp hp=>?_,aG,I.len⟩
 ·exact keep b o (Lu b o e) hb (Lv b o e hx) (I.base.keep b o e n hb hx) (I.base.free b o e n hx)
 ·obtain⟨sl,e1⟩:=I.base.slot b o e n hb hx
  obtain⟨sl',e2⟩:=slot b _ (Lu b o e) hb (Lv b o e hx) e1 (I.base.free b o e n hx)
  exact⟨sl',e2⟩
 ·obtain⟨o',e1⟩:=I.base.there b o e hx
  exact free b o' (Lv b o e hx) e1 (I.base.free b o e n hx)
 ·obtain⟨o',e1⟩:=I.base.there b o e hx
  lk
 ·obtain⟨m1,e1⟩:=I.base.t5 b ps e
  fin2
 ·obtain⟨m,hn,hl⟩:=I.jt
  refine⟨m,ns m hn,λi x v e1 e2 e3=>?_⟩
  obtain⟨u,r,l⟩:=hl i x v e1 e2 e3
  exists u,r
  rcases l with l|⟨k,c,e,z⟩
  ·exact .inl l
  ·exact .inr ⟨k,c,e,SW x c e _ z⟩
 ·obtain⟨v,z⟩:=I.cell x c e
  exact⟨v,SW x c e v z⟩
 ·obtain⟨m,⟨o,_,_,ho,_⟩,_⟩:=I.jt
  exact free _ o (λz=>(sd _ z).2.1 rfl) ho I.free
 ·obtain⟨v,o,ho,hd⟩:=I.cell x c e
  exact free c o (λz=>(sd c z).2.2.1 x c e rfl) ho (I.l_ x c e)
 ·obtain⟨e,n,ne,nf,d⟩:=I.lK p hp
  have SX:p.1∉ch:=fun z=>(sd p.1 z).2.2.2 p hp rfl
  exact⟨keep p.1 p.2 ne nf SX e n,free p.1 p.2 SX e n,ne,nf,d⟩
def aq.un{t':Nat}(I:aq X ae σ H s)(u:Un X.fs [] H H' s.heap h')(aG:d_ X.prog X.w H' h'):aq X ae σ H' {s with heap:=h',toks:=t'}:=by
 obtain⟨m,⟨o,es,ep,ho,r⟩,_⟩:=id I.jt;obtain⟨sl,hL⟩:=u.any ho I.free (by simp);exact I.step (g':=s.gens) (d':=s.drawn) (ch:=[]) (λ_ z=>nomatch z) (λb o _ hb _ e n=>u.keep b o e n hb (by simp)) (λb o _ hb _ e n=>u.slot b o e n hb (by simp)) (λb o _ e n=>u.free b o e n (by simp)) (λb o _ e=>u.there b o e (by simp)) u.r9 u.pI u.t5 (λm' hm=>by
  obtain⟨o',gX,mY,ju,r'⟩:=hm;rw[ho]at ju;cases ju;exact⟨_,gX,mY,hL,r'⟩) aG I.gV
def aq.call(I:aq X ae σ H s)(u:Un (pK X.jR) ch H H' s.heap h')(aG:d_ X.prog X.w H' h')(hg:Ar g')
  (sd: ∀b∈ch,(b∈X.ex\/X.i6.heap.objs.size<=b)/\b≠X.ai.locals/\(∀x c,X.ai.cells.lookup x=some c->c≠b)/\ ∀p∈X.pn++ae,p.1≠b):
  aq X ae σ H' {s with heap:=h',gens:=g',drawn:=d',toks:=t'}:=by
 obtain⟨m,⟨o,es,ep,ho,r⟩,_⟩:=id I.jt;obtain⟨sl,hL⟩:=u.any ho I.free λz=>(sd _ z).2.1 rfl;exact I.step (ch:=ch) sd (λb o hL hb hc e n=>u.keep b o e n (λz=>(cO.mp (I.Lr b z)).elim hL hb) hc) (λb o _ _ hc e n=>u.any e n hc) (λb o hc e n=>u.free b o e n hc) (λb o hc e=>u.there b o e hc) u.r9 u.pI u.t5 (λm' hm=>by
  obtain⟨o',gX,mY,ju,r'⟩:=hm;rw[ho]at ju;cases ju;exact⟨_,gX,mY,hL,r'⟩) aG hg
def aq.fg(I:aq X ae σ H s)(k: ∀b o,b≠it->s.heap.get? b=some o->h'.get? b=some o)(hn:H it=none)(hL:it≠X.ai.locals)
  (h1:it∈X.ex\/X.i6.heap.objs.size<=it)(h2: ∀x c,X.ai.cells.lookup x=some c->c≠it)(h3: ∀p∈X.pn++ae,p.1≠it):aq X ae σ H {s with heap:=h',toks:=t'}:=by
 have SY: ∀b u,H b=some u->b≠it:=λb u e z=>by lk
 refine I.step (g':=s.gens) (d':=s.drawn) (ch:=[it]) (λb hb=>?_) (λb o _ _ hc e _=>k b o (λz=>hc (by simp[z])) e) (λb o _ _ hc e _=>⟨o.slots,k b o (λz=>hc (by simp[z])) e⟩) (λ_ _ _ _ n=>n)
  (λb o hc e=>⟨o,k b o (λz=>hc (by simp[z])) e⟩) (λ_ _ e=>e) (λ_ _ _ e=>e) (λb ps e=>⟨#[],by rw[e];simp⟩) (λm hm=>?_) (λb u e=>?_) I.gV
 ·have e:b=it:=by simpa using hb
  subst e
  exact⟨h1,hL,h2,h3⟩
 ·obtain⟨o,es,ep,ho,r⟩:=hm;exact⟨o,es,ep,k _ o (qr hL) ho,r⟩
 ·refine(I.aG b u e).fi (λc v hc q=>k c v ?_ q) (λ_ q=>q) λ_ _ q=>q;lia
def aq.f_(I:aq X ae σ H s)(t:Nat):aq X ae σ H {s with toks:=t}:=I.un (h':=s.heap) (t':=t) Un.refl I.aG
def aq.dX(I:aq X ae σ H s)(k: ∀b u,s.heap.get? b=some u->h'.get? b=some u):aq X ae σ H {s with heap:=h',toks:=t'}:=I.un (Un.dX k) (I.aG.dX k)
def aq.laid{a:ag}(I:aq X ae σ H s)(k: ∀b u,s.heap.get? b=some u->h'.get? b=some u)(hp:s.heap.objs.size<=a)(new:dN X.prog X.w (aa H a o) h' a o):
  aq X ae σ (aa H a o) {s with heap:=h',toks:=t'}:=I.un (Un.laid k hp (I.aG.fresh hp)) (I.aG.laid k hp new)
def aq.qC(I:aq X ae σ H s)(mu:r8 (H x))(he:e=x\/H e=some (.bz x))(k: ∀b u,b≠e->s.heap.get? b=some u->h'.get? b=some u)(A0: ∃u,h'.get? e=some u)
  (new:dN X.prog X.w (aa H x o) h' x o):aq X ae σ (aa H x o) {s with heap:=h',toks:=t'}:=I.un (Un.qC mu he k A0) (I.aG.qC mu he k A0 new)
def aq.Lw{aL:List (Option V)}(I:aq X ae σ H s)(hl:aL.length=σ.length)(w: ∀(i:Nat)v,aL[i]?=some (some v)->σ[i]?=some (some v)):aq X ae aL H s:=
 ⟨I.ok,I.os,I.gV,I.base,let⟨m,hn,sf⟩:=I.jt;⟨m,hn,λi x v e1 e2 e3=>sf i x v e1 (w i v e2) e3⟩,I.cell,I.free,I.l_,I.lK,I.aG,hl.trans I.len⟩
def aq.SZ(I:aq X ae σ H s)(h: ∀p∈ad9,s.heap.get? p.1=some p.2/\H p.1=none/\p.1≠X.ai.locals/\p.1∉X.fs/\ ∀v,p.2.data≠.cell v):aq X ad9 σ H s:=
 ⟨I.ok,I.os,I.gV,I.base,I.jt,I.cell,I.free,I.l_,λp hp=>(cN.mp hp).elim (λz=>I.lK p (jK _ z)) (h p),I.aG,I.len⟩
def Lx{N:List Str}(hN:N.Nodup){i j:Nat}(a:N[i]?=some x)(b:N[j]?=some x):i=j:=by
 obtain⟨h1,e1⟩:=gm.mp a;obtain⟨h2,e2⟩:=gm.mp b;exact(abC hN).mp (e1.trans e2.symm)
def S0(I:aq X ae σ H s)(hN:X.N.Nodup)(hi:X.N[i]?=some x)(hx:A4 X.ai.scope x)(r:bJ v u)
  (h: ∀s',aq X ae (σ.set i (some v)) H s'->(∃a,jM a s.heap s'.heap/\(a=X.ai.locals\/X.ai.cells.lookup x=some a))->Q () s')(hf:X.fn x=true\/X.ai.scope.names.lookup x=some .local:=by first|exact .inl rfl|exact .inr rfl|assumption):wpAny M A (acj X.ai x u) Q E s:=by
 obtain⟨m,hn,hl⟩:=id I.jt;have ad_:(X.ai.scope.kind==.class||(X.ai.scope.kind==.module&&X.ai.locals !=X.ai.globals))=false:=by rw[I.ok.kind];rfl
 have S4:i<σ.length:=by rw[I.len];fin2
 have vC:=I.vC;have S5: ∀{a:ag}{h':Heap},(∃o,s.heap.get? a=some o/\H a=none)->jM a s.heap h'->d_ X.prog X.w H h':=λ{a h'}ha hs b ob e=>by
  obtain⟨_,_,GO⟩:=ha;refine(I.aG b ob e).fi (λc w' hc q=>(hs.2 c ?_).trans q) (λ_ q=>q) λ_ _ q=>q;lia
 rcases hx with hk|hk
 ·refine wpAny_storeName_local hk hn (λh' eV hs=>?_) ad_;obtain⟨oL,_,_,hoL,_⟩:=id hn;refine h _ ⟨I.ok,I.os,I.gV,⟨λb o e n hb hx=>?_,λb o e n hb hx=>?_,I.base.free,λb o e hx=>?_,I.base.r9,I.base.pI,I.base.t5⟩,⟨_,eV,λj y v' e1 e2 e3=>?_⟩,λy c e=>?_,I.free,I.l_,λp hp=>?_,S5 ⟨oL,hoL,I.free⟩ hs,by simpa using I.len⟩ ⟨_,hs,.inl rfl⟩
  ·exact(hs.2 b (d7 (iC (bO e) I.ok.above))).trans (I.base.keep b o e n hb hx)
  ·obtain⟨sl,e1⟩:=I.base.slot b o e n hb hx;exact⟨sl,(hs.2 b (d7 (iC (bO e) I.ok.above))).trans e1⟩
  ·obtain⟨o',e1⟩:=I.base.there b o e hx;exact⟨o',(hs.2 b (d7 (iC (bO e) I.ok.above))).trans e1⟩
  ·by_cases hj:j=i
   ·subst hj;rw[hi]at e1;cases e1;rw[aqR S4]at e2
    cases e2;exact⟨u,r,.inl ⟨hk,by simp⟩⟩
   ·rw[abe (qr hj)]at e2;obtain⟨u',r',q⟩:=hl j y v' e1 e2 e3;exists u',r';rcases q with⟨k,e⟩|⟨k,c,e,z⟩
    ·refine .inl ⟨k,?_⟩;have:y≠x:=λe=>hj (Lx hN e1 (e▸hi));simp[this,e]
    ·exact .inr ⟨k,c,e,z.sameBut hs (vC y c e)⟩
  ·obtain⟨w',z⟩:=I.cell y c e;exact⟨w',z.sameBut hs (vC y c e)⟩
  ·obtain⟨e,n,ne,nf,d⟩:=I.lK p hp;exact⟨(hs.2 p.1 ne).trans e,n,ne,nf,d⟩
 ·have Ly:X.fn x=true:=by
   lk
  obtain⟨c,hc⟩:=I.ok.has x (.inl hk);obtain⟨w',z⟩:=I.cell x c hc;refine wpAny_storeName_cell I.ok.kind hk hc z (λh' fQ hs=>?_);obtain⟨oc,hoc,as5⟩:=id z;refine h {s with heap:=h'} ⟨I.ok,I.os,I.gV,⟨λb o e n hb hx=>?_,λb o e n hb hx=>?_,I.base.free,λb o e hx=>?_,I.base.r9,I.base.pI,I.base.t5⟩,⟨m,hn.sameBut hs (qr (vC x c hc)),λj y v' e1 e2 e3=>?_⟩,λy c' e=>?_,I.free,I.l_,λp hp=>?_,S5 ⟨oc,hoc,I.l_ x c hc⟩ hs,by simpa using I.len⟩ ⟨c,hs,.inr hc⟩
  ·exact(hs.2 b (d7 (iC (bO e) (I.ok.A5 x c Ly hc)))).trans (I.base.keep b o e n hb hx)
  ·obtain⟨sl,e1⟩:=I.base.slot b o e n hb hx;exact⟨sl,(hs.2 b (d7 (iC (bO e) (I.ok.A5 x c Ly hc)))).trans e1⟩
  ·obtain⟨o',e1⟩:=I.base.there b o e hx;exact⟨o',(hs.2 b (d7 (iC (bO e) (I.ok.A5 x c Ly hc)))).trans e1⟩
  ·by_cases hj:j=i
   ·subst hj;rw[hi]at e1;cases e1;rw[aqR S4]at e2
    cases e2;exact⟨u,r,.inr ⟨.inl hk,c,hc,fQ⟩⟩
   ·rw[abe (qr hj)]at e2;obtain⟨u',r',q⟩:=hl j y v' e1 e2 e3;exists u',r';rcases q with q|⟨k,c',e,z'⟩
    ·exact .inl q
    ·refine .inr ⟨k,c',e,z'.sameBut hs ?_⟩;rintro rfl;exact hj (Lx hN e1 (I.ok.inj _ _ _ e hc▸hi))
  ·by_cases AY:c'=c
   ·subst AY;exact⟨_,fQ⟩
   ·obtain⟨w2,z2⟩:=I.cell y c' e;exact⟨w2,z2.sameBut hs AY⟩
  ·obtain⟨e,n,ne,nf,d⟩:=I.lK p hp;refine⟨(hs.2 p.1 ?_).trans e,n,ne,nf,d⟩;fin2
def Lz(I:aq X ae σ H s)(hN:X.N.Nodup)(hi:X.N[i]?=some x)(hx:A4 X.ai.scope x)(r:bJ v u)
  (h: ∀s',aq X ae (σ.set i (some v)) H s'->Q () s')(hf:X.fn x=true\/X.ai.scope.names.lookup x=some .local:=by first|exact .inl rfl|exact .inr rfl|assumption):wpAny M A (acj X.ai x u) Q E s:=
 S0 I hN hi hx r (λs' I' _=>h s' I') hf
def aq.aea(I:aq X ae σ H s)(ho:s'.os=s.os)(u:Un (pK X.jR) ch H H' s.heap s'.heap)(aG:d_ X.prog X.w H' s'.heap)(hg:Ar s'.gens)
  (sd: ∀b∈ch,(b∈X.ex\/X.i6.heap.objs.size<=b)/\b≠X.ai.locals/\(∀x c,X.ai.cells.lookup x=some c->c≠b)/\ ∀p∈X.pn++ae,p.1≠b):aq X ae σ H' s':=by
 obtain⟨h',g',d',t',o'⟩:=s';have e:=ho;subst e;exact I.call (g':=g') (t':=t') (d':=d') u aG hg sd
end
abbrev XK:=au->Option ag->Hp->Prop
abbrev St:=List (Option V)
abbrev VK:=V->Hp->Prop
abbrev TE:=St->Hp->VK->Prop
abbrev TT:=St->Hp->(Bool->Hp->Prop)->Prop
abbrev TA:=St->Hp->(List V->Hp->Prop)->Prop
structure sg where
 nx:St->Hp->Prop
 rt:VK
 bk:St->Hp->Prop:=λ_ _=>False
 ct:St->Hp->Prop:=λ_ _=>False
abbrev TS:=sg->St->Hp->Prop
inductive EP(X:Cx)(ae:List (ag × Obj))(σ:St)(Q:VK)(u:au)(s':aR):Prop|mk:∀v H',aq X ae σ H' s'->bJ v u->Q v H'->EP X ae σ Q u s'
inductive TP(X:Cx)(ae:List (ag × Obj))(σ:St)(Q:Bool->Hp->Prop)(b:Bool)(s':aR):Prop|mk:∀H',aq X ae σ H' s'->Q b H'->TP X ae σ Q b s'
inductive AP(X:Cx)(ae:List (ag × Obj))(σ:St)(Q:List V->Hp->Prop)(us:List au)(s':aR):Prop|mk:∀vs H',aq X ae σ H' s'->bd vs us->Q vs H'->AP X ae σ Q us s'
def SP(X:Cx)(ae:List (ag×Obj))(D:sg)(f:Flow)(s':aR):Prop:=
 match f with
 |.next=> ∃aL H',aq X ae aL H' s'/\D.nx aL H'
 |.brk=> ∃aL H',aq X ae aL H' s'/\D.bk aL H'
 |.cont=> ∃aL H',aq X ae aL H' s'/\D.ct aL H'
 |.ret u=> ∃v aL H',aq X ae aL H' s'/\bJ v u/\D.rt v H'
def PE(X:Cx)(e:Expr)(t:TE):Prop:=
 ∀ae s(σ:St) H Q,aq X ae σ H s->t σ H Q->wpAny (model X.prog X.w) X.A (eval e X.ai) (EP X ae σ Q) X.xe s
def PT(X:Cx)(e:Expr)(t:TT):Prop:=
 ∀ae s(σ:St) H Q,aq X ae σ H s->t σ H Q->wpAny (model X.prog X.w) X.A (Kx e X.ai (eval e X.ai)) (TP X ae σ Q) X.xe s
def PW(X:Cx)(e:Expr)(t:TT):Prop:=
 ∀whole ae s(σ:St) H Q,aq X ae σ H s->t σ H Q->wpAny (model X.prog X.w) X.A (Kx e X.ai whole) (TP X ae σ Q) X.xe s
def PW.pt(h:PW X e t):PT X e t:=h _
def PA(X:Cx)(es:List Expr)(t:TA):Prop:=
 ∀pos ae s(σ:St) H Q,aq X ae σ H s->t σ H Q->wpAny (model X.prog X.w) X.A (acr (gp pos (bV es X.ai))) (AP X ae σ Q) X.xe s
def PS(X:Cx)(st:Stmt)(t:TS):Prop:=
 ∀ae s(σ:St) H D,aq X ae σ H s->t D σ H->wpAny (model X.prog X.w) X.A (exec st X.ai) (SP X ae D) X.xe s
def mZ(X:Cx)(st:List Stmt)(t:TS):Prop:=
 ∀ae s(σ:St) H D,aq X ae σ H s->t D σ H->wpAny (model X.prog X.w) X.A (execs st X.ai) (SP X ae D) X.xe s
def aQ{α:Type}{t:Sem α}{Q Q':α->aR->Prop}(h:wpAny M A t Q E s)(hQ: ∀a s,Q a s->Q' a s):wpAny M A t Q' E s:=mR h hQ λ_ _ x=>x
section
variable{X:Cx}
inductive S6(i:Nat)(σ:St)(H:Hp)(Q:VK):Prop|mk:∀v,σ[i]?=some (some v)->Q v H->S6 i σ H Q
def tC(v:V):TE:=λ_ H Q=>Q v H
def aeb{pos:Pos}(hN:X.N[i]?=some x)(hv:A3 X.ai.scope x)(hd:autoParam ((x==("__debug__" :Str))=false) zB._auto_1)(sh:autoParam ((x==("__classdict__" :Str))=false) zB._auto_1):PE X (.Name x pos) (S6 i):=by
 intro ae s σ H Q I h;obtain⟨v,e,h⟩:=h;obtain⟨m,hn,hl⟩:=I.jt;obtain⟨u,r,l⟩:=hl i x v hN e hv;have bM:EP X ae σ Q u s:=⟨v,H,I,r,h⟩
 rcases l with⟨hk,hm⟩|⟨hk,c,hc,GP⟩
 ·exact ace (arO I.ok.kind hk hn hm bM) hd
 ·rcases hk with hk|hk
  ·exact ace (arY I.ok.kind hk hc GP bM) hd
  ·exact ace (wpAny_loadName_free I.ok.kind hk hc GP bM sh) hd
def bm{i j pos}:PE X (.Constant (.int i) j pos) (tC (.int i)):=λ_ _ _ H _ I h=>wpAny_Constant_int ⟨.int i,H,I.f_ _,⟨_,rfl⟩,h⟩
def GQ{b j pos}:PE X (.Constant (.bool b) j pos) (tC (.bl b)):=λ_ _ _ H _ I h=>asZ ⟨.bl b,H,I,rfl,h⟩
def si{j pos}:PE X (.Constant .none j pos) (tC .aX):=λ_ _ _ H _ I h=>asY ⟨.aX,H,I,rfl,h⟩
def Gl(X:Cx)(x:Str):Prop:=X.ai.kindOf x=some .globalImplicit
def GR{σ:St}(I:aq X ae σ H s)(hg:Gl X x)(hm:X.mg x=some u)(h:Q u s)
  (hd:autoParam ((x==("__debug__" :Str))=false) zB._auto_1):wpAny (model X.prog X.w) X.A (eval (.Name x pos) X.ai) Q E s:=
 aqA I.ok.kind hg (Calls.loadGlobal_global (by rw[I.ok.r_];exact I.jr.r_.keeps I.bk) hm h) hd
def jv{E:au->aR->Prop}{σ:St}{pos:Pos}{Q:au->aR->Prop}(I:aq X ae σ H s)(hg:Gl X x)(hm:X.mg x=none)(hv:Ak x=some u)(h:Q u s)
  (hn:autoParam (x≠"__name__" ) zB._auto_1)(hd:autoParam ((x==("__debug__" :Str))=false) zB._auto_1):wpAny (model X.prog X.w) X.A (eval (.Name x pos) X.ai) Q E s:=by
 obtain⟨mb,h1,h2⟩:=I.jr.xU;exact aqA I.ok.kind hg (Calls.loadGlobal_builtin (by rw[I.ok.r_];exact I.jr.r_.keeps I.bk) hm (by rw[I.ok.xU];exact h1.keeps I.bk) ((h2 x hn).trans hv) h) hd
def S7(hg:Gl X x)(hm:X.mg x=some u)(r:bJ v u)(hd:autoParam ((x==("__debug__" :Str))=false) zB._auto_1):PE X (.Name x pos) (tC v):=
 λ_ _ _ H _ I h=>GR I hg hm ⟨v,H,I,r,h⟩ hd
variable{a b:Expr}{ta tb:TE}{pos:Pos}
def PC(X:Cx)(op:CmpOp)(a b:Expr)(t:TE):Prop:=
 ∀ae s(σ:St) H Q,aq X ae σ H s->t σ H Q->wpAny (model X.prog X.w) X.A (eval a X.ai) (λv c7=>wpAny (model X.prog X.w) X.A (eval b X.ai) (λu m_=>wpAny (model X.prog X.w) X.A (lH op v u) (EP X ae σ Q) X.xe m_) X.xe c7) X.xe s
def aec(b:Expr)(h:op≠.In)(h2:op≠.NotIn):Ah op b=false:=by
 have e1:(op==asT)=false:=by lk
 have e2:(op==asx)=false:=by cases op<;>first|rfl|exact absurd rfl h2
 cases b<;>simp[Ah,e1,e2]
def aed(ta:TE):TE:=fun σ H Q=>ta σ H λx H1=>Q (.bl (decide (x=.aX))) H1
def bJ.aee(r:bJ x v):(v==im)=decide (x=.aX):=by
 cases x with
 |aX=>cases r;rfl
 |bl _=>cases r;rfl
 |int _=>obtain⟨t,rfl⟩:=r;rfl
 |str _=>obtain⟨t,rfl⟩:=r;rfl
 |j9 _=>obtain⟨t,rfl⟩:=r;rfl
 |AZ _=>obtain⟨t,rfl⟩:=r;rfl
 |ref _=>cases r;rfl
 |ty _=>cases r;rfl
def qE{j ma}(ha:PE X a ta):PC X .Is a (.Constant .none j ma) (aed ta):=by
 intro ae s σ H Q I h;exact aQ (ha ae s σ H _ I h) λv s1⟨x,H1,I1,r1,q1⟩=>asY (is_none_gen ⟨.bl _,H1,I1,by rw[r1.aee];rfl,q1⟩)
inductive tBI(Q:Bool->Hp->Prop)(x:V)(H1:Hp):Prop|mk:∀c,x=.bl c->Q c H1->tBI Q x H1
def tB(t:TE):TT:=fun σ H Q=>t σ H (tBI Q)
def ng{op:CmpOp}{t:TE}(h:PC X op a b t)(h1:Ah op b=false:=by first|exact aec _ (by room) (by room)|rfl):PT X (.Compare a [op] [b] pos) (tB t):=by
 intro ae s σ H Q I hw;refine arE (aQ (h ae s σ H _ I hw) λv s1 h1=>aQ h1 λu s2 h2=>aQ h2 λc s3⟨x,H1,I1,r1,q1⟩=>?_) h1;obtain⟨d,rfl,q⟩:=q1
 cases r1;exact u5 ⟨H1,I1,q⟩
def A8(h:PE X e t)(he: ∀whole,Kx e X.ai whole=(do let v<-whole;Re e.pos;xy [v] (truthy v)):=by intro _;rfl):PT X e (tB t):=by
 intro ae s σ H Q I hw;refine isTrue_plain (aQ (h ae s σ H _ I hw) λv s1⟨x,H1,I1,r1,q1⟩=>?_) (he _);obtain⟨d,rfl,q⟩:=q1
 cases r1;exact u5 ⟨H1,I1,q⟩
variable{tA GS:TT}{aD:List Expr}
def aef(t u:TT):TT:=fun σ H Q=>t σ H λc H1=>if c=true then u σ H1 Q else Q false H1
def tOr(t u:TT):TT:=fun σ H Q=>t σ H λc H1=>if c=true then Q true H1 else u σ H1 Q
def aeg(t:TT):TT:=fun σ H Q=>t σ H λc H1=>Q (!c) H1
def LA(ha:PT X a tA):PW X (.BoolOp .And [a] pos) tA:=by
 intro wh ae s σ H Q I h;refine isTrue_and (aQ (ha ae s σ H Q I h) λc s1 e=>?_)
 cases c with
 |true=>exact isTrue_and_nil e
 |false=>exact e
def aeh(ha:PT X a tA):PW X (.BoolOp .Or [a] pos) tA:=by
 intro wh ae s σ H Q I h;refine isTrue_or (aQ (ha ae s σ H Q I h) λc s1 e=>?_)
 cases c with
 |false=>exact isTrue_or_nil e
 |true=>exact e
def GU(ha:PT X a tA)(hb:PW X (.BoolOp .And (b::aD) pos) GS):PW X (.BoolOp .And (a::b::aD) pos) (aef tA GS):=by
 intro wh ae s σ H Q I h;refine isTrue_and (aQ (ha ae s σ H _ I h) λc s1⟨H1,I1,q1⟩=>?_)
 cases c with
 |true=>exact hb wh ae s1 σ H1 Q I1 q1
 |false=>exact⟨H1,I1,q1⟩
def aei(ha:PT X a tA)(hb:PW X (.BoolOp .Or (b::aD) pos) GS):PW X (.BoolOp .Or (a::b::aD) pos) (tOr tA GS):=by
 intro wh ae s σ H Q I h;refine isTrue_or (aQ (ha ae s σ H _ I h) λc s1⟨H1,I1,q1⟩=>?_)
 cases c with
 |true=>exact⟨H1,I1,q1⟩
 |false=>exact hb wh ae s1 σ H1 Q I1 q1
def vD(ha:PT X a tA):PT X (.UnaryOp .Not a pos) (aeg tA):=by
 intro ae s σ H Q I h;exact isTrue_not (aQ (ha ae s σ H (λc H1=>Q (!c) H1) I h) λ_ _⟨H1,I1,q⟩=>⟨H1,I1,q⟩)
def S8(t:TT)(ta tb:TE):TE:=fun σ H Q=>t σ H λc H1=>if c=true then ta σ H1 Q else tb σ H1 Q
def aej{c:Expr}(hc:PT X c tA)(ha:PE X a ta)(hb:PE X b tb):PE X (.IfExp c a b pos) (S8 tA ta tb):=by
 intro ae s σ H Q I h;refine wpAny_IfExp (aQ (hc ae s σ H _ I h) λd s1⟨H1,I1,q1⟩=>?_)
 cases d with
 |true=>exact ha ae s1 σ H1 Q I1 q1
 |false=>exact hb ae s1 σ H1 Q I1 q1
end
def aJ(K:aP)(H:Hp)(a:ag)(xs:List V):Prop:=
 Rd H a (.af xs)\/∃o its n,K.lookup a=some o/\o.cls=.type "list" /\o.dict=none/\o.data=.seq its n/\its.size<=bh/\bd xs its.toList
def c8(K:aP)(H:Hp)(a:ag)(xs:List V):Prop:=
 Rd H a (.aE xs)\/∃o its n,K.lookup a=some o/\o.cls=.type "tuple" /\o.data=.seq its n/\its.size<=bh/\bd xs its.toList
noncomputable def aek:au->Option V
 |.none=>some .aX
 |.bool b=>some (.bl b)
 |.int i _=>some (.int i)
 |.str x _=>some (.str x)
 |.bytes b _=>some (.j9 b)
 |.float b _=>some (.AZ b)
 |.ref a=>some (.ref a)
 |.type n=>some (.ty n)
 |_=>none
def bJ.abs(r:bJ x u):aek u=some x:=by
 cases x with
 |aX=>cases r;rfl
 |bl _=>cases r;rfl
 |int _=>obtain⟨t,rfl⟩:=r;rfl
 |str _=>obtain⟨t,rfl⟩:=r;rfl
 |j9 _=>obtain⟨t,rfl⟩:=r;rfl
 |AZ _=>obtain⟨t,rfl⟩:=r;rfl
 |ref _=>cases r;rfl
 |ty _=>cases r;rfl
def bJ.inj(r:bJ x u)(q:bJ y u):x=y:=bv (r.abs.symm.trans q.abs)
theorem bd.inj: ∀{xs ys:List V}{us:List au},bd xs us->bd ys us->xs=ys
 |_,_,_,.nil,.nil=>rfl
 |_,_,_,.cons r t,.cons r' t'=>by rw[r.inj r',bd.inj t t']
section
variable{X:Cx}{ae:List (ag×Obj)}{σ:St}{H:Hp}{s:aR}{a:ag}{xs ys:List V}
def aJ.of{K:aP}(h:H a=some (.af xs)):aJ K H a xs:=.inl (.inl h)
def c8.of{K:aP}(h:H a=some (.aE xs)):c8 K H a xs:=.inl (.inl h)
def aq.list(I:aq X ae σ H s)(h:aJ X.K H a xs): ∃its:List au,bd xs its/\PlainL s.heap a its.toArray/\xs.length<=bh:=by
 rcases h with h|⟨o,its,n,hk,hc,hd,hs,hz,r⟩
 ·obtain⟨z,its,n,r,e⟩:=h.ok I.aG;exact⟨its,r,⟨_,n,e,rfl,rfl,rfl⟩,z⟩
 ·exists its.toList,r,⟨o,n,I.kZ a o hk,hc,hd,by simpa using hs⟩;have e:=r.length;lk
def aq.tuple(I:aq X ae σ H s)(h:c8 X.K H a xs): ∃its:List au,bd xs its/\IsTup s.heap a its.toArray/\xs.length<=bh:=by
 rcases h with h|⟨o,its,n,hk,hc,hs,hz,r⟩
 ·obtain⟨z,its,r,p⟩:=h.ok I.aG;exact⟨its,r,p,z⟩
 ·exists its.toList,r,⟨o,I.kZ a o hk,hc,n,by simpa using hs⟩;have e:=r.length;lk
def aq.sj(I:aq X ae σ H s)(h:aJ X.K H a xs)(h':aJ X.K H a ys):xs=ys:=by
 obtain⟨its,r,⟨o,n,e,_,_,d⟩,_⟩:=I.list h;obtain⟨its',r',⟨o',n',e',_,_,d'⟩,_⟩:=I.list h';rw[e]at e';cases e';rw[d]at d';injection d' with d1 _;have:its=its':=by lk
 subst this;exact r.inj r'
def aq.ael(I:aq X ae σ H s)(h:c8 X.K H a xs)(h':c8 X.K H a ys):xs=ys:=by
 obtain⟨its,r,⟨o,e,_,n,d⟩,_⟩:=I.tuple h;obtain⟨its',r',⟨o',e',_,n',d'⟩,_⟩:=I.tuple h';rw[e]at e';cases e';rw[d]at d';injection d' with d1 _;have:its=its':=by lk
 subst this;exact r.inj r'
end
noncomputable abbrev Cx.qF(X:Cx)(E:au->aR->Prop):Cx:={X with xe:=E}
abbrev Cx.GV(X:Cx):Cx:=X.qF λ_ _=>False
def Cx.Ok.qF{X:Cx}(ok:X.Ok)(E:au->aR->Prop):(X.qF E).Ok:=
 ⟨ok.jr,ok.kind,ok.r_,ok.xU,ok.above,ok.inj,ok.has,ok.A5,ok.hd,ok.frames,ok.GM,ok.GN,ok.bs,ok.qD,ok.A6,ok.A7,ok.oo,ok.vB⟩
def Cx.Ok.t8{X:Cx}(ok:(X.qF E).Ok):X.Ok:=
 ⟨ok.jr,ok.kind,ok.r_,ok.xU,ok.above,ok.inj,ok.has,ok.A5,ok.hd,ok.frames,ok.GM,ok.GN,ok.bs,ok.qD,ok.A6,ok.A7,ok.oo,ok.vB⟩
section
variable{X:Cx}{ae:List (ag×Obj)}{σ:St}{H:Hp}{s:aR}{E:au->aR->Prop}
def aq.qF(I:aq X ae σ H s)(E:au->aR->Prop):aq (X.qF E) ae σ H s:=⟨I.ok.qF E,I.os,I.gV,I.base,I.jt,I.cell,I.free,I.l_,I.lK,I.aG,I.len⟩
def aq.t8(I:aq (X.qF E) ae σ H s):aq X ae σ H s:=⟨I.ok.t8,I.os,I.gV,I.base,I.jt,I.cell,I.free,I.l_,I.lK,I.aG,I.len⟩
def SP.t8(h:SP (X.qF E) ae D f s'):SP X ae D f s':=by
 cases f with
 |next=>obtain⟨aL,H',I,q⟩:=h;exact⟨aL,H',I.t8,q⟩
 |brk=>obtain⟨aL,H',I,q⟩:=h;exact⟨aL,H',I.t8,q⟩
 |cont=>obtain⟨aL,H',I,q⟩:=h;exact⟨aL,H',I.t8,q⟩
 |ret u=>obtain⟨v,aL,H',I,r,q⟩:=h;exact⟨v,aL,H',I.t8,r,q⟩
def mZ.GV{st:List Stmt}(h:mZ X.GV st t):mZ X st t:=λae s σ H D I hw=>
 mR (h ae s σ H D (I.qF _) hw) (λ_ _ q=>q.t8) λ_ _ z=>lG z
end
section
variable{X:Cx}{st:Stmt}{aD:List Stmt}{t u:TS}{e:Expr}{te:TE}{pos:Pos}
def aem:TS:=λD σ H=>D.nx σ H
def aen(t u:TS):TS:=λD σ H=>t {D with nx:=u D} σ H
def dE:mZ X [] aem:=λ_ _ σ H _ I h=>QQ ⟨σ,H,I,h⟩
def aC(h1:PS X st t)(h2:mZ X aD u):mZ X (st::aD) (aen t (let v:=u;v)):=by
 intro ae s σ H D I h;refine asD (aQ (h1 ae s σ H {D with nx:=u D} I h) λf s1 q=>?_)
 cases f with
 |next=>
  obtain⟨aL,H',I',q⟩:=q;exact h2 ae s1 aL H' D I' q
 |ret v=>exact q
 |brk=>exact q
 |cont=>exact q
def aK(h1:PS X st t):mZ X [st] t:=by
 intro ae s σ H D I h;refine asD (aQ (h1 ae s σ H D I h) λf s1 q=>?_)
 cases f with
 |next=>exact QQ q
 |ret v=>exact q
 |brk=>exact q
 |cont=>exact q
def aq.quiet{σ:St}(I:aq X ae σ H s):interactive X.ai=false:=by simp[interactive,I.ok.kind]
def aeo(te:TE):TS:=λD σ H=>te σ H λ_ H1=>D.nx σ H1
def ga(he:PE X e te)(hs:autoParam (An e none pos.line X.ai=pure false) zA._auto_1):PS X (.Expr e pos) (aeo te):=by
 intro ae s σ H D I h;exact wpAny_Expr_any (aQ (he ae s σ H _ I h) λv s1⟨x,H1,I1,r1,q1⟩=>⟨σ,H1,I1,q1⟩) I.quiet hs
def aep(te:TE):TS:=λD σ H=>te σ H D.rt
def bK(he:PE X e te):PS X (.Return (some e) pos) (aep te):=by
 intro ae s σ H D I h;exact wpAny_Return_some (aQ (he ae s σ H _ I h) λv s1⟨x,H1,I1,r1,q1⟩=>⟨x,σ,H1,I1,r1,q1⟩)
def aeq(c:TT)(t u:TS):TS:=λD σ H=>c σ H λb H1=>if b=true then t D σ H1 else u D σ H1
def dF{c:Expr}{a b:List Stmt}{tc:TT}(hc:PT X c tc)(ha:mZ X a t)(hb:mZ X b u):PS X (.If c a b pos) (aeq tc (let v:=t;v) (let v:=u;v)):=by
 intro ae s σ H D I h;refine wpAny_If (aQ (hc ae s σ H _ I h) λd s1⟨H1,I1,q1⟩=>?_)
 cases d with
 |true=>exact ha ae s1 σ H1 D I1 q1
 |false=>exact hb ae s1 σ H1 D I1 q1
end
abbrev TG:=V->St->Hp->(St->Hp->Prop)->Prop
abbrev xW:=List V->St->Hp->(St->Hp->Prop)->Prop
def PG(X:Cx)(target:Expr)(t:TG):Prop:=
 ∀ae s(σ:St) H v u Q,aq X ae σ H s->bJ v u->t v σ H Q->wpAny (model X.prog X.w) X.A (Ky target X.ai u) (λ_ s'=> ∃aL H',aq X ae aL H' s'/\Q aL H') X.xe s
def A9(X:Cx)(ts:List Expr)(t:xW):Prop:=
 ∀ae s(σ:St) H vs us Q,aq X ae σ H s->bd vs us->t vs σ H Q->wpAny (model X.prog X.w) X.A (assignInOrder ((xt ts X.ai).map (·.2)) us) (λ_ s'=> ∃aL H',aq X ae aL H' s'/\Q aL H') X.xe s
abbrev A_:=V->V->V->Hp->(Hp->Prop)->Prop
def LB(X:Cx)(t:A_):Prop:=
 ∀ae s(σ:St) H o i v ov iv u Q,aq X ae σ H s->bJ o ov->bJ i iv->bJ v u->t o i v H Q->wpAny (model X.prog X.w) X.A (Rg ov iv u) (λ_ s'=> ∃H',aq X ae σ H' s'/\Q H') X.xe s
abbrev Ba:=V->V->Hp->VK->Prop
def LC(X:Cx)(op:acp)(t:Ba):Prop:=
 ∀ae s(σ:St) H x y v u Q,aq X ae σ H s->bJ x v->bJ y u->t x y H Q->wpAny (model X.prog X.w) X.A (FU op v u) (EP X ae σ Q) X.xe s
section
variable{X:Cx}{pos:Pos}
def LD(i:Nat):TG:=λv σ H Q=>Q (σ.set i (some v)) H
def bU(hN:X.N.Nodup)(hi:autoParam (X.N[i]?=some x) zA._auto_1)(hx:autoParam (A4 X.ai.scope x) zC._auto_1)(hf:X.fn x=true\/X.ai.scope.names.lookup x=some .local:=by first|exact .inl rfl|exact .inr rfl|assumption):PG X (.Name x pos) (LD i):=by
 intro ae s σ H v u Q I r h;exact aso (Lz I hN hi hx r (λs' I'=>⟨_,H,I',h⟩) hf)
def aer:xW:=λvs σ H Q=>vs=[]/\Q σ H
inductive aes(t:TG)(u:xW)(vs:List V)(σ:St)(H:Hp)(Q:St->Hp->Prop):Prop|mk:∀v r,vs=v::r->(t v σ H fun aL H'=>u r aL H' Q)->aes t u vs σ H Q
def jT:A9 X [] aer:=by
 intro ae s σ H vs us Q I r h;obtain⟨e,h⟩:=h;subst e
 cases r;exact assignInOrder_nil ⟨σ,H,I,h⟩
def dt{e:Expr}{es:List Expr}{t:TG}{u:xW}(h1:PG X e t)(h2:A9 X es u)
  (hs:autoParam ((xt (e::es) X.ai).map (·.2)=Ky e X.ai::(xt es X.ai).map (·.2)) zA._auto_1):A9 X (e::es) (aes t u):=by
 intro ae s σ H vs us Q I r h;obtain⟨v,vr,e1,h⟩:=h;subst e1
 cases r with
 |cons r rr=>
  rw[hs];exact assignInOrder_cons (aQ (h1 ae s σ H _ _ _ I r h) λ_ s1⟨xX,H1,I1,q1⟩=>h2 ae s1 xX H1 _ _ Q I1 rr q1)
inductive S9(K:aP)(n:Nat)(t:xW)(v:V)(σ:St)(H:Hp)(Q:St->Hp->Prop):Prop|mk:∀a xs,v=.ref a->c8 K H a xs->xs.length=n->t xs σ H Q->S9 K n t v σ H Q
def nh{k:Nat}(hc:X.jS=true)(h:A9 X es t)
  (hn:autoParam ((xt es X.ai).length=n) zA._auto_1)(bW:autoParam ((xt es X.ai).findIdx? (·.1)=none) zA._auto_1):PG X (.Tuple es k pos) (S9 X.K n t):=by
 intro ae s σ H v u Q I r hw;obtain⟨a,xs,e1,hq,hl,hw⟩:=hw;subst e1
 cases r;obtain⟨its,rv,ht,hz⟩:=I.tuple hq;refine assign_Tuple_tuple (I.ok.hd hc) ht (by simp[hn,<-hl,rv.length]) bW λh' hx=>?_;have I1:=I.dX (t':=s.toks) λb o e=>hx b o (d7 (bO e)) e;exact h ae _ σ H xs _ Q I1 (by simpa using rv) hw
def aet(to ti:TE)(t:A_):TG:=λv σ H Q=>to σ H λo H1=>ti σ H1 λi H2=>t o i v H2 λH3=>Q σ H3
def Bb{o i:Expr}{to ti:TE}{t:A_}(ho:PE X o to)(hi:PE X i ti)(hs:LB X t)
  (ha: ∀v,Ky (.Subscript o i pos) X.ai v=(do
   let ov<-xy [v] (eval o X.ai);let iv<-xy [v,ov] (eval i X.ai);Re pos;xy [v,ov,iv] (Rg ov iv v);release [v,ov,iv] []):=by intro _;rfl):PG X (.Subscript o i pos) (aet to ti t):=by
 intro ae s σ H v u Q I r h;rw[ha];refine ah (kG (aQ (ho ae s σ H _ I h) λov s1⟨x,H1,I1,r1,q1⟩=>?_));refine ah (kG (aQ (hi ae s1 σ H1 _ I1 q1) λiv s2⟨y,H2,I2,r2,q2⟩=>?_));exact ah (Kg (ah (kG (aQ (hs ae s2 σ H2 x y v ov iv u _ I2 r1 r2 r q2) λ_ s3⟨H3,I3,q3⟩=>wpAny_release ⟨σ,H3,I3,q3⟩))))
def LF(te:TE)(g:TG):TS:=λD σ H=>te σ H λx H1=>g x σ H1 D.nx
def Bc{tg e:Expr}{te:TE}{g:TG}(he:PE X e te)(hg:PG X tg g)(hs:autoParam (swapsWithSole [tg] e pos.line X.ai=pure false) zA._auto_1)(hw:autoParam (swappedStores [tg] e X.ai=pure none) zA._auto_1)
  (h1:autoParam ((xt [tg] X.ai).map (·.2)=[Ky tg X.ai]) zA._auto_1):PS X (.Assign [tg] e pos) (LF te g):=by
 intro ae s σ H D I h;refine wpAny_Assign_stores (aQ (he ae s σ H _ I h) λv s1⟨x,H1,I1,r1,q1⟩=>?_) hs hw;rw[h1];exact aQ (hg ae s1 σ H1 x v _ I1 r1 q1) λ_ s2 q=>q
def bP{i:Nat}{x:Str}{e:Expr}{te:TE}{ma:Pos}(hN:X.N.Nodup)(he:PE X e te)(hi:autoParam (X.N[i]?=some x) zA._auto_1)(hx:autoParam (A4 X.ai.scope x) zC._auto_1)(hs:autoParam (An e (some (.Name x ma)) pos.line X.ai=pure false) zA._auto_1)(hf:X.fn x=true\/X.ai.scope.names.lookup x=some .local:=by first|exact .inl rfl|exact .inr rfl|assumption):
  PS X (.Assign [.Name x ma] e pos) (LF te (LD i)):=by
 intro ae s σ H D I h;refine wpAny_Assign_Name (aQ (he ae s σ H _ I h) λv s1⟨y,H1,I1,r1,q1⟩=>?_) hs;exact Lz I1 hN hi hx r1 (λs2 I2=>⟨_,H1,I2,q1⟩) hf
inductive aeu(i:Nat)(te:TE)(ti:Ba)(D:sg)(σ:St)(H:Hp):Prop|mk:∀x,σ[i]?=some (some x)->(te σ H λy H1=>ti x y H1 λz H2=>D.nx (σ.set i (some z)) H2)->aeu i te ti D σ H
def Bd{i:Nat}{x:Str}{e:Expr}{te:TE}{op:acp}{ti:Ba}{ma:Pos}(hN:X.N.Nodup)(he:PE X e te)(ho:LC X op ti)(hi:autoParam (X.N[i]?=some x) zA._auto_1)(hx:autoParam (A4 X.ai.scope x) zC._auto_1)(hf:X.fn x=true\/X.ai.scope.names.lookup x=some .local:=by first|exact .inl rfl|exact .inr rfl|assumption):
  PS X (.AugAssign (.Name x ma) op e pos) (aeu i te ti):=by
 intro ae s σ H D I h;obtain⟨v,e1,h⟩:=h;obtain⟨m,hn,hl⟩:=I.jt;have vis:A3 X.ai.scope x:=by rcases hx with k|k;exact .inl k;exact .inr (.inl k)
 obtain⟨u,r,l⟩:=hl i x v hi e1 vis;refine wpAny_AugAssign_Name ?_;have go:wpAny (model X.prog X.w) X.A (eval e X.ai) (λw m_=>wpAny (model X.prog X.w) X.A (FU op u w) (λr t9=>wpAny (model X.prog X.w) X.A (acj X.ai x r) (λ_=>SP X ae D .next) X.xe t9) X.xe m_) X.xe s:=by
  refine aQ (he ae s σ H _ I h) λw s1⟨y,H1,I1,r1,q1⟩=>?_;exact aQ (ho ae s1 σ H1 v y u w _ I1 r r1 q1) λz s2⟨zv,H2,I2,r2,q2⟩=>Lz I2 hN hi hx r2 (λs3 I3=>⟨_,H2,I3,q2⟩) hf
 rcases l with⟨hk,hm⟩|⟨hk,c,hc,GP⟩
 ·exact arO I.ok.kind hk hn hm go
 ·rcases hk with hk|hk
  ·exact arY I.ok.kind hk hc GP go
  ·rcases hx with k|k
   ·have:X.ai.scope.names.lookup x=some .free:=hk;rw[k]at this;cases this
   ·have:X.ai.scope.names.lookup x=some .free:=hk;rw[k]at this;cases this
def aev(to ti te:TE)(GW:V->V->Hp->VK->Prop)(GX:Ba)(GY:A_):TS:=λD σ H=>to σ H λo H1=>ti σ H1 λi H2=>GW o i H2 λx H3=>te σ H3 λy H4=>GX x y H4 λz H5=>GY o i z H5 λH6=>D.nx σ H6
def S_(X:Cx)(t:V->V->Hp->VK->Prop):Prop:=
 ∀ae s(σ:St) H o i ov iv Q,aq X ae σ H s->bJ o ov->bJ i iv->t o i H Q->wpAny (model X.prog X.w) X.A (Aq ov iv) (EP X ae σ Q) X.xe s
def aew{o i e:Expr}{to ti te:TE}{GW:V->V->Hp->VK->Prop}{GX:Ba}{GY:A_}{op:acp}{fE:Pos}(ho:PE X o to)(hi:PE X i ti)(hg:S_ X GW)(he:PE X e te)(hp:LC X op GX)(hs:LB X GY)
  (ha: ∀ov iv new,augStore i ov iv new=(do xy [new,ov,iv] (Rg ov iv new);release [new,ov,iv] [];pure .next):=by intros;rfl):PS X (.AugAssign (.Subscript o i fE) op e pos) (aev to ti te GW GX GY):=by
 intro ae s σ H D I h;refine wpAny_AugAssign_SubscriptAny (aQ (ho ae s σ H _ I h) λov s1⟨x1,H1,I1,r1,q1⟩=>?_) ha;refine aQ (hi ae s1 σ H1 _ I1 q1) λiv s2⟨x2,H2,I2,r2,q2⟩=>?_;refine aQ (hg ae s2 σ H2 x1 x2 ov iv _ I2 r1 r2 q2) λfA s3⟨x3,H3,I3,r3,q3⟩=>?_;refine aQ (he ae s3 σ H3 _ I3 q3) λv s4⟨x4,H4,I4,r4,q4⟩=>?_;refine aQ (hp ae s4 σ H4 x3 x4 fA v _ I4 r3 r4 q4) λnew s5⟨x5,H5,I5,r5,q5⟩=>?_;exact aQ (hs ae s5 σ H5 x1 x2 x5 ov iv new _ I5 r1 r2 r5 q5) λ_ s6⟨H6,I6,q6⟩=>⟨σ,H6,I6,q6⟩
inductive aex(c:TT)(tb:TS)(D:sg)(σ:St)(H:Hp):Prop|mk:∀W:Nat->St->Hp->Prop,(∃m,W m σ H)->(∀m σ H,W m σ H->c σ H λb H1=>if b=true then∃N:St->Hp->Prop,(∀aL H',N aL H'-> ∃m',m'<m/\W m' aL H')/\tb {D with nx:=N,ct:=N,bk:=D.nx} σ H1 else D.nx σ H1)->aex c tb D σ H
def pN{c:Expr}{body:List Stmt}{tc:TT}{tb:TS}(hp:PassesOwn (model X.prog X.w) X.A X.ai X.xe)(hc:PT X c tc)(hb:mZ X body tb):PS X (.While c body [] pos) (aex tc (let v:=tb;v)):=by
 intro ae s σ H D I h;obtain⟨W,⟨m0,w0⟩,vE⟩:=h;refine wpAny_While (codeAny_whileLoop (λn s'=> ∃aL H',aq X ae aL H' s'/\W n aL H') ?_ m0 ⟨σ,H,I,w0⟩);rintro n s1 ⟨xX,H1,I1,w1⟩;refine Aa hp (aQ (hc ae s1 xX H1 _ I1 (vE n xX H1 w1)) λb s2⟨H2,I2,q2⟩=>?_)
 cases b with
 |true=>
  obtain⟨N,hN,q2⟩:=q2;rw[if_pos rfl];refine Aa hp (aQ (hb ae s2 xX H2 _ I2 q2) λf s3 q3=>?_)
  cases f with
  |next=>
   obtain⟨vF,H3,I3,n3⟩:=q3;fin2
  |cont=>
   obtain⟨vF,H3,I3,n3⟩:=q3;fin2
  |brk=>exact q3
  |ret v=>exact q3
 |false=>
  rw[if_neg ik];exact QQ ⟨xX,H2,I2,q2⟩
end
structure It where
 go:Nat->Hp->Prop
 j_:Nat->Hp->V->Hp->Prop
 iJ:Nat->Hp->Prop
def oq(X:Cx)(ae:List (ag×Obj))(H:Hp)(b:ag):Prop:=
 H b=none/\b≠X.ai.locals/\b∉X.fs/\(b∈X.ex\/X.i6.heap.objs.size<=b)/\(∀x c,X.ai.cells.lookup x=some c->c≠b)/\ ∀p∈X.pn++ae,p.1≠b
def aq.sn{σ:St}{b:ag}(I:aq X ae σ H s)(hb:s.heap.objs.size<=b)(hn:H' b=none):oq X ae H' b:=by
 refine⟨hn,kI (iC I.lt hb),I.ad8 hb,.inr (gn I.sz hb),λx c e z=>?_,λp hp z=>?_⟩
 ·obtain⟨v,q⟩:=I.cell x c e;exact absurd (iC q.lt (by rw[z];exact hb)) (xp _)
 ·exact absurd (iC (bO (I.lK p hp).1) (by rw[z];exact hb)) (xp _)
structure md(P:bj)(w:a_)(K:aP)(tg:Expr)(J:It)(fp:bp)(it:ag)(tn:Nat->Heap->Prop):Prop where
 mem:it∈fp
 obj: ∀i h,tn i h-> ∀b∈fp,∃o,h.get? b=some o/\ ∀v,o.data≠.cell v
 keep: ∀i h h',tn i h->(∀b∈fp,∀o,h.get? b=some o->h'.get? b=some o)->tn i h'
 item: ∀(X:Cx),X.prog=P->X.w=w->X.K=K->X.jS=true-> ∀(i:Nat)(ae:List (ag×Obj))(s:aR)(σ:St)(H:Hp)(E:au->aR->Prop),aq X ae σ H s->(∀b∈fp,oq X ae H b)->tn i s.heap->J.go i H->wpAny (model P w) X.A (j5 (.ref it)) (λr s1=> ∃u,r=some u/\wpAny (model P w) X.A (abR tg (.ref it) u) (λ_ s2=> ∃x H',aq X ae σ H' s2/\bJ x u/\J.j_ i H x H'/\tn (i+1) s2.heap/\ ∀b∈fp,H' b=none) E s1) E s
 done: ∀(X:Cx),X.prog=P->X.w=w->X.K=K->X.jS=true-> ∀(i:Nat)(ae:List (ag×Obj))(s:aR)(σ:St)(H:Hp)(E:au->aR->Prop),aq X ae σ H s->(∀b∈fp,oq X ae H b)->tn i s.heap->J.iJ i H->wpAny (model P w) X.A (j5 (.ref it)) (λr s1=>r=none/\aq X ae σ H s1) E s
 self: ∀(A:eJ)(i:Nat)(s:aR)(Q:au->aR->Prop)(E:au->aR->Prop),tn i s.heap->Q (.ref it) s->wpAny (model P w) A (qt (.ref it)) Q E s
abbrev TI:=St->Hp->(It->Hp->Prop)->Prop
inductive Be(X:Cx)(ae:List (ag × Obj))(σ:St)(tg:PySem.Expr)(R:It->Hp->Prop)(LG:au)(s2:aR):Prop|mk:∀it fp tn J H',LG=.ref it->aq X ae σ H' s2->md X.prog X.w X.K tg J fp it tn->tn 0 s2.heap->(∀b∈fp,oq X ae H' b)->R J H'->Be X ae σ tg R LG s2
def PI(X:Cx)(tg iter:Expr)(wi:TI):Prop:=
 ∀ae s(σ:St) H R,aq X ae σ H s->wi σ H R->wpAny (model X.prog X.w) X.A (eval iter X.ai) (λv s1=>wpAny (model X.prog X.w) X.A (qt v) (Be X ae σ tg R) X.xe s1) X.xe s
def xY(ho:s.heap.get? it=some o)(hc:o.cls=.type n)(hd:o.data=.fields vs)
  (hn:["enumerate","zip","dict_itemiterator","dict_reverseitemiterator","odict_iterator","itertools.zip_longest","itertools.pairwise"].contains n=false)(hQ:Q () s):wpAny M A (abR tg (.ref it) u) Q E s:=by
 cases tg<;>first
  |exact az hQ
  |(cases u<;>first
    |exact az hQ
    |(refine ah (acd ho ?_)
      rw[hc,hd];show wpAny M A (if(["enumerate","zip","dict_itemiterator","dict_reverseitemiterator","odict_iterator","itertools.zip_longest","itertools.pairwise"].contains n&&vs[0]?==some (cw _))=true then _ else _) Q E s;rw[if_neg (by lia)];exact az hQ))
def t_(K:aP)(a:ag):It:=
 ⟨λi H=> ∃xs x,aJ K H a xs/\xs[i]?=some x,λi H x H'=>H'=H/\ ∀xs,aJ K H a xs->xs[i]?=some x,λi H=> ∃xs,aJ K H a xs/\xs.length<=i⟩
def Bf(K:aP)(a:ag):It:=
 ⟨λi H=> ∃xs x,c8 K H a xs/\xs[i]?=some x,λi H x H'=>H'=H/\ ∀xs,c8 K H a xs->xs[i]?=some x,λi H=> ∃xs,c8 K H a xs/\xs.length<=i⟩
def qG(lo:Int)(n:Nat):It:=⟨λi _=>i<n,λi H x H'=>H'=H/\x=.int (lo+i),λi _=>n<=i⟩
def aey{K:aP}(a it:ag):md P w K tg (t_ K a) [it] it (λi h=>h.IsListIter it a i) where
 mem:=by simp
 obj:=λi h st b hb=>by
  have e:b=it:=by simpa using hb
  subst e;obtain⟨o,e,c,d⟩:=st;lk
 keep:=λi h h' st k=>st.at λo e=>k it (by simp) o e;item:=by
  intro X hP hw hK hc i ae s σ H E I hf st hg;subst hP hw hK;obtain⟨xs,x,hq,hx⟩:=hg;obtain⟨its,rv,p,hz⟩:=I.list hq;obtain⟨u,hu,ru⟩:=rv.get hx;obtain⟨f0,f1,f2,f3,f4,f5⟩:=hf it (by simp);refine wpAny_pyNext_list_item st p.isList (x:=u) (by simpa using hu) λh' jw sb=>?_;have I1:=I.fg (t':=s.toks) (λb o hb e=>(sb.2 b hb).trans e) f0 f1 f3 f4 f5;obtain⟨o,e,c,d⟩:=id jw;exact⟨u,rfl,xY (s:={s with heap:=h'}) e c d (by room) ⟨x,H,I1,ru,⟨rfl,λys hy=>by rw[I.sj hy hq];exact hx⟩,jw,λb hb=>(hf b hb).1⟩⟩
 done:=by
  intro X hP hw hK hc i ae s σ H E I hf st hg;subst hP hw hK;obtain⟨xs,hq,hx⟩:=hg;obtain⟨its,rv,p,hz⟩:=I.list hq;obtain⟨f0,f1,f2,f3,f4,f5⟩:=hf it (by simp);have hl:=rv.length;exact wpAny_pyNext_list_end (I.ok.hd hc) st p.isList (by simp;lia) λh' eb=>⟨rfl,I.fg (t':=s.toks) (λb o hb e=>eb b o hb e) f0 f1 f3 f4 f5⟩
 self:=λ_ _ _ _ _ st h=>wpAny_pyIter_listiter st h
def aez{K:aP}(a it:ag):md P w K tg (Bf K a) [it] it (λi h=>h.IsTupleIter it a i) where
 mem:=by simp
 obj:=λi h st b hb=>by
  have e:b=it:=by simpa using hb
  subst e;obtain⟨o,e,c,d⟩:=st;lk
 keep:=λi h h' st k=>st.at λo e=>k it (by simp) o e;item:=by
  intro X hP hw hK hc i ae s σ H E I hf st hg;subst hP hw hK;obtain⟨xs,x,hq,hx⟩:=hg;obtain⟨its,rv,p,hz⟩:=I.tuple hq;obtain⟨u,hu,ru⟩:=rv.get hx;obtain⟨f0,f1,f2,f3,f4,f5⟩:=hf it (by simp);refine wpAny_pyNext_tuple_item st (p) (x:=u) (by simpa using hu) λh' jw sb=>?_;have I1:=I.fg (t':=s.toks) (λb o hb e=>(sb.2 b hb).trans e) f0 f1 f3 f4 f5;obtain⟨o,e,c,d⟩:=id jw;exact⟨u,rfl,xY (s:={s with heap:=h'}) e c d (by room) ⟨x,H,I1,ru,⟨rfl,λys hy=>by rw[I.ael hy hq];exact hx⟩,jw,λb hb=>(hf b hb).1⟩⟩
 done:=by
  intro X hP hw hK hc i ae s σ H E I hf st hg;subst hP hw hK;obtain⟨xs,hq,hx⟩:=hg;obtain⟨its,rv,p,hz⟩:=I.tuple hq;obtain⟨f0,f1,f2,f3,f4,f5⟩:=hf it (by simp);have hl:=rv.length;exact wpAny_pyNext_tuple_end (I.ok.hd hc) st (p) (by simp;lia) λh' eb=>⟨rfl,I.fg (t':=s.toks) (λb o hb e=>eb b o hb e) f0 f1 f3 f4 f5⟩
 self:=λ_ _ _ _ _ st h=>wpAny_pyIter_tupleiter st h
def aeA{K:aP}(it:ag)(lo:Int)(n:Nat):md P w K tg (qG lo n) [it] it (λi h=>IsRangeIter h it (lo+(i:Nat)*1) ((n:Int)-(i:Nat)) 1) where
 mem:=by simp
 obj:=λi h st b hb=>by
  lk
 keep:=λi h h' st k=>k it (by simp) _ st;item:=by
  intro X hP hw hK hc i ae s σ H E I hf st hg;subst hP hw hK;obtain⟨f0,f1,f2,f3,f4,f5⟩:=hf it (by simp);have W:=asq (prog:=X.prog) (w:=X.w) (I.ok.hd hc) it lo 1 n;refine W.item i s _ _ hg st λv h' tk hv jw kk=>?_;obtain⟨t,rfl⟩:=hv;have I1:aq X ae σ H {s with heap:=h',toks:=tk}:=I.fg (λb o hb e=>kk b o (by simpa using hb) e) f0 f1 f3 f4 f5;refine⟨_,rfl,xY (s:={s with heap:=h',toks:=tk}) (n:="range_iterator") jw rfl rfl (by room) ⟨.int (lo+i),H,I1,⟨t,?_⟩,⟨rfl,rfl⟩,jw,λb hb=>(hf b hb).1⟩⟩;rw[Int.mul_one]
 done:=by
  intro X hP hw hK hc i ae s σ H E I hf st hg;subst hP hw hK;obtain⟨f0,f1,f2,f3,f4,f5⟩:=hf it (by simp);exact arp (I.ok.hd hc) st (by have:n<=i:=hg;lia) λh' eb=>⟨rfl,I.fg (t':=s.toks) (λb o hb e=>eb b o hb e) f0 f1 f3 f4 f5⟩
 self:=λ_ _ _ _ _ st h=>arq st h
section
variable{X:Cx}{tg:Expr}
inductive aeBI(K:aP)(R:It->Hp->Prop)(x:V)(H1:Hp):Prop|mk:∀a,x=.ref a->(∃xs,aJ K H1 a xs)->R (t_ K a) H1->aeBI K R x H1
def aeB(K:aP)(tl:TE):TI:=fun σ H R=>tl σ H (aeBI K R)
inductive aeCI(K:aP)(R:It->Hp->Prop)(x:V)(H1:Hp):Prop|mk:∀a,x=.ref a->(∃xs,c8 K H1 a xs)->R (Bf K a) H1->aeCI K R x H1
def aeC(K:aP)(tl:TE):TI:=fun σ H R=>tl σ H (aeCI K R)
def gY{l:Expr}{tl:TE}(hl:PE X l tl):PI X tg l (aeB X.K tl):=by
 intro ae s σ H R I h;refine aQ (hl ae s σ H _ I h) λv s1⟨x,H1,I1,r1,q1⟩=>?_;obtain⟨a,e,⟨xs,hq⟩,q⟩:=q1;subst e
 cases r1;obtain⟨its,rv,p,hz⟩:=I1.list hq;refine J6 p.isList ?_;refine⟨s1.heap.objs.size,[s1.heap.objs.size],_,_,H1,rfl,I1.dX (t':=s1.toks) λb o e=>bH _ e,aey a _,⟨_,cJ _ rfl,rfl,rfl⟩,λb hb=>?_,q⟩;have e:b=s1.heap.objs.size:=by simpa using hb
 subst e;exact I1.sn (aW _) (I1.aG.fresh (aW _))
def Ta{l:Expr}{tl:TE}(hl:PE X l tl):PI X tg l (aeC X.K tl):=by
 intro ae s σ H R I h;refine aQ (hl ae s σ H _ I h) λv s1⟨x,H1,I1,r1,q1⟩=>?_;obtain⟨a,e,⟨xs,hq⟩,q⟩:=q1;subst e
 cases r1;obtain⟨its,rv,p,hz⟩:=I1.tuple hq;refine ar9 (p) ?_;refine⟨s1.heap.objs.size,[s1.heap.objs.size],_,_,H1,rfl,I1.dX (t':=s1.toks) λb o e=>bH _ e,aez a _,⟨_,cJ _ rfl,rfl,rfl⟩,λb hb=>?_,q⟩;have e:b=s1.heap.objs.size:=by simpa using hb
 subst e;exact I1.sn (aW _) (I1.aG.fresh (aW _))
def Tb{σ:St}{lo hi:Int}(I:aq X ae σ H s)(h1: -(2^62)<=lo)(h2:lo<2^62)(h3: -(2^62)<=hi)(h4:hi<2^62)
  (q:R (qG lo (hi-lo).toNat) H):wpAny (model X.prog X.w) X.A (qt (.ref s.heap.objs.size)) (Be X ae σ tg R) E {s with heap:=s.heap.push {cls:=.type "range",data:=.fields #[.int lo t,.int hi u,.int 1 v]},toks:=tk}:=by
 refine ar_ (ar2 ..) (small_one h1 h2 h3 h4) ?_;have I1:aq X ae σ H {s with heap:=s.heap.push {cls:=.type "range",data:=.fields #[.int lo t,.int hi u,.int 1 v]},toks:=tk}:=I.dX λb o e=>bH _ e;refine⟨(s.heap.push {cls:=.type "range",data:=.fields #[.int lo t,.int hi u,.int 1 v]}).objs.size,[(s.heap.push {cls:=.type "range",data:=.fields #[.int lo t,.int hi u,.int 1 v]}).objs.size],_,_,H,rfl,I1.dX (t':=tk) λb o e=>bH _ e,aeA _ lo (hi-lo).toNat,?_,λb hb=>?_,q⟩
 ·have e1:lo+((0:Nat):Int)*1=lo:=by simp
  have e2:(((hi-lo).toNat:Nat):Int)-((0:Nat):Int)=aaW lo hi 1:=by rw[asU];split<;>lia
  rw[e1,e2];exact cJ _ rfl
 ·have e:b=(s.heap.push {cls:=.type "range",data:=.fields #[.int lo t,.int hi u,.int 1 v]}).objs.size:=by simpa using hb
  subst e;exact I1.sn (aW _) (I1.aG.fresh (aW _))
inductive aeDI(R:It->Hp->Prop)(vs:List V)(H1:Hp):Prop|mk:∀j:Int,vs=[.int j]->-(2^62)<=j->j<2^62->R (qG 0 j.toNat) H1->aeDI R vs H1
def aeD(ta:TA):TI:=fun σ H R=>ta σ H (aeDI R)
inductive aeEI(R:It->Hp->Prop)(vs:List V)(H1:Hp):Prop|mk:∀i j:Int,vs=[.int i,.int j]->(-(2^62)<=i/\i<2^62/\ -(2^62)<=j/\j<2^62)->R (qG i (j-i).toNat) H1->aeEI R vs H1
def aeE(ta:TA):TI:=fun σ H R=>ta σ H (aeEI R)
def Tc{a:Expr}{ta:TA}{p pos:Pos}(hg:Gl X "range")(hm:X.mg "range" =none)(ha:PA X [a] ta)(hs:autoParam (bV [a] X.ai=[(false,eval a X.ai)]) zA._auto_1):PI X tg (.Call (.Name "range" p) [a] [] pos) (aeD ta):=by
 intro ae s σ H R I h;refine Call_ (jv I hg hm Kt (nV (aQ (ha pos ae s σ H _ I h) λus s1⟨vs,H1,I1,r1,q1⟩=>?_) hs rfl));obtain⟨j,e,q1,q2,q⟩:=q1;subst e
 cases r1 with
 |cons r rr=>
  cases rr;obtain⟨t,rfl⟩:=r;exact as2 (Tb I1 (by lia) (by lia) q1 q2 (by simpa using q))
def aeF{a b:Expr}{ta:TA}{p pos:Pos}(hg:Gl X "range")(hm:X.mg "range" =none)(ha:PA X [a,b] ta)(hs:autoParam (bV [a,b] X.ai=[(false,eval a X.ai),(false,eval b X.ai)]) zA._auto_1)(gL:autoParam (bV [b] X.ai=[(false,eval b X.ai)]) zA._auto_1):
  PI X tg (.Call (.Name "range" p) [a,b] [] pos) (aeE ta):=by
 intro ae s σ H R I h;refine Call_ (jv I hg hm Kt (nV (aQ (ha pos ae s σ H _ I h) λus s1⟨vs,H1,I1,r1,q1⟩=>?_) (by rw[hs,gL]) (by rw[gL];rfl)));obtain⟨i,j,e,⟨q1,q2,q3,q4⟩,q⟩:=q1;subst e
 cases r1 with
 |cons r rr=>
  cases rr with
  |cons r' rr=>
   cases rr;obtain⟨t,rfl⟩:=r;obtain⟨t',rfl⟩:=r';exact call_range_2 (Tb I1 q1 q2 q3 q4 q)
inductive aeGI(g:TG)(tb:TS)(D:sg)(σ:St)(J:It)(H1:Hp):Prop|mk:∀W:Nat->Nat->St->Hp->Prop,(∃m,W 0 m σ H1)->(∀i m σ H,W i m σ H->(J.iJ i H/\D.nx σ H)\/(J.go i H/\ ∃N:St->Hp->Prop,(∀aL H',N aL H'-> ∃m',m'<m/\W (i+1) m' aL H')/\ ∀x H',J.j_ i H x H'->g x σ H' fun be H2=>tb {D with nx:=N,ct:=N,bk:=D.nx} be H2))->aeGI g tb D σ J H1
def aeG(wi:TI)(g:TG)(tb:TS):TS:=λD σ H=>wi σ H (aeGI g tb D σ)
def Bg(fp:bp)(h:Heap):List (ag×Obj):=fp.filterMap λb=>(h.get? b).map λo=>(b,o)
def LH(hb:b∈fp)(e:h.get? b=some o):(b,o)∈Bg fp h:=Qx.mpr ⟨b,hb,by rw[e];rfl⟩
def aeH(hp:p∈Bg fp h):p.1∈fp/\h.get? p.1=some p.2:=by
 obtain⟨b,hb,e⟩:=Qx.mp hp
 cases q:h.get? b with
 |none=>rw[q]at e;cases e
 |some o=>
  fin2
def aq.Td{σ:St}(I:aq X ae σ H s)(hf: ∀b∈fp,oq X ae H b)(ho: ∀b∈fp,∃o,s.heap.get? b=some o/\ ∀v,o.data≠.cell v):aq X (ae++Bg fp s.heap) σ H s:=
 I.SZ λp hp=>(cN.mp hp).elim (λz=>I.lK p (lV _ z)) λz=>by
  obtain⟨hb,e⟩:=aeH z;obtain⟨f0,f1,f2,_⟩:=hf p.1 hb;fin2
def aq.GZ{σ:St}(I:aq X (ae++pl) σ H s):aq X ae σ H s:=I.SZ λp hp=>I.lK p (lV _ (jK _ hp))
def ib{iter:Expr}{body:List Stmt}{wi:TI}{g:TG}{tb:TS}{pos:Pos}(hp:PassesOwn (model X.prog X.w) X.A X.ai X.xe)(hc:X.jS=true)(hi:PI X tg iter wi)(hg:PG X tg g)(hb:mZ X body tb)
  (hs: ∀x,QG iter X.ai x=pure x:=by intro _;rfl):PS X (.For tg iter body [] pos) (aeG wi g (let v:=tb;v)):=by
 intro ae s σ H D I h;refine wpAny_For (aQ (hi ae s σ H _ I h) λv s1 h1=>aQ h1 λLG s2 h2=>?_) hs;obtain⟨it,fp,tn,J,H2,e,I2,T,xZ,f2,W,⟨m0,w0⟩,vE⟩:=h2;subst e;have vG: ∀{H':Hp},(∀b∈fp,H' b=none)-> ∀b∈fp,oq X ae H' b:=λhn b hb=>⟨hn b hb,(f2 b hb).2⟩
 refine codeAny_forLoop_any (λn s'=> ∃i aL H',aq X ae aL H' s'/\tn i s'.heap/\(∀b∈fp,H' b=none)/\W i n aL H') ?_ m0 ⟨0,σ,H2,I2,xZ,λb hb=>(f2 b hb).1,w0⟩;rintro n s3 ⟨i,vF,H3,I3,G0,Te,w3⟩;rcases vE i n vF H3 w3 with⟨iJ,qn⟩|⟨go,N,hN,step⟩
 ·refine Aa hp (aQ (T.done X rfl rfl rfl hc i ae s3 vF H3 X.xe I3 (vG Te) G0 iJ) λr s4⟨hr,I4⟩=>?_);subst hr;exact QQ ⟨vF,H3,I4,qn⟩
 ·refine Aa hp (aQ (T.item X rfl rfl rfl hc i ae s3 vF H3 X.xe I3 (vG Te) G0 go) λr s4⟨u,hr,h4⟩=>?_);subst hr;refine Aa hp (aQ h4 λ_ s5⟨x,H5,I5,r5,y5,x6,LJ⟩=>?_);have I5':=I5.Td (vG LJ) (T.obj _ _ x6);refine Aa hp (aQ (hg _ s5 vF H5 x u _ I5' r5 (step x H5 y5)) λ_ s6⟨σ6,H6,I6,q6⟩=>Aa hp (aQ (hb _ s6 σ6 H6 _ I6 q6) λf s7 q7=>?_));have again: ∀{pO:St}{H7:Hp},aq X (ae++Bg fp s5.heap) pO H7 s7->N pO H7-> ∃m,m<n/\ ∃i aL H',aq X ae aL H' s7/\tn i s7.heap/\(∀b∈fp,H' b=none)/\W i m aL H':=λ{pO H7}I7 n7=>by
   obtain⟨m',hm,w7⟩:=hN pO H7 n7;refine⟨m',hm,i+1,pO,H7,I7.GZ,T.keep _ _ _ x6 λb hb o e=>(I7.lK (b,o) (lV _ (lV _ (LH hb e)))).1,λb hb=>?_,w7⟩;obtain⟨o,e,d⟩:=T.obj _ _ x6 b hb;exact(I7.lK (b,o) (lV _ (lV _ (LH hb e)))).2.1
  cases f with
  |next=>obtain⟨pO,H7,I7,n7⟩:=q7;exact again I7 n7
  |cont=>obtain⟨pO,H7,I7,n7⟩:=q7;exact again I7 n7
  |brk=>obtain⟨pO,H7,I7,q7⟩:=q7;exact⟨pO,H7,I7.GZ,q7⟩
  |ret v=>obtain⟨x7,pO,H7,I7,r7,q7⟩:=q7;exact⟨x7,pO,H7,I7.GZ,r7,q7⟩
end
def su{K:aP}{g:TG}{tb:TS}{D:sg}(Pv:Nat->St->Hp->Prop)(h0:Pv 0 σ H)(hl: ∀i σ H,i<=xs.length->Pv i σ H->aJ K H a xs)
  (hs: ∀i x σ H,xs[i]?=some x->Pv i σ H->g x σ H fun be H2=>tb {D with nx:=Pv (i+1),ct:=Pv (i+1),bk:=D.nx} be H2)(hd: ∀σ H,Pv xs.length σ H->D.nx σ H):
  aeGI g tb D σ (t_ K a) H:=by
 exists λi m σ H=>m=xs.length-i/\i<=xs.length/\Pv i σ H,⟨xs.length,by simp,cX _,h0⟩;rintro i m σ H ⟨rfl,hi,p⟩;have q:=hl i σ H hi p;by_cases a9:i<xs.length
 ·refine .inr ⟨⟨xs,xs[i],q,by simp[a9]⟩,Pv (i+1),fun aL H' p'=>⟨xs.length-(i+1),by lia,rfl,a9,p'⟩,λx H' y=>?_⟩;obtain⟨e,y⟩:=y
  subst e
  exact hs i x σ _ (y xs q) p
 ·have e:i=xs.length:=by lia
  subst e;exact .inl ⟨⟨xs,q,aW _⟩,hd σ H p⟩
def Tf{lo:Int}{g:TG}{tb:TS}{D:sg}(Pv:Nat->St->Hp->Prop)(h0:Pv 0 σ H)
  (hs: ∀i σ H,i<n->Pv i σ H->g (.int (lo+i)) σ H fun be H2=>tb {D with nx:=Pv (i+1),ct:=Pv (i+1),bk:=D.nx} be H2)(hd: ∀σ H,Pv n σ H->D.nx σ H):
  aeGI g tb D σ (qG lo n) H:=by
 exists λi m σ H=>m=n-i/\i<=n/\Pv i σ H,⟨n,by simp,cX _,h0⟩;rintro i m σ H ⟨rfl,hi,p⟩;by_cases a9:i<n
 ·refine .inr ⟨a9,Pv (i+1),fun aL H' p'=>⟨n-(i+1),by omega,rfl,a9,p'⟩,λx H' y=>?_⟩;obtain⟨e,y⟩:=y;lk
 ·have e:i=n:=by lia
  subst e;exact .inl ⟨aW _,hd σ H p⟩
abbrev R2:=V->V->Hp->VK->Prop
def eB(X:Cx)(f:au->au->Sem au)(r:R2):Prop:=
 ∀ae s(σ:St) H x y v u Q,aq X ae σ H s->bJ x v->bJ y u->r x y H Q->wpAny (model X.prog X.w) X.A (f v u) (EP X ae σ Q) X.xe s
def LK(X:Cx)(f:au->Sem au)(r:V->Hp->VK->Prop):Prop:=
 ∀ae s(σ:St) H x v Q,aq X ae σ H s->bJ x v->r x H Q->wpAny (model X.prog X.w) X.A (f v) (EP X ae σ Q) X.xe s
def qH(X:Cx)(f:au)(r:List V->Hp->VK->Prop):Prop:=
 ∀ae s(σ:St) H xs us Q,aq X ae σ H s->bd xs us->r xs H Q->wpAny (model X.prog X.w) X.A (call f us) (EP X ae σ Q) X.xe s
def G1(r:R2)(ta tb:TE):TE:=fun σ H Q=>ta σ H λx H1=>tb σ H1 λy H2=>r x y H2 Q
def tUn(r:V->Hp->VK->Prop)(ta:TE):TE:=fun σ H Q=>ta σ H λx H1=>r x H1 Q
inductive rI(C:Int->Int->Prop)(g:Int->Int->V)(x:V)(y:V)(H:Hp)(Q:VK):Prop|mk:∀i j,x=.int i->y=.int j->C i j->Q (g i j) H->rI C g x y H Q
inductive nj(g:Int->Int->V)(x:V)(y:V)(H:Hp)(Q:VK):Prop|mk:∀i j,x=.int i->y=.int j->Q (g i j) H->nj g x y H Q
inductive rU(g:Int->V)(x:V)(H:Hp)(Q:VK):Prop|mk:∀i,x=.int i->Q (g i) H->rU g x H Q
section
variable{X:Cx}{a b c:Expr}{ta tb tc:TE}{pos:Pos}
def LL(ha:PE X a ta)(hb:PE X b tb){ae:List (ag×Obj)}{s:aR}{σ:St}{H:Hp}{R:V->V->Hp->Prop}(I:aq X ae σ H s)
  (h:ta σ H λx H1=>tb σ H1 λy H2=>R x y H2){Q:au->aR->Prop}{f:au->au->Sem au}
  (hf: ∀v u s2 x y H2,aq X ae σ H2 s2->bJ x v->bJ y u->R x y H2->wpAny (model X.prog X.w) X.A (f v u) Q X.xe s2):
  wpAny (model X.prog X.w) X.A (eval a X.ai) (λv c7=>wpAny (model X.prog X.w) X.A (eval b X.ai) (λu m_=>wpAny (model X.prog X.w) X.A (f v u) Q X.xe m_) X.xe c7) X.xe s:=by
 refine aQ (ha ae s σ H _ I h) λv s1⟨x,H1,I1,r1,q1⟩=>?_;exact aQ (hb ae s1 σ H1 _ I1 q1) λu s2⟨y,H2,I2,r2,q2⟩=>hf v u s2 x y H2 I2 r1 r2 q2
def df(ho:eB X (qp op) r)(ha:PE X a ta)(hb:PE X b tb):PE X (.BinOp a op b pos) (G1 r ta tb):=by
 intro ae s σ H Q I h;exact wpAny_BinOp (LL ha hb I h λv u s2 x y H2 I2 rx ry q=>ho ae s2 σ H2 x y v u Q I2 rx ry q)
def aeI{op:acu}{r:V->Hp->VK->Prop}(ho:LK X (unaryOp op) r)(ha:PE X a ta):PE X (.UnaryOp op a pos) (tUn r ta):=by
 intro ae s σ H Q I h;exact UnaryOp_ (aQ (ha ae s σ H _ I h) λv s1⟨x,H1,I1,r1,q1⟩=>ho ae s1 σ H1 x v Q I1 r1 q1)
def Bh{g:Int->Int->Int}
  (rule: ∀i j t u s Q E,C i j->Q (.int (g i j) s.toks) {s with toks:=s.toks+1}->wpAny (model X.prog X.w) X.A (f (.int i t) (.int j u)) Q E s):
  eB X f (rI C λi j=>.int (g i j)):=by
 intro ae s σ H x y v u Q I rx ry h;obtain⟨i,j,rfl,rfl,hc,q⟩:=h;obtain⟨t,rfl⟩:=rx;obtain⟨t',rfl⟩:=ry;exact rule i j t t' s _ _ hc ⟨.int (g i j),H,I.f_ _,⟨_,rfl⟩,q⟩
def vH{g:Int->Int->Int}
  (rule: ∀i j t u s Q E,Q (.int (g i j) s.toks) {s with toks:=s.toks+1}->wpAny (model X.prog X.w) X.A (f (.int i t) (.int j u)) Q E s):
  eB X f (nj λi j=>.int (g i j)):=by
 intro ae s σ H x y v u Q I rx ry h;obtain⟨i,j,rfl,rfl,q⟩:=h;obtain⟨t,rfl⟩:=rx;obtain⟨t',rfl⟩:=ry;exact rule i j t t' s _ _ ⟨.int (g i j),H,I.f_ _,⟨_,rfl⟩,q⟩
def G2{g:Int->Int->Bool}
  (rule: ∀i j t u s Q E,Q (.bool (g i j)) s->wpAny (model X.prog X.w) X.A (f (.int i t) (.int j u)) Q E s):
  eB X f (nj λi j=>.bl (g i j)):=by
 intro ae s σ H x y v u Q I rx ry h;obtain⟨i,j,rfl,rfl,q⟩:=h;obtain⟨t,rfl⟩:=rx;obtain⟨t',rfl⟩:=ry;exact rule i j t t' s _ _ ⟨.bl (g i j),H,I,rfl,q⟩
def aeJ(i j:Int):Prop:=0<=j/\j<=1000000/\i.natAbs<2^64
def LM(i j:Int):Prop:=(-(2^64)<i/\i<2^64)\/(-(2^64)<j/\j<2^64)
def LM.ok(h:LM i j):IntMulOk i j:=by
 rcases h with⟨h1,h2⟩|⟨h1,h2⟩
 ·exact .of_left (asV h1 h2)
 ·exact .of_right (asV h1 h2)
def nu:eB X (qp .Add) (nj λi j=>.int (i+j)):=vH λ_ _ _ _ _ _ _ q=>add_int q
def vI:eB X (qp .Sub) (nj λi j=>.int (i-j)):=vH λ_ _ _ _ _ _ _ q=>sub_int q
def LN:eB X (qp .Mult) (rI LM λi j=>.int (i*j)):=Bh λ_ _ _ _ _ _ _ hc q=>mul_int q hc.ok
def LO:eB X (qp .Mod) (rI (λ_ j=>0<j) λi j=>.int (i%j)):=Bh λi j _ _ _ _ _ hc q=>by
 have h1:=hc;exact mod_int' (by lia) (by rw[Int.fmod_eq_emod_of_nonneg i (by lia)];exact q)
def Tg:eB X (qp .LShift) (rI aeJ λi j=>.int (i*2^j.toNat)):=Bh λ_ _ _ _ _ _ _ hc q=>lshift_int_small hc.1 hc.2.1 hc.2.2 q
def aeK:eB X (qp .RShift) (rI (λ_ j=>0<=j) λi j=>.int (i/2^j.toNat)):=Bh λi j _ _ _ _ _ hc q=>
 rshift_int hc (by fin2)
def Th:eB X (qp .BitAnd) (nj λi j=>.int (QL i j)):=vH λ_ _ _ _ _ _ _ q=>and_int q
def aeL:eB X (qp .BitOr) (nj λi j=>.int (FN i j)):=vH λ_ _ _ _ _ _ _ q=>or_int q
def Ti:eB X (FU .Add) (nj λi j=>.int (i+j)):=vH λ_ _ _ _ _ _ _ q=>iadd_int q
def Tj:eB X (FU .Sub) (nj λi j=>.int (i-j)):=vH λ_ _ _ _ _ _ _ q=>isub_int q
def Tk:eB X (FU .BitOr) (nj λi j=>.int (FN i j)):=vH λ_ _ _ _ _ _ _ q=>ior_int q
def unI{g:Int->Int}
  (rule: ∀i t s Q E,Q (.int (g i) s.toks) {s with toks:=s.toks+1}->wpAny (model X.prog X.w) X.A (f (.int i t)) Q E s):
  LK X f (rU λi=>.int (g i)):=by
 intro ae s σ H x v Q I rx h;obtain⟨i,rfl,q⟩:=h;obtain⟨t,rfl⟩:=rx;exact rule i t s _ _ ⟨.int (g i),H,I.f_ _,⟨_,rfl⟩,q⟩
def aeM:LK X (unaryOp .USub) (rU λi=>.int (-i)):=unI λ_ _ _ _ _ q=>neg_int q
end
noncomputable def Tl:V->V->Bool
 |.aX,.aX=>true|.aX,.int _=>true|.int _,.aX=>true|.aX,.bl _=>true|.bl _,.aX=>true|.aX,.str _=>true|.str _,.aX=>true
 |.int _,.int _=>true|.bl _,.bl _=>true|.str _,.str _=>true|.j9 _,.j9 _=>true
 |.int _,.str _=>true|.str _,.int _=>true|.bl _,.str _=>true|.str _,.bl _=>true
 |_,_=>false
def rEq:R2:=λx y H Q=>Tl x y=true/\Q (.bl (decide (x=y))) H
def rNe:R2:=λx y H Q=>Tl x y=true/\Q (.bl (!decide (x=y))) H
def Tn:decide (V.int i=V.int j)=(i==j):=by
 rw[u9];simp
def To:decide (V.bl i=V.bl j)=(i==j):=by
 rw[u9];simp
def Tp:decide (V.str i=V.str j)=(i==j):=by
 rw[u9];simp
def Tq:decide (V.j9 i=V.j9 j)=(i.toList==j.toList):=by
 rw[u9]
 cases i
 cases j;simp
section
variable{X:Cx}{a b c:Expr}{ta tb tc:TE}{pos:Pos}
def fj{σ:St}(I:aq X ae σ H s)(q:Q (.bl k) H)(e:k=k'):EP X ae σ Q (.bool k') s:=by
 subst e;exact⟨.bl k,H,I,rfl,q⟩
def me:eB X (lH .Eq) rEq:=by
 intro ae s σ H x y v u Q I rx ry h;obtain⟨hs,q⟩:=h
 cases x with
 |aX=>
  cases rx
  cases y with
  |aX=>cases ry;exact aui (fj I q (by simp))
  |bl j=>cases ry;exact auk (fj I q (by simp))
  |int j=>obtain⟨t',rfl⟩:=ry;exact auj (fj I q (by simp))
  |str j=>obtain⟨t',rfl⟩:=ry;exact auh (fj I q (by simp))
  |_=>exact absurd (hs) ik
 |bl i=>
  cases rx
  cases y with
  |aX=>cases ry;exact aum (fj I q (by simp))
  |bl j=>cases ry;exact eq_bool (fj I q To)
  |str j=>obtain⟨t',rfl⟩:=ry;exact at6 (fj I q (by simp))
  |_=>exact absurd (hs) ik
 |int i=>
  obtain⟨t,rfl⟩:=rx
  cases y with
  |aX=>cases ry;exact aul (fj I q (by simp))
  |int j=>obtain⟨t',rfl⟩:=ry;exact eq_int (fj I q Tn)
  |str j=>obtain⟨t',rfl⟩:=ry;exact at5 (fj I q (by simp))
  |_=>exact absurd (hs) ik
 |str i=>
  obtain⟨t,rfl⟩:=rx
  cases y with
  |aX=>cases ry;exact aug (fj I q (by simp))
  |bl j=>cases ry;exact at4 (fj I q (by simp))
  |int j=>obtain⟨t',rfl⟩:=ry;exact at3 (fj I q (by simp))
  |str j=>obtain⟨t',rfl⟩:=ry;exact eq_str (fj I q Tp)
  |_=>exact absurd (hs) ik
 |j9 i=>
  obtain⟨t,rfl⟩:=rx
  cases y with
  |j9 j=>obtain⟨t',rfl⟩:=ry;exact PySem.W.eq_bytes (fj I q Tq)
  |_=>exact absurd (hs) ik
 |_=>cases y<;>exact absurd (hs) ik
def vJ:eB X (lH .NotEq) rNe:=by
 intro ae s σ H x y v u Q I rx ry h;obtain⟨hs,q⟩:=h
 cases x with
 |aX=>
  cases rx
  cases y with
  |aX=>cases ry;exact aub (fj I q (by simp))
  |bl j=>cases ry;exact aud (fj I q (by simp))
  |int j=>obtain⟨t',rfl⟩:=ry;exact auc (fj I q (by simp))
  |str j=>obtain⟨t',rfl⟩:=ry;exact aua (fj I q (by simp))
  |_=>exact absurd (hs) ik
 |bl i=>
  cases rx
  cases y with
  |aX=>cases ry;exact auf (fj I q (by simp))
  |bl j=>cases ry;exact ne_bool (fj I q (congrArg not To))
  |str j=>obtain⟨t',rfl⟩:=ry;exact atZ (fj I q (by simp))
  |_=>exact absurd (hs) ik
 |int i=>
  obtain⟨t,rfl⟩:=rx
  cases y with
  |aX=>cases ry;exact aue (fj I q (by simp))
  |int j=>obtain⟨t',rfl⟩:=ry;exact ne_int (fj I q (congrArg not Tn))
  |str j=>obtain⟨t',rfl⟩:=ry;exact atY (fj I q (by simp))
  |_=>exact absurd (hs) ik
 |str i=>
  obtain⟨t,rfl⟩:=rx
  cases y with
  |aX=>cases ry;exact at9 (fj I q (by simp))
  |bl j=>cases ry;exact atX (fj I q (by simp))
  |int j=>obtain⟨t',rfl⟩:=ry;exact atW (fj I q (by simp))
  |str j=>obtain⟨t',rfl⟩:=ry;exact ne_str (fj I q (congrArg not Tp))
  |_=>exact absurd (hs) ik
 |j9 i=>
  obtain⟨t,rfl⟩:=rx
  cases y with
  |j9 j=>obtain⟨t',rfl⟩:=ry;exact PySem.W.ne_bytes (fj I q (congrArg not Tq))
  |_=>exact absurd (hs) ik
 |_=>cases y<;>exact absurd (hs) ik
def sv:eB X (lH .Lt) (nj λi j=>.bl (decide (i<j))):=G2 λ_ _ _ _ _ _ _ q=>lt_int q
def mf:eB X (lH .LtE) (nj λi j=>.bl (decide (i<=j))):=G2 λ_ _ _ _ _ _ _ q=>le_int q
def ua:eB X (lH .Gt) (nj λi j=>.bl (decide (j<i))):=G2 λ_ _ _ _ _ _ _ q=>gt_int q
def aeN:eB X (lH .GtE) (nj λi j=>.bl (decide (j<=i))):=G2 λ_ _ _ _ _ _ _ q=>ge_int q
def dG(b:Expr)(h:autoParam (op≠.In) zB._auto_1)(h2:autoParam (op≠.NotIn) zB._auto_1):Ah op b=false:=by
 have e1:(op==asT)=false:=by lk
 have e2:(op==asx)=false:=by cases op<;>first|rfl|exact absurd rfl h2
 cases b<;>simp[Ah,e1,e2]
def Tr(ho:eB X (lH op) r)(ha:PE X a ta)(hb:PE X b tb)(hm:Ah op b=false):PE X (.Compare a [op] [b] pos) (G1 r ta tb):=by
 intro ae s σ H Q I h;exact wpAny_Compare1 (LL ha hb I h λv u s2 x y H2 I2 rx ry q=>ho ae s2 σ H2 x y v u Q I2 rx ry q) hm
inductive LPI(Q:Bool->Hp->Prop)(x:V)(H':Hp):Prop|mk:∀k,x=.bl k->Q k H'->LPI Q x H'
def LP(t:TE):TT:=fun σ H Q=>t σ H (LPI Q)
def dY{op:CmpOp}{r:R2}(ho:eB X (lH op) r)(ha:PE X a ta)(hb:PE X b tb)(hm:Ah op b=false):PT X (.Compare a [op] [b] pos) (LP (G1 r ta tb)):=by
 intro ae s σ H Q I h;refine arE (aQ (ha ae s σ H _ I h) λv s1⟨x,H1,I1,r1,q1⟩=>aQ (hb ae s1 σ H1 _ I1 q1) λu s2⟨y,H2,I2,r2,q2⟩=>
  aQ (ho ae s2 σ H2 x y v u _ I2 r1 r2 q2) λc s3⟨z,H3,I3,r3,k,e,q3⟩=>?_) hm
 subst e
 cases r3;exact u5 ⟨H3,I3,q3⟩
inductive TsI(r':R2)(tc:TE)(σ:St)(Q:VK)(y:V)(z:V)(H3:Hp):Prop|mk:∀k,z=.bl k->(if k=true then tc σ H3 λw' H4=>r' y w' H4 Q else Q (.bl false) H3)->TsI r' tc σ Q y z H3
def Ts(r r':R2)(ta tb tc:TE):TE:=fun σ H Q=>ta σ H λx H1=>tb σ H1 λy H2=>r x y H2 (TsI r' tc σ Q y)
def aeO{op pP:CmpOp}{r r':R2}(ho:eB X (lH op) r)(ju:eB X (lH pP) r')(ha:PE X a ta)(hb:PE X b tb)(hc:PE X c tc)
  (hm:ack [op,pP] [b,c]=false:=by with_unfolding_all rfl):PE X (.Compare a [op,pP] [b,c] pos) (Ts r r' ta tb tc):=by
 intro ae s σ H Q I h;refine Compare_chain (aQ (ha ae s σ H _ I h) λv s1⟨x,H1,I1,r1,q1⟩=>chain_link (aQ (hb ae s1 σ H1 _ I1 q1) λu s2⟨y,H2,I2,r2,q2⟩=>
  aQ (ho ae s2 σ H2 x y v u _ I2 r1 r2 q2) λd s3⟨z,H3,I3,r3,k,e,q3⟩=>?_)) hm
 subst e
 cases r3;refine u5 ?_
 cases k with
 |false=>exact Ro ⟨.bl false,H3,I3,rfl,q3⟩
 |true=>exact Rm (chain_last (aQ (hc ae s3 σ H3 _ I3 q3) λw' s4⟨z',H4,I4,r4,q4⟩=>ju ae s4 σ H4 y z' u w' Q I4 r2 r4 q4))
def Bi{op pP:CmpOp}{r r':R2}(ho:eB X (lH op) r)(ju:eB X (lH pP) r')(ha:PE X a ta)(hb:PE X b tb)(hc:PE X c tc)
  (hm:ack [op,pP] [b,c]=false:=by with_unfolding_all rfl):PT X (.Compare a [op,pP] [b,c] pos) (LP (Ts r r' ta tb tc)):=by
 intro ae s σ H Q I h;refine as3 (aQ (ha ae s σ H _ I h) λv s1⟨x,H1,I1,r1,q1⟩=>acl (aQ (hb ae s1 σ H1 _ I1 q1) λu s2⟨y,H2,I2,r2,q2⟩=>
  aQ (ho ae s2 σ H2 x y v u _ I2 r1 r2 q2) λd s3⟨z,H3,I3,r3,k,e,q3⟩=>?_)) hm
 subst e
 cases r3;refine u5 ?_
 cases k with
 |false=>
  obtain⟨k',e',q'⟩:=q3
  cases e';exact Ro ⟨H3,I3,q'⟩
 |true=>
  refine Rm (test_last (aQ (hc ae s3 σ H3 _ I3 q3) λw' s4⟨z',H4,I4,r4,q4⟩=>aQ (ju ae s4 σ H4 y z' u w' _ I4 r2 r4 q4) λd' s5⟨z2,H5,I5,r5,k2,e2,q5⟩=>?_));subst e2
  cases r5;exact u5 ⟨H5,I5,q5⟩
def x8:(bh:Nat)<2^63:=by rw[Kq];decide
def G3(r:bd [x] us): ∃u,us=[u]/\bJ x u:=by
 cases r with
 |cons r1 r2=>cases r2;exact⟨_,rfl,r1⟩
def aeP(r:bd [x,y] us): ∃u w',us=[u,w']/\bJ x u/\bJ y w':=by
 cases r with
 |cons r1 r2=>
  cases r2 with
  |cons r3 r4=>cases r4;exact⟨_,_,rfl,r1,r3⟩
inductive aeQI(xs:List V)(H:Hp)(Q:VK):Prop|mk:∀i j:Int,xs=[.int i,.int j]->Q (.int (if j<i then j else i)) H->aeQI xs H Q
def aeQ(hc:X.jS=true):qH X (.builtin "min") aeQI:=by
 intro ae s σ H xs us Q I r h;obtain⟨i,j,rfl,q⟩:=h;obtain⟨u,w',rfl,⟨t,rfl⟩,⟨t',rfl⟩⟩:=aeP r;refine min_two_ints (I.ok.hd hc) λh' tk k=>⟨_,H,I.dX k,?_,q⟩
 by_cases hj:j<i
 ·rw[if_pos hj,if_pos hj];exact⟨_,rfl⟩
 ·rw[if_neg hj,if_neg hj];exact⟨_,rfl⟩
end
structure vK(h:Heap)(x dx C:ag)(mA:Str->Option au):Prop where
 obj:h.get? x=some (xk C dx)
 ns:h.Ns1 dx mA
 ne:dx≠x
def aeR{h:Heap}(n:h.Ns1 dx mA): ∃od,h.get? dx=some od/\ ∀name,QJ name od=some (mA name):=by
 obtain⟨o,es,ep,ho,hd,hk,_,hm⟩:=n;refine⟨o,ho,λname=>?_⟩;have e:=hm name;unfold nsFind findBy at e;rw[<-Array.find?_toList]at e;unfold QJ;rw[hd];dsimp only;split
 ·lk
 ·rename_i q;rw[q]at e;have a:es.toList.any (·.refKey)=false:=by
   rw[arC];intro y hy;obtain⟨z,t,lL⟩:=hk y (Array.mem_toList_iff.mp hy);simp[auy,lL]
  fin2
def vK.db{h:Heap}{x dx C:ag}{mA:Str->Option au}(I:vK h x dx C mA): ∃od,PySem.W.InstAt h x (xk C dx) C (some od)/\ ∀name,QJ name od=some (mA name):=
 let⟨od,ho,hl⟩:=aeR I.ns
 ⟨od,⟨I.obj,rfl,rfl,ho⟩,hl⟩
section
variable{prog:bj}{w:a_}{A:eJ}{E:au->aR->Prop}{s:aR}{K:aP}{x dx C f:ag}{mA:Str->Option au}{name:Str}{v:au}
def aeS(X:K.In s.heap)(I:vK s.heap x dx C mA)(hg:Qy K C name=true)(hh:abr K C=true)
  (ha:xm K (.ref C) name=some none)(hv:mA name=some v)(hv':aq8 v=true)(h:Q v {s with toks:=s.toks+1}):
  wpAny (model prog w) A (act (.ref x) name as6) Q E s:=by
 obtain⟨od,J,hl⟩:=I.db;exact PySem.W.get_value X J (abc hg).1 (PySem.W.findObj_own hh ha rfl (by rw[hl,hv])) hv' h
def aeT(X:K.In s.heap)(I:vK s.heap x dx C mA)(hg:Qy K C name=true)
  (hf:xm K (.ref C) name=some (some (.ref f)))(ht:abK K (.ref f)=true)(hv:mA name=none)(h:Q (.ref f,[.ref x]) s):
  wpAny (model prog w) A (Q_ (.ref x) name pl) Q E s:=by
 obtain⟨od,J,hl⟩:=I.db;exact PySem.W.method_fn X J (abc hg).1 (abc hg).2 hf (beq_iff_eq.mp ht) (by show(QJ name od).map (·.isSome)=some false;rw[hl,hv];rfl) h
def aeU(X:K.In s.heap)(I:vK s.heap x dx C mA)
  (hs:xm K (.ref C) "__setattr__" =some (some (.builtin "object.__setattr__")))(hp:aqW K C=true)(ht:abA K C name=some none)(hh:abr K C=true)
  (hw:abT mA ns)(hsz:ns.length<=bh)
  (h: ∀h',vK h' x dx C (λy=>if y=name then some v else mA y)->jM dx s.heap h'->Q () {s with heap:=h',toks:=s.toks+2}):
  wpAny (model prog w) A (setAttr (.ref x) name v) Q E s:=by
 obtain⟨od,J,hl⟩:=I.db;refine PySem.W.set_plain X J hs (PySem.W.osa_open (s:={s with toks:=s.toks+1}) (r:=none) X J hp ht λb=>?_);obtain⟨cd,hc,xV⟩:=PySem.W.any_some hh;have hx:=I.obj;refine ah (az (ah (ah (wpAny_loadPart hx (ah (atV (s:={s with toks:=s.toks+1}) (PySem.W.looks_clsIn X hc) ?_))))));rw[xV];refine az (a:=some dx) (ah (az (ah ?_)));refine wpAny_nsSet1 (s:={s with toks:=s.toks+1}) I.ns λh' LQ gL=>?_;obtain⟨oD,esD,epD,hoD,Bj,hcD⟩:=LQ.count (at8 name v hw);refine ah (wpAny_lookBehind hoD (by rw[Bj];exact pastItsLine_dict (gn hcD (by lk))) ?_);exact az (h _ ⟨(gL.2 _ (qr I.ne)).trans I.obj,LQ,I.ne⟩ gL)
def aeV(X:K.In s.heap)(hm:arh K C=true)
  (hi:xm K (.ref C) "__init__" =some (some (.ref f)))(hf:PySem.W.typeIn K (.ref f)=some (.type "function"))
  (h:ph (model prog w) (A.under (.builtin "type.__call__" ⟨.ref C::vs,kw⟩)) (.call (.ref f) ⟨.ref (s.heap.objs.size+1)::vs,kw⟩) (PySem.W.InitBack (s.heap.objs.size+1) R) {s with heap:=(s.heap.push u4).push (xk C s.heap.objs.size)}):
  ph (model prog w) A (.call (.ref C) ⟨vs,kw⟩) R s:=by
 obtain⟨hh,g,d,t,os⟩:=s;exact PySem.W.make_core (PySem.W.makes_of X hm) (PySem.W.looks_findIn X hi) (λself=>PySem.W.bind_fn X self hf) (.inl rfl) h
end
def aM(f:Str)(v:V):List (Str×V)->List (Str×V)
 |[]=>[(f,v)]
 |(g,x)::r=>if g=f then(g,v)::r else(g,x)::aM f v r
theorem Tu(f g:Str)(v:V): ∀fs:List (Str×V),(aM f v fs).lookup g=if g=f then some v else fs.lookup g
 |[]=>by
  show QZ g [(f,v)]=_;fin2
 |(k,x)::r=>by
  have ih:=Tu f g v r;rw[show aM f v ((k,x)::r)=(if k=f then(k,v)::r else(k,x)::aM f v r)from rfl];fin2
theorem LR(f:Str)(v:V): ∀fs:List (Str×V),f∈(aM f v fs).map (·.1)/\ ∀g,g∈fs.map (·.1)->g∈(aM f v fs).map (·.1)
 |[]=>⟨by simp[aM],λg h=>by simp at h⟩
 |(k,x)::r=>by
  obtain⟨i1,i2⟩:=LR f v r;rw[show aM f v ((k,x)::r)=(if k=f then(k,v)::r else(k,x)::aM f v r)from rfl];fin2
theorem vL(f:Str)(v:V): ∀fs:List (Str×V),(aM f v fs).length<=fs.length+1
 |[]=>by simp[aM]
 |(k,x)::r=>by
  have ih:=vL f v r;rw[show aM f v ((k,x)::r)=(if k=f then(k,v)::r else(k,x)::aM f v r)from rfl];fin2
def jq.G4(r:jq (some v) o): ∃u,o=some u/\bJ v u:=by
 cases o with
 |none=>exact(r).elim
 |some u=>exact⟨u,rfl,r⟩
def jq.aeW(r:jq none o):o=none:=by
 cases o with
 |none=>rfl
 |some u=>exact(r).elim
def aeX(r:bJ v u):aq8 u=true:=by
 cases v with
 |aX=>cases(r);rfl
 |bl b=>cases(r);rfl
 |int i=>obtain⟨t,e⟩:=(r);cases e;rfl
 |str x=>obtain⟨t,e⟩:=(r);cases e;rfl
 |j9 b=>obtain⟨t,e⟩:=(r);cases e;rfl
 |AZ b=>obtain⟨t,e⟩:=(r);cases e;rfl
 |ref a=>cases(r);rfl
 |ty n=>cases(r);rfl
section
variable{P:bj}{w:a_}{H H':Hp}{h h':Heap}{a C dx:ag}{fs fs':List (Str×V)}
def LS(aG:d_ P w H h)(e:H a=some (.aB C dx fs)): ∃mA,vK h a dx C mA/\(∀f,jq (fs.lookup f) (mA f))/\abT mA (fs.map (·.1))/\fs.length<=1000/\H dx=some (.bz a):=by
 obtain⟨d,z,ne,ob,mA,n,r,q⟩:=(aG a _ e)
 exact⟨mA,⟨ob,n,ne⟩,r,q,z,d⟩
end
structure jx(K:aP)(C:ag):Prop where
 pg:Qy K C Str.empty=true
 hd:abr K C=true
 po:aqW K C=true
 sa:xm K (.ref C) "__setattr__" =some (some (.builtin "object.__setattr__"))
def jx.get{K:aP}(c:jx K C)(f:Str):Qy K C f=true:=c.pg
def dZ(K:aP)(C:ag)(f:Str):Prop:=xm K (.ref C) f=some none
def dZ.aeY{K:aP}(n:dZ K C f):abA K C f=some none:=by
 unfold abA;rw[n];rfl
structure e7(K:aP)(C:ag)(m:Str)(f:ag):Prop where
 at_:xm K (.ref C) m=some (some (.ref f))
 fn:abK K (.ref f)=true
 kp:Kc K (.ref f)=true
section
variable{X:Cx}{ae:List (ag×Obj)}{σ:St}{H:Hp}{s:aR}{a C dx:ag}{fs:List (Str×V)}{f:Str}{v:V}{A:eJ}{E:au->aR->Prop}
def aeZ(I:aq X ae σ H s)(e:H a=some (.aB C dx fs))(c:jx X.K C)(n:dZ X.K C f)(l:fs.lookup f=some v)
  (h: ∀u s',aq X ae σ H s'->bJ v u->Q u s'):wpAny (model X.prog X.w) A (act (.ref a) f b) Q E s:=by
 obtain⟨mA,O,r,_,_,_⟩:=LS I.aG e;obtain⟨u,hu,ru⟩:=jq.G4 (v:=v) (o:=mA f) (by rw[<-l];exact r f);exact aeS I.kZ O (c.get f) c.hd n hu (aeX ru) (h u _ (I.f_ _) ru)
def Tv(I:aq X ae σ H s)(e:H a=some (.aB C dx fs))(c:jx X.K C)(k:e7 X.K C m g)(l:fs.lookup m=none)
  (h:Q (.ref g,[.ref a]) s):wpAny (model X.prog X.w) A (Q_ (.ref a) m pl) Q E s:=by
 obtain⟨mA,O,r,_,_,_⟩:=LS I.aG e;have hn:=jq.aeW (by rw[<-l];exact r m);exact aeT I.kZ O (c.get m) k.at_ k.fn hn h
def ae0{y:V}{u:au}{Q:Unit->aR->Prop}(I:aq X ae σ H s)(e:H a=some (.aB C dx fs))(c:jx X.K C)(n:dZ X.K C f)(hl:fs.length<1000)(ry:bJ y u)
  (h: ∀s',aq X ae σ (aa H a (.aB C dx (aM f y fs))) s'->Q () s'):wpAny (model X.prog X.w) A (setAttr (.ref a) f u) Q E s:=by
 obtain⟨mA,O,r,wi,_,ho⟩:=LS I.aG e;have hz:(fs.map (·.1)).length<=bh:=by rw[ax,Kq];lia
 refine aeU I.kZ O c.sa c.po n.aeY c.hd wi hz λh' O' sb=>h _ ?_;have hd: ∃o,h'.get? dx=some o:=let⟨o,_,_,e',_⟩:=O'.ns;⟨o,e'⟩;refine I.qC (x:=a) (e:=dx) (by rw[e];exact ql) (.inr ho) (λb q hb z=>(sb.2 b hb).trans z) hd ?_;refine⟨by rw[aw O.ne];exact ho,?_,O.ne,O'.obj,_,O'.ns,λg=>?_,λg hg=>?_⟩
 ·have:=vL f y fs;lia
 ·show jq ((aM f y fs).lookup g) (if g=f then some u else mA g);rw[Tu];by_cases q:g=f
  ·rw[if_pos q,if_pos q];exact ry
  ·lk
 ·by_cases q:g=f
  ·rw[q];exact(LR f y fs).1
  ·refine(LR f y fs).2 g (wi g λz=>hg ?_);lk
def aq.made(I:aq X ae σ H s):aq X ae σ (aa (aa H s.heap.objs.size (.bz (s.heap.objs.size+1))) (s.heap.objs.size+1) (.aB C s.heap.objs.size []))
  {s with heap:=(s.heap.push u4).push (xk C s.heap.objs.size)}:=by
 have e1:(s.heap.push u4).get? s.heap.objs.size=some u4:=cJ s.heap rfl;have e2:((s.heap.push u4).push (xk C s.heap.objs.size)).get? (s.heap.objs.size+1)=some (xk C s.heap.objs.size):=by
  have:=cJ (s.heap.push u4) (o:=xk C s.heap.objs.size) rfl;lk
 have e3:(s.heap.push u4).Ns s.heap.objs.size (λ_=>none):=⟨u4,#[],_,e1,rfl,(λe he=>absurd he (by simp)),λ_=>rfl⟩
 have I1:=I.laid (a:=s.heap.objs.size) (o:=.bz (s.heap.objs.size+1)) (h':=s.heap.push u4) (t':=s.toks) (λb u q=>bH _ q) (aW _) ⟨_,e1⟩;refine I1.laid (a:=s.heap.objs.size+1) (o:=.aB C s.heap.objs.size []) (t':=s.toks) (λb u q=>bH _ q) (QX (jh _ _)) ?_;have ne:s.heap.objs.size≠s.heap.objs.size+1:=d7 (arT _);refine⟨by rw[aw ne,ao],cX _,ne,e2,λ_=>none,(Heap.Ns1.of_empty e3).at λo q=>bH _ q,λ_=>ql,λy hy=>absurd rfl hy⟩
def ae1(hb:xr e f ai (eval e ai)=eval e ai)
  (h:wpAny (model prog w) A (eval e ai) (λo c7=>wpAny (model prog w) A (act o f true) Q E c7) E s):wpAny (model prog w) A (eval (.Attribute e f pos) ai) Q E s:=
 Attribute_any_ h (by rw[arm_eval_Attribute,hb])
end
inductive TwI(K:aP)(f:Str)(Q:VK)(x:V)(H1:Hp):Prop|mk:∀a C dx fs v,x=.ref a->H1 a=some (.aB C dx fs)->jx K C->dZ K C f->fs.lookup f=some v->Q v H1->TwI K f Q x H1
def Tw(K:aP)(ta:TE)(f:Str):TE:=fun σ H Q=>ta σ H (TwI K f Q)
inductive ae2I(K:aP)(f:Str)(D:sg)(σ:St)(y:V)(x:V)(H2:Hp):Prop|mk:∀a C dx fs,x=.ref a->H2 a=some (.aB C dx fs)->jx K C->dZ K C f->fs.length<1000->D.nx σ (aa H2 a (.aB C dx (aM f y fs)))->ae2I K f D σ y x H2
def ae2(K:aP)(ta tv:TE)(f:Str):TS:=λD σ H=>tv σ H λy H1=>ta σ H1 (ae2I K f D σ y)
section
variable{X:Cx}{o e value:Expr}{f:Str}{pos ma fE:Pos}{ta tv:TE}
def aV(he:PE X e ta)(hb:autoParam (xr e f X.ai (eval e X.ai)=eval e X.ai) zA._auto_1):PE X (.Attribute e f pos) (Tw X.K ta f):=by
 intro ae s σ H Q I h;refine ae1 hb (aQ (he ae s σ H _ I h) λu s1⟨x,H1,I1,rx,a,C,dx,fs,v,ex,ea,c,n,l,q⟩=>?_);subst ex;obtain rfl:u=dA a:=rx;exact aeZ I1 ea c n l λu' s2 I2 ru=>⟨v,H1,I2,ru,q⟩
def eQ(ha:PE X o ta)(hv:PE X value tv)(hs:An value (some (.Attribute o f ma)) pos.line X.ai=pure false):PS X (.Assign [.Attribute o f ma] value pos) (ae2 X.K ta tv f):=by
 intro ae s σ H D I h;refine plainObj_wpAny_Assign_Attribute (aQ (hv ae s σ H _ I h) λu s1⟨y,H1,I1,ry,q⟩=>aQ (ha ae s1 σ H1 _ I1 q) λov s2⟨x,H2,I2,rx,a,C,dx,fs,ex,ea,c,n,l,q2⟩=>?_) hs;subst ex;obtain rfl:ov=dA a:=rx;exact ae0 I2 ea c n l ry λs3 I3=>⟨σ,_,I3,q2⟩
end
structure gb(k:Nat)(A:eJ):Prop where
 hd:A.handled=none
 dp:A.depth+3*k+5<asQ
 un:A.units+16*k+200<cLine
def gb.mono(r:gb k A)(h:j<=k):gb j A:=⟨r.hd,by have:=r.dp;lia,by have:=r.un;lia⟩
def gb.m(r:gb k A)(h:autoParam (j<=k) zB._auto_1):gb j A:=r.mono h
def gb.deeper(r:gb (k+1) A)(ai:Env):gb k (A.deeper ai):=
 ⟨r.hd,by have:=r.dp;show A.depth+1+3*k+5<_;lia,by have:=r.un;show A.units+3+16*k+200<_;lia⟩
def ae3{A:eJ}:(A.under (.builtin "type.__call__" ⟨.ref C::us,kw⟩)).depth=A.depth+1:=by
 first|rfl|simp[abL,Code.weight,Code.isCreation,Code.isGuard,Code.isCaller,Code.frames,Code.isFrame,guardIds]
def ae4{A:eJ}:(A.under (.builtin "type.__call__" ⟨.ref C::us,kw⟩)).units=A.units+1:=by
 first|rfl|simp[abL,Code.cUnits,Code.frames,Code.isFrame]
def gb.make(r:gb (k+1) A)(C:ag)(us:List au)(kw:List (Str×au)):gb k (A.under (.builtin "type.__call__" ⟨.ref C::us,kw⟩)):=
 ⟨r.hd,by have:=r.dp;rw[ae3];lia,by have:=r.un;rw[ae4];lia⟩
def gb.depth(r:gb k A):A.depth<asQ:=by have:=r.dp;lia
def gb.units(r:gb k A):A.units+64<cLine:=by have:=r.un;lia
def x9:TA:=λ_ H Q=>Q [] H
def LU(ta:TE)(tr:TA):TA:=fun σ H Q=>ta σ H λx H1=>tr σ H1 λxs H2=>Q (x::xs) H2
section
variable{X:Cx}{e:Expr}{es:List Expr}{te:TE}{t:TA}{pos:Pos}
def ay:PA X [] x9:=λ_ _ _ _ H Q I h=>zY ⟨[],H,I,.nil,h⟩
def ak(ha:PE X e te)(hr:PA X es t)(hs:autoParam (bV (e::es) X.ai=(false,eval e X.ai)::bV es X.ai) zA._auto_1):PA X (e::es) (LU te t):=by
 intro pos ae s σ H Q I h;rw[hs];refine uZ (aQ (ha ae s σ H _ I h) λu s1⟨x,H1,I1,r1,q1⟩=>?_);exact aQ (hr pos ae s1 σ H1 _ I1 q1) λus s2⟨xs,H2,I2,r2,q2⟩=>⟨x::xs,H2,I2,.cons r1 r2,q2⟩
def ae5(t:TA):TE:=fun σ H Q=>t σ H λxs H1=>xs.length<=bh/\ ∀p,H1 p=none->Q (.ref p) (aa H1 p (.aE xs))
def ae6(t:TA):TE:=fun σ H Q=>t σ H λxs H1=>xs.length<=bh/\ ∀p,H1 p=none->Q (.ref p) (aa H1 p (.af xs))
def G5{x1}(h:PA X es t):PE X (.Tuple es x1 pos) (ae5 t):=by
 intro ae s σ H Q I hq;refine wpAny_Tuple_spliced (aQ (h pos ae s σ H _ I hq) λus s1⟨xs,H1,I1,r,z,q⟩=>⟨by rw[<-r.length];exact z,?_⟩);have hf:=I1.aG.fresh (aW _);refine⟨.ref s1.heap.objs.size,aa H1 s1.heap.objs.size (.aE xs),I1.laid (t':=s1.toks) (λb u e=>bH _ e) (aW _) ?_,rfl,q _ hf⟩;exact⟨z,us,r,⟨_,cJ _ rfl,rfl,_,rfl⟩⟩
def cH(h:PA X es t):PE X (.List es pos) (ae6 t):=by
 intro ae s σ H Q I hq;refine wpAny_List_spliced (aQ (h pos ae s σ H _ I hq) λus s1⟨xs,H1,I1,r,z,q⟩=>⟨by rw[<-r.length];exact z,?_⟩);have hf:=I1.aG.fresh (aW _);refine⟨.ref s1.heap.objs.size,aa H1 s1.heap.objs.size (.af xs),I1.laid (t':=s1.toks) (λb u e=>bH _ e) (aW _) ?_,rfl,q _ hf⟩;exact⟨z,us,0,r,cJ _ rfl⟩
end
abbrev Sp:=List V->Hp->VK->XK->Prop
abbrev sw:=List Env->Hp->aR->XK->au->aR->Prop
structure vM(P:bj)(w:a_)(K:aP)(mg:Str->Option au)(base:Heap)(A:eJ)(aY:List Env)(s:aR)(H:Hp):Prop where
 frames:A.frames=some aY
 jr:Mod K mg base
 bs: ∀b o,base.get? b=some o->s.heap.get? b=some o/\H b=none
 qD:base.objs.size<=s.heap.objs.size
 oo:s.heap.FunFrames base aY
 vB: ∀b∈pK aY,H b=none
 aG:d_ P w H s.heap
 gV:Ar s.gens
inductive CE(aY:List PySem.Env)(P:bj)(w:a_)(H:Hp)(s:aR)(Q:VK)(u:au)(s':aR):Prop|mk:∀v H',s'.os=s.os->Ar s'.gens->Un (pK aY) [] H H' s.heap s'.heap->d_ P w H' s'.heap->bJ v u->Q v H'->CE aY P w H s Q u s'
def CR(CX:sw)(aY:List Env)(P:bj)(w:a_)(H:Hp)(s:aR)(Q:VK)(E:XK)(r:Kz)(s':aR):Prop:=
 match r with
 |.ok (.ret u)=>CE aY P w H s Q u s'
 |.ok _=>False
 |.error e=>CX aY H s E e s'
structure bN(P:bj)(w:a_)(K:aP)(mg:Str->Option au)(base:Heap)(CX:sw)(k:Nat)(f:ag)(fd:aN)(ps:List Str)(sp:Sp):Prop where
 len: ∀vs H Q E,sp vs H Q E->vs.length=ps.length
 LV: ∀(A:eJ)(aY:List Env)(s:aR)(H:Hp)(args:Args)(us:List au)(vs:List V)(Q:VK)(E:XK),gb k A->vM P w K mg base A aY s H->FY s fd args (ps.zip us)->bd vs us->sp vs H Q E->ph (model P w) A (.call (.ref f) args) (CR CX aY P w H s Q E) s
def vM.make{K:aP}(e:vM P w K mg base A aY s H)(C:ag)(us:List au)(kw:List (Str×au)):
  vM P w K mg base (A.under (.builtin "type.__call__" ⟨.ref C::us,kw⟩)) aY s H:=⟨by first|exact e.frames|(simpa[abL,Code.as7,Code.isFrame,pushEnvs]using e.frames),e.jr,e.bs,e.qD,e.oo,e.vB,e.aG,e.gV⟩
section
variable{X:Cx}{ae:List (ag×Obj)}{σ:St}{H:Hp}{s s':aR}
def aq.Tx(I:aq X ae σ H s):vM X.prog X.w X.K X.mg X.base X.A X.jR s H:=
 ⟨I.ok.frames,I.ok.jr,I.bs,gn I.ok.qD I.sz,I.jR,I.SV,I.aG,I.gV⟩
def aq.Tz(I:aq X ae σ H s)(h:CE X.jR X.prog X.w H s Q u s'):EP X ae σ Q u s':=by
 obtain⟨v,H',os,gV,un,aG,r,q⟩:=h;obtain⟨hh,g,d,t,Bl⟩:=s';obtain rfl:Bl=s.os:=os;exact⟨v,H',I.call (h':=hh) (g':=g) (d':=d) (t':=t) (ch:=[]) un aG gV (λb z=>absurd z (by simp)),r,q⟩
end
def ae7(sp:Sp)(iu:List V)(E:XK)(t:TA):TE:=fun σ H Q=>t σ H λvs H1=>sp (vs++iu) H1 Q E
inductive G6I(C:ag)(m:Str)(sp:Sp)(iu:List V)(E:XK)(t:TA)(σ:St)(Q:VK)(x:V)(H1:Hp):Prop|mk:∀a dx fs,x=.ref a->H1 a=some (.aB C dx fs)->fs.lookup m=none->(t σ H1 λvs H2=>sp (x::(vs++iu)) H2 Q E)->G6I C m sp iu E t σ Q x H1
def G6(C:ag)(m:Str)(sp:Sp)(iu:List V)(E:XK)(ta:TE)(t:TA):TE:=fun σ H Q=>ta σ H (G6I C m sp iu E t σ Q)
def TC(C:ag)(sp:Sp)(iu:List V)(E:XK)(t:TA):TE:=fun σ H Q=>t σ H λvs H1=> ∀x dx,H1 x=none->H1 dx=none->dx≠x->sp (.ref x::(vs++iu)) (aa (aa H1 dx (.bz x)) x (.aB C dx [])) (λv H2=>v=.aX/\Q (.ref x) H2) E
def bS(K:aP)(fd:aN)(ps:List Str)(ds:List au):Prop:=
 ∀s us,K.In s.heap->(us++ds).length=ps.length->FY s fd ⟨us,[]⟩ (ps.zip (us++ds))
def bS.all{K:aP}(h: ∀us:List au,us.length=ps.length->bindArgs fd ⟨us,[]⟩=pure (ps.zip us)):bS K fd ps []:=λs us _ hl=>by
 rw[lE]at hl⊢;exact .of_eq (h us hl)
def ub(CX:sw)(X:Cx)(E:XK):Prop:= ∀ae(σ:St) H s e s',aq X ae σ H s->CX X.jR H s E e s'->X.xe e s'
section
variable{X:Cx}{CX:sw}{k:Nat}{f C:ag}{fd:aN}{ps:List Str}{sp:Sp}{iu:List V}{ds:List au}{E:XK}{x m:Str}{p pos fT:Pos}{e o:Expr}{es:List Expr}{ta:TE}{t:TA}
def LW{σ:St}(F:bN X.prog X.w X.K X.mg X.base CX k f fd ps sp)(hr:gb k X.A)(hb:bS X.K fd ps ds)(hd:bd iu ds)(hx:ub CX X E)
  (I:aq X ae σ H s)(r:bd vs us)(h:sp (vs++iu) H Q E):wpAny (model X.prog X.w) X.A (call (.ref f) us) (EP X ae σ Q) X.xe s:=by
 have r2:=r.append hd;have hl:(us++ds).length=ps.length:=by rw[<-r2.length];exact F.len _ _ _ _ h
 refine Q6 (vb (F.LV X.A X.jR s H ⟨us,[]⟩ (us++ds) (vs++iu) Q E hr I.Tx (hb s us I.kZ hl) r2 h) λr s' hq=>?_)
 cases r with
 |error e=>exact hx ae σ H s e s' I hq
 |ok fl=>
  cases fl with
  |ret u=>exact I.Tz hq
  |next=>exact lG hq
  |brk=>exact lG hq
  |cont=>exact lG hq
def gy(F:bN X.prog X.w X.K X.mg X.base CX k f fd ps sp)(hr:gb k X.A)(hg:Gl X x)(hm:X.mg x=some (.ref f))(hk:Kc X.K (.ref f)=true)(hb:bS X.K fd ps ds)(hd:bd iu ds)(hx:ub CX X E)
  (ha:PA X (e::es) t)(nv:autoParam ((x==("__debug__" :Str))=false) zB._auto_1)(he:autoParam (bV (e::es) X.ai=(false,eval e X.ai)::bV es X.ai) zA._auto_1)(dH:autoParam ((gp pos (bV es X.ai)).any (·.1)=false) zA._auto_1):
  PE X (.Call (.Name x p) (e::es) [] pos) (ae7 sp iu E t):=by
 intro ae s σ H Q I h;refine nW (GR I hg hm ?_ nv);refine abi (h₀:=X.base) I.ok.jr.A2 hk (aQ (ha pos ae s σ H _ I h) λus s1⟨vs,H1,I1,r,q⟩=>⟨I1.kZ,?_⟩) he dH;exact LW F hr hb hd hx I1 r q
def e_{pl:Sem Bool}(he:PE X o ta)(c:jx X.K C)(hm:e7 X.K C m f)(F:bN X.prog X.w X.K X.mg X.base CX k f fd ps sp)(hr:gb k X.A)(hb:bS X.K fd ps ds)(hd:bd iu ds)(hx:ub CX X E)(ha:PA X (e::es) t)
  (bW:autoParam (bV (e::es) X.ai=(false,eval e X.ai)::bV es X.ai) zA._auto_1)(dH:autoParam ((gp pos (bV es X.ai)).any (·.1)=false) zA._auto_1)
  (ht:autoParam (eval (.Call (.Attribute o m fT) (e::es) [] pos) X.ai=(do
   let ov<-eval o X.ai;Re fT.atName;let(f,first)<-xy [ov] (Q_ ov m pl);callWith pos f first (gp pos (bV (e::es) X.ai)) (Ra pos (Q3 [] X.ai)))) zA._auto_1):
  PE X (.Call (.Attribute o m fT) (e::es) [] pos) (G6 C m sp iu E ta t):=by
 intro ae s σ H Q I h;refine aqK (pl:=pl) (aQ (he ae s σ H _ I h) λu s1⟨x,H1,I1,rx,a,dx,fs,ex,ea,l,q⟩=>?_) ht;subst ex;obtain rfl:u=dA a:=rx;refine Tv I1 ea c hm l ?_;refine abi (first:=[.ref a]) (h₀:=X.base) I.ok.jr.A2 hm.kp (aQ (ha pos ae s1 σ H1 _ I1 q) λus s2⟨vs,H2,I2,r,q2⟩=>⟨I2.kZ,?_⟩) bW dH;exact LW (us:=.ref a::us) (vs:=.ref a::vs) F hr hb hd hx I2 (.cons rfl r) q2
def mh{pl:Sem Bool}(he:PE X o ta)(c:jx X.K C)(hm:e7 X.K C m f)(F:bN X.prog X.w X.K X.mg X.base CX k f fd ps sp)(hr:gb k X.A)(hb:bS X.K fd ps ds)(hd:bd iu ds)(hx:ub CX X E)
  (ht:autoParam (eval (.Call (.Attribute o m fT) [] [] pos) X.ai=(do
   let ov<-eval o X.ai;Re fT.atName;let(f,first)<-xy [ov] (Q_ ov m pl);callWith pos f first (gp pos (bV [] X.ai)) (Ra pos (Q3 [] X.ai)))) zA._auto_1):
  PE X (.Call (.Attribute o m fT) [] [] pos) (G6 C m sp iu E ta x9):=by
 intro ae s σ H Q I h;refine aqK (pl:=pl) (aQ (he ae s σ H _ I h) λu s1⟨x,H1,I1,rx,a,dx,fs,ex,ea,l,q⟩=>?_) ht;subst ex;obtain rfl:u=dA a:=rx;refine Tv I1 ea c hm l ?_;exact aqO (first:=[.ref a]) I1.kZ hm.kp (LW (us:=[.ref a]) (vs:=[.ref a]) F hr hb hd hx I1 (.cons rfl .nil) q)
structure Mk(K:aP)(C f:ag):Prop where
 ae8:arh K C=true
 init:xm K (.ref C) "__init__" =some (some (.ref f))
 fn:abK K (.ref f)=true
 kp:Kc K (.ref C)=true
def TD{σ:St}(M:Mk X.K C f)(F:bN X.prog X.w X.K X.mg X.base CX k f fd ps sp)(hr:gb (k+1) X.A)(hb:bS X.K fd ps ds)(hd:bd iu ds)
  (hx:ub CX X E)(I:aq X ae σ H s)(r:bd vs us)
  (h: ∀x dx,H x=none->H dx=none->dx≠x->sp (.ref x::(vs++iu)) (aa (aa H dx (.bz x)) x (.aB C dx [])) (λv H2=>v=.aX/\Q (.ref x) H2) E):
  wpAny (model X.prog X.w) X.A (call (.ref C) us) (EP X ae σ Q) X.xe s:=by
 have hq:=h (s.heap.objs.size+1) s.heap.objs.size (I.aG.fresh (Km _)) (I.aG.fresh (aW _)) (d7 (arT _));have I2:=aq.made (C:=C) I;have r2:bd (V.ref (s.heap.objs.size+1)::(vs++iu)) (dA (s.heap.objs.size+1)::(us++ds)):=.cons rfl (r.append hd);have hl:(dA (s.heap.objs.size+1)::us++ds).length=ps.length:=by
  have e:=r2.length;rw[F.len _ _ _ _ hq]at e;exact e.symm
 refine Q6 (aeV (f:=f) I.kZ M.ae8 M.init (beq_iff_eq.mp M.fn) (vb (F.LV _ X.jR _ _ ⟨dA (s.heap.objs.size+1)::us,[]⟩ (dA (s.heap.objs.size+1)::(us++ds)) _ _ E (hr.make C us []) (I2.Tx.make C us []) (hb _ (dA (s.heap.objs.size+1)::us) I2.kZ hl) r2 hq) λr s' kY=>?_))
 cases r with
 |error e=>exact hx ae σ _ _ e s' I2 kY
 |ok fl=>
  cases fl with
  |ret u=>
   obtain⟨v,H',I3,rv,ev,q3⟩:=I2.Tz kY;subst ev;exact⟨rv,⟨V.ref (s.heap.objs.size+1),H',I3,rfl,q3⟩⟩
  |next=>exact lG kY
  |brk=>exact lG kY
  |cont=>exact lG kY
def vN(M:Mk X.K C f)(F:bN X.prog X.w X.K X.mg X.base CX k f fd ps sp)(hr:gb (k+1) X.A)(hg:Gl X x)(hm:X.mg x=some (.ref C))(hb:bS X.K fd ps ds)(hd:bd iu ds)(hx:ub CX X E)
  (ha:PA X (e::es) t)(nv:autoParam ((x==("__debug__" :Str))=false) zB._auto_1)(he:autoParam (bV (e::es) X.ai=(false,eval e X.ai)::bV es X.ai) zA._auto_1)(dH:autoParam ((gp pos (bV es X.ai)).any (·.1)=false) zA._auto_1):
  PE X (.Call (.Name x p) (e::es) [] pos) (TC C sp iu E t):=by
 intro ae s σ H Q I h;refine nW (GR I hg hm ?_ nv);refine abi (h₀:=X.base) I.ok.jr.A2 M.kp (aQ (ha pos ae s σ H _ I h) λus s1⟨vs,H1,I1,r,q⟩=>⟨I1.kZ,?_⟩) he dH;exact TD M F hr hb hd hx I1 r q
def TF(M:Mk X.K C f)(F:bN X.prog X.w X.K X.mg X.base CX k f fd ps sp)(hr:gb (k+1) X.A)(hg:Gl X x)(hm:X.mg x=some (.ref C))(hb:bS X.K fd ps ds)(hd:bd iu ds)(hx:ub CX X E)
  (nv:autoParam ((x==("__debug__" :Str))=false) zB._auto_1):PE X (.Call (.Name x p) [] [] pos) (TC C sp iu E x9):=by
 intro ae s σ H Q I h;refine nW (GR I hg hm ?_ nv);exact aqO I.kZ M.kp (TD (us:=[]) M F hr hb hd hx I .nil h)
end
structure cj(N P:List Str)(sc:Scope):Prop where
 kind:sc.kind=.function
 co:sc.isCoroutine=false
 gen:sc.isGenerator=false
 nd:N.Nodup
 pre:N.take P.length=P
 TH: ∀x∈P,sc.names.lookup x=some .local\/sc.names.lookup x=some .cell
 ae9: ∀y∈sc.names,y.2≠.free
theorem TJ{kindOf:Str->Option mU}{x:Str}: ∀{Bm:List (Str×au)}{m:Str->Option au},(∀v,(x,v)∉Bm)->bindL kindOf Bm m x=m x
 |[],_,_=>rfl
 |(n,v)::r,m,h=>by
  unfold bindL;rw[TJ λw hw=>h w (e5 _ hw)];split
  ·fin2
  ·rfl
theorem TK{kindOf:Str->Option mU}: ∀{Bm:List (Str×au)}{m:Str->Option au},(∀v,(x,v)∉Bm)->bindC kindOf Bm m x=m x
 |[],_,_=>rfl
 |(n,v)::r,m,h=>by
  unfold bindC;rw[TK λw hw=>h w (e5 _ hw)];split
  ·rfl
  ·fin2
theorem TL{kindOf:Str->Option mU}{x:Str}{v:au}: ∀{P:List Str}{vs:List au}{i:Nat}{m:Str->Option au},P.Nodup->P[i]?=some x->vs[i]?=some v->kindOf x=some .local->bindL kindOf (P.zip vs) m x=some v
 |[],_,_,_,_,h,_,_=>by simp at h
 |_::_,[],_,_,_,_,h,_=>by simp at h
 |p::P,w::vs,0,m,nd,h1,h2,hk=>by
  simp at h1 h2;subst h1;subst h2;show bindL kindOf ((p,w)::P.zip vs) m p=_;unfold bindL;rw[TJ λv hv=>(jL.mp nd).1 (abG hv).1,if_pos hk];simp
 |p::P,w::vs,i+1,m,nd,h1,h2,hk=>by
  unfold bindL;exact TL (i:=i) (jL.mp nd).2 (by simpa using h1) (by simpa using h2) hk
theorem TM{kindOf:Str->Option mU}{x:Str}{v:au}: ∀{P:List Str}{vs:List au}{i:Nat}{m:Str->Option au},P.Nodup->P[i]?=some x->vs[i]?=some v->kindOf x≠some .local->bindC kindOf (P.zip vs) m x=some v
 |[],_,_,_,_,h,_,_=>by simp at h
 |_::_,[],_,_,_,_,h,_=>by simp at h
 |p::P,w::vs,0,m,nd,h1,h2,hk=>by
  simp at h1 h2;subst h1;subst h2;show bindC kindOf ((p,w)::P.zip vs) m p=_;unfold bindC;rw[TK λv hv=>(jL.mp nd).1 (abG hv).1,if_neg hk];simp
 |p::P,w::vs,i+1,m,nd,h1,h2,hk=>by
  unfold bindC;exact TM (i:=i) (jL.mp nd).2 (by simpa using h1) (by simpa using h2) hk
noncomputable def start(N:List Str)(vs:List V):St:=vs.map some++cu (N.length-vs.length) none
noncomputable def x_(CX:sw)(P:bj)(w:a_)(K:aP)(mg:Str->Option au)(base:Heap)(N:List Str)(qual:Str)(scope:Scope)(f:ag)(cd:au)(A:eJ)(aY:List Env)(s:aR)(H:Hp)(E:XK):Cx where
 prog:=P;w:=w
 K:=K
 mg:=mg;base:=base
 A:=A.deeper (vf qual scope s.heap.objs.size f cd)
 N:=N
 i6:=s
 vA:=H
 ai:=vf qual scope s.heap.objs.size f cd;aY:=aY;jR:=vf qual scope s.heap.objs.size f cd::aY;ex:=[]
 jS:=true;fn:=λ_=>true;pn:=[]
 xe:=λe s'=>wpAny (model P w) (A.deeper (vf qual scope s.heap.objs.size f cd)) (leaving (vf qual scope s.heap.objs.size f cd) e) (λ_ LX=>CX aY H s E e LX) (λe' LX=>CX aY H s E e' LX) s'
def TN{sc:Scope}(h:sc.names.lookup x=some .cell): ∃c,(jm n sc.names []).lookup x=some c:=by
 have q:=aqG sc.names n [] (.inl h);exact aqE.mp q
def ae_{K:aP}
  (S:cj N ps scope)(hd:A.handled=none)(e0:vM P w K mg base A aY s H)(hl:vs.length=ps.length)(r:bd vs us)
  (x:InCallC s s.heap.objs.size (bindL (vf qual scope s.heap.objs.size f cd).kindOf (ps.zip us) λ_=>none) (jm (s.heap.objs.size+1) scope.names []) (bindC (vf qual scope s.heap.objs.size f cd).kindOf (ps.zip us) λ_=>none) s1):
  aq (x_ CX P w K mg base N qual scope f cd A aY s H E) [] (start N vs) H s1:=by
 have dH:ps.length<=N.length:=by have:=congrArg asJ S.pre;fin2
 obtain⟨h1,tk,rfl,hk⟩:=x.done;have ya: ∀b:ag,b∉(x_ CX P w K mg base N qual scope f cd A aY s H E).ex:=λb z=>absurd (show b∈([]:bp)from z) (by simp);refine⟨⟨e0.jr,S.kind,rfl,rfl,aW _,λy z c h1 h2=>?_,λy hy=>?_,λy c _ h=>?_,λ_=>hd,Around.frames_deeper e0.frames,.inr ⟨rfl,rfl⟩,λb z=>absurd z (ya b),e0.bs,e0.qD,λb _ _=>ya b,λb z=>absurd z (ya b),e0.oo,e0.vB⟩,
  rfl,e0.gV,Un.dX hk,⟨_,x.toInCall.ns,λi y v h1 h2 h3=>?_⟩,λy c h=>⟨_,x.cell y c h⟩,e0.aG.fresh (aW _),λy c h=>?_,λp hp=>absurd (show p∈([]:List (ag×Obj))from hp) (by simp),e0.aG.dX hk,?_⟩
 ·exact name_of_addr x.apart (mM h1) (mM h2)
 ·have hy:=hy;rcases hy with hy|hy
  ·exact TN hy
  ·exact absurd rfl (S.ae9 _ (mM hy))
 ·exact lY (x.above y c (mM h))
 ·have hi:i<vs.length:=by
   unfold start at h2;by_cases hi:i<vs.length
   ·exact hi
   ·rw[JO (by simpa using hi)]at h2;rw[List.getElem?_replicate]at h2;split at h2<;>cases h2
  have ha:vs[i]?=some v:=by
   unfold start at h2;rw[FB (by simpa using hi),gP]at h2
   cases e:vs[i]? with
   |none=>rw[e]at h2;cases h2
   |some a=>rw[e]at h2;cases h2;rfl
  obtain⟨u,hu,rv⟩:=r.get ha;have hp:ps[i]?=some y:=by
   rw[<-S.pre,List.getElem?_take_of_lt (by lia)];exact h1
  have TQ:ps.Nodup:=by rw[<-S.pre];exact S.nd.sublist (arz _ _)
  exists u,rv;rcases S.TH y (eF hp)with k|k
  ·exact .inl ⟨k,TL TQ hp hu k⟩
  ·obtain⟨c,e⟩:=TN (n:=s.heap.objs.size+1) k;refine .inr ⟨.inl k,c,e,?_⟩;have q:=x.cell y c e;rw[TM TQ hp hu (by show scope.names.lookup y≠_;rw[k];decide)]at q;exact q
 ·exact e0.aG.fresh (lY (x.above y c (mM h)))
 ·unfold start;show _=N.length;rw[dS,ax,FE];lia
def afa{CX:sw}{P:bj}{w:a_}{K:aP}{mg:Str->Option au}{base:Heap}{k:Nat}{f:ag}{name qual:Str}{params:Arguments}{body:List Stmt}{scope:Scope}{dV kV doc pm bB ct oc:au}{an od:Option ag}
  {pQ:Array (Option au)}{N ps:List Str}{sp:Sp}(lk:K.lookup f=some ⟨oc,od,.func (Kf name qual params body scope dV kV doc pm an bB ct),pQ⟩)(sh:abE K bB qual=true)(S:cj N ps scope)
  (len: ∀vs H Q E,sp vs H Q E->vs.length=ps.length)
  (LY: ∀A aY s H vs Q E,gb k (A.deeper (vf qual scope s.heap.objs.size f bB))->sp vs H Q E->∃t,mZ (x_ CX P w K mg base N qual scope f bB A aY s H E) body t/\t {nx:=λ_ H'=>Q .aX H',rt:=Q} (start N vs) H):
  bN P w K mg base CX (k+1) f (Kf name qual params body scope dV kV doc pm an bB ct) ps sp:=by
 refine⟨len,λA aY s H args us vs Q E hr e0 hb r ny=>?_⟩;have hl:=len _ _ _ _ ny;have KX:=e0.jr.A2.keeps λb o e=>(e0.bs b o e).1;have lim:=e0.jr.nolimit.keeps λb o e=>(e0.bs b o e).1;have afb: ∀y∈ps.zip us,scope.names.lookup y.1=some .local\/(scope.names.lookup y.1=some .cell/\((jm (s.heap.objs.size+1) scope.names []).lookup y.1).isSome=true):=λ⟨n,v⟩ hy=>by
  rcases S.TH n (abG hy).1 with q|q
  ·exact .inl q
  ·exact .inr ⟨q,aqG _ _ _ (.inl q)⟩
 refine codeAny_call_function hr.depth (KX _ _ lk) rfl S.co S.gen rfl (PySem.W.codeRec_of KX sh) (hb _ _ _ _ ?_);refine wpAny_newFunctionEnv_cells S.kind afb λai he s1 x=>?_;subst he;refine⟨lim.keeps x.toInCall.keep,codeAny_func ?_⟩;obtain⟨t,ht,hq⟩:=LY A aY s H vs Q E (hr.deeper _) ny;have I:aq (x_ CX P w K mg base N qual scope f bB A aY s H E) [] (start N vs) H s1:=ae_ S hr.hd e0 hl r x;refine mR (ht [] s1 (start N vs) H _ I hq) (λfl s' hs=>?_) λe s' hs=>hs;have bM: ∀{aL:St}{H':Hp}{v:V}{u:au},aq (x_ CX P w K mg base N qual scope f bB A aY s H E) [] aL H' s'->bJ v u->Q v H'->CE aY P w H s Q u s':=
  λ{aL H' v u}J rv q=>⟨v,H',J.os,J.gV,J.base,J.aG,rv,q⟩
 cases fl with
 |ret u=>
  obtain⟨v,aL,H',J,rv,q⟩:=hs;exact bM J rv q
 |next=>
  obtain⟨aL,H',J,q⟩:=hs;exact bM (v:=V.aX) (u:=im) J rfl q
 |brk=>
  obtain⟨_,_,_,q⟩:=hs;exact lG q
 |cont=>
  obtain⟨_,_,_,q⟩:=hs;exact lG q
section
variable{X:Cx}{x:Str}{p pos:Pos}{e:Expr}{es:List Expr}{t:TA}{id T:String}{r:List V->Hp->VK->Prop}
def TR(r:List V->Hp->VK->Prop)(t:TA):TE:=fun σ H Q=>t σ H λvs H1=>r vs H1 Q
def d4(hc:qH X (.builtin id) r)(hg:Gl X x)(hm:X.mg x=none)(hv:Ak x=some (.builtin id))(ha:PA X (e::es) t)(hn:autoParam (x≠"__name__" ) zB._auto_1)(nv:autoParam ((x==("__debug__" :Str))=false) zB._auto_1)
  (he:autoParam (bV (e::es) X.ai=(false,eval e X.ai)::bV es X.ai) zA._auto_1)(dH:autoParam ((gp pos (bV es X.ai)).any (·.1)=false) zA._auto_1):PE X (.Call (.Name x p) (e::es) [] pos) (TR r t):=by
 intro ae s σ H Q I h;refine nW (jv I hg hm hv ?_ hn nv);exact aaS (aQ (ha pos ae s σ H _ I h) λus s1⟨vs,H1,I1,r1,q1⟩=>hc ae s1 σ H1 vs us Q I1 r1 q1) he dH
def yb(hc:qH X (.type T) r)(hg:Gl X x)(hm:X.mg x=none)(hv:Ak x=some (.type T))(ha:PA X (e::es) t)(hn:autoParam (x≠"__name__" ) zB._auto_1)(nv:autoParam ((x==("__debug__" :Str))=false) zB._auto_1)
  (he:autoParam (bV (e::es) X.ai=(false,eval e X.ai)::bV es X.ai) zA._auto_1)(dH:autoParam ((gp pos (bV es X.ai)).any (·.1)=false) zA._auto_1):PE X (.Call (.Name x p) (e::es) [] pos) (TR r t):=by
 intro ae s σ H Q I h;refine nW (jv I hg hm hv ?_ hn nv);exact nV (aQ (ha pos ae s σ H _ I h) λus s1⟨vs,H1,I1,r1,q1⟩=>hc ae s1 σ H1 vs us Q I1 r1 q1) he dH
end
end L2
namespace HT
open PySem PyProof.Rows
section
variable{prog:bj}{w:a_}{A:eJ}{E:au->aR->Prop}{s:aR}
def ka(n d:Nat):Option Int->Nat
 |none=>d
 |some v=>if v<0 then(v+(n:Int)).toNat else min v.toNat n
def G7(n d:Nat):ka n d none=d:=rfl
def yc(n d k:Nat):ka n d (some (k:Int))=min k n:=by
 show(if(k:Int)<0 then((k:Int)+(n:Int)).toNat else min (k:Int).toNat n)=min k n
 rw[if_neg (by lia),jf]
end
end HT
namespace L2
open PySem PySem.Spec PyProof.Rows
abbrev TO:=St->Hp->(Option Int->Hp->Prop)->Prop
def PO(X:Cx)(e:Option Expr)(t:TO):Prop:=
 ∀ae s(σ:St) H Q,aq X ae σ H s->t σ H Q->wpAny (model X.prog X.w) X.A (evalPart e X.ai) (λu s'=> ∃o H',aq X ae σ H' s'/\IsPart u o/\Q o H') X.xe s
def afc:TO:=λ_ H Q=>Q none H
inductive afdI(Q:Option Int->Hp->Prop)(x:V)(H1:Hp):Prop|mk:∀i,x=.int i->Q (some i) H1->afdI Q x H1
def afd(t:TE):TO:=fun σ H Q=>t σ H (afdI Q)
section
variable{X:Cx}{e:Expr}{te:TE}{lo hi:Option Expr}{tl th:TO}{pos p2:Pos}
def Bn:PO X none afc:=by
 intro ae s σ H Q I h;rw[asW];exact az ⟨none,H,I,.none,h⟩
def vO(h:PE X e te):PO X (some e) (afd te):=by
 intro ae s σ H Q I hw;rw[evalPart_some];refine aQ (h ae s σ H _ I hw) λu s1⟨x,H1,I1,r1,q1⟩=>?_;obtain⟨i,rfl,q⟩:=q1;obtain⟨t,rfl⟩:=r1;exact⟨some i,H1,I1,.int i t,q⟩
def TU(X:Cx)(r:V->Option Int->Option Int->Hp->VK->Prop):Prop:=
 ∀ae s(σ:St) H x v vl vu lo hi sl Q,aq X ae σ H s->bJ x v->s.heap.IsSliceOf sl vl vu .none->IsPart vl lo->IsPart vu hi->r x lo hi H Q->∃T id,Q7 (.type T) "__getitem__" =pure (some (.builtin id))/\s.TypeIs v T/\wpAny (model X.prog X.w) X.A (Aq v (.ref sl)) (EP X ae σ Q) X.xe s
def tSl(r:V->Option Int->Option Int->Hp->VK->Prop)(te:TE)(tl th:TO):TE:=fun σ H Q=>te σ H λx H1=>tl σ H1 λl H2=>th σ H2 λu H3=>r x l u H3 Q
def yd{r:V->Option Int->Option Int->Hp->VK->Prop}(hr:TU X r)(he:PE X e te)(hl:PO X lo tl)(hu:PO X hi th):PE X (.Subscript e (.Slice lo hi none p2) pos) (tSl r te tl th):=by
 intro ae s σ H Q I h;refine ach (aQ (he ae s σ H _ I h) λv s1⟨x,H1,I1,r1,q1⟩=>?_);refine wpAny_Slice (aQ (hl ae s1 σ H1 _ I1 q1) λvl s2⟨l,H2,I2,pl,q2⟩=>aQ (hu ae s2 σ H2 _ I2 q2) λvu s3⟨u,H3,I3,pu,q3⟩=>?_);rw[asW];refine az ?_;have I4:aq X ae σ H3 {s3 with heap:=s3.heap.push {cls:=.type "slice",data:=.fields #[vl,vu,.none]}}:=I3.dX (t':=s3.toks) λb ob q=>bH _ q;obtain⟨T,id,hT,ht,hg⟩:=hr ae {s3 with heap:=s3.heap.push {cls:=.type "slice",data:=.fields #[vl,vu,.none]}} σ H3 x v vl vu l u s3.heap.objs.size Q I4 r1 (atU ..) pl pu q3;exact tail_any (ops:=[.ref s3.heap.objs.size,v]) ht hT hg (by with_unfolding_all rfl)
def k5(xs:List V)(lo hi:Option Int):List V:=(xs.drop (HT.ka xs.length 0 lo)).take (HT.ka xs.length xs.length hi-HT.ka xs.length 0 lo)
def afe(xs:List V)(lo hi:Option Int):(k5 xs lo hi).length<=xs.length:=by
 unfold k5
 rw[il,abB]
 lia
end
def nz(n:Nat)(i:Int):Option Nat:=if 0<=i then(if i<n then some i.toNat else none)else if-(n:Int)<=i then some (i+n).toNat else none
def qI{α:Type}(xs:List α)(i:Int):Option α:=(nz xs.length i).bind λj=>xs[j]?
def TV(h:nz n i=some j):seqIndex? i n=some j/\j<n/\ -(n:Int)<=i/\i<n:=by
 unfold nz at h;by_cases h0:0<=i
 ·rw[if_pos h0]at h;by_cases h1:i<n
  ·rw[if_pos h1]at h;have e:=bv h;exact⟨by rw[Q2 h0 h1,e],by lia,by lia,h1⟩
  ·rw[if_neg h1]at h;cases h
 ·rw[if_neg h0]at h;by_cases h1: -(n:Int)<=i
  ·rw[if_pos h1]at h;have e:=bv h;exact⟨by rw[Q0 (by lia) h1,e],by lia,h1,by lia⟩
  ·rw[if_neg h1]at h;cases h
def LZ{α:Type}{xs:List α}{v:α}(h:qI xs i=some v): ∃j,seqIndex? i xs.length=some j/\xs[j]?=some v/\j<xs.length/\ -(xs.length:Int)<=i/\i<xs.length:=by
 unfold qI at h
 cases e:nz xs.length i with
 |none=>rw[e]at h;cases h
 |some j=>
  rw[e]at h;obtain⟨h1,h2,h3,h4⟩:=TV e;exact⟨j,h1,h,h2,h3,h4⟩
def bc{α:Type}{xs:List α}{j:Nat}{v:α}(h:xs[j]?=some v):qI xs (j:Int)=some v:=by
 have hj:=(gm.mp h).1;have e:nz xs.length (j:Int)=some j:=by
  unfold nz;lk
 unfold qI;rw[e];exact h
def aff{α:Type}(xs:List α)(v:α):qI (xs++[v]) (-1)=some v:=by
 have hl:(xs++[v]).length=xs.length+1:=by simp
 have e:nz (xs++[v]).length (-1)=some xs.length:=by
  unfold nz
  rw[hl,if_neg (by room),if_pos (by lia)]
  congr 1
  lia
 unfold qI;rw[e];simp
def afg(b:Expr):Prop:= ∀o i,Q1 b false o i=acs [o,i] (Aq o i)
def G8(X:Cx)(r:R2):Prop:=
 ∀value slice ae s(σ:St) H x y v u Q,aq X ae σ H s->bJ x v->bJ y u->r x y H Q->Q1 slice false v u=acs [v,u] (Aq v u)->wpAny (model X.prog X.w) X.A (subscriptTail value slice v u) (EP X ae σ Q) X.xe s
def MtR(X:Cx)(id:String)(r:V->List V->Hp->VK->Prop):Prop:=
 ∀ae s(σ:St) H x xs v us Q,aq X ae σ H s->bJ x v->bd xs us->r x xs H Q->wpAny (model X.prog X.w) X.A (call (.builtin id) (v::us)) (EP X ae σ Q) X.xe s
section
variable{X:Cx}{a b:Expr}{ta tb:TE}{pos:Pos}
def bD(hr:G8 X r)(ha:PE X a ta)(hb:PE X b tb)(hs:autoParam (afg b) zD._auto_1):PE X (.Subscript a b pos) (G1 r ta tb):=by
 intro ae s σ H Q I h;exact ach (LL ha hb I h λv u s2 x y H2 I2 rx ry q=>hr a b ae s2 σ H2 x y v u Q I2 rx ry q (hs _ _))
inductive L3(K:aP)(x:V)(y:V)(H:Hp)(Q:VK):Prop|mk:∀p xs i v,x=.ref p->y=.int i->aJ K H p xs->qI xs i=some v->Q v H->L3 K x y H Q
inductive afh(K:aP)(x:V)(y:V)(H:Hp)(Q:VK):Prop|mk:∀p xs i v,x=.ref p->y=.int i->c8 K H p xs->qI xs i=some v->Q v H->afh K x y H Q
def bY:G8 X (L3 X.K):=by
 intro value slice ae s σ H x y v u Q I rx ry h hs;obtain⟨p,xs,i,z,rfl,rfl,hq,he,q⟩:=h
 cases rx;obtain⟨t,rfl⟩:=ry;obtain⟨its,r,pl,hz⟩:=I.list hq;obtain⟨j,h1,h2,h3,h4,h5⟩:=LZ he;obtain⟨w,ew,kb⟩:=r.get h2;have hl:=r.length;have hn:=x8;have bM:EP X ae σ Q w s:=⟨z,H,I,kb,q⟩
 by_cases h0:0<=i
 ·have hj:i.toNat=j:=by
   rw[Q2 h0 h5]at h1;exact bv h1
  exact item_listR pl.isList h0 (by lia) (by lk) bM hs
 ·have hj:(i+(its.toArray.size:Int)).toNat=j:=by
   rw[Q0 (by lia) h4]at h1;lk
  exact arx (x:=w) pl.isList.typeIs slot_list_getitem.lookup
   (arr (Q:=λr s'=>r=w/\EP X ae σ Q r s') pl.isList (by lia) (by lk) (by lia) (by lk) ⟨rfl,bM⟩) hs
def TW:G8 X (afh X.K):=by
 intro value slice ae s σ H x y v u Q I rx ry h hs;obtain⟨p,xs,i,z,rfl,rfl,hq,he,q⟩:=h
 cases rx;obtain⟨t,rfl⟩:=ry;obtain⟨its,r,pl,hz⟩:=I.tuple hq;obtain⟨j,h1,h2,h3,h4,h5⟩:=LZ he;obtain⟨w,ew,kb⟩:=r.get h2;have hl:=r.length;have hn:=x8;have bM:EP X ae σ Q w s:=⟨z,H,I,kb,q⟩
 exact arx (x:=w) pl.typeIs slot_tuple_getitem.lookup
  (getItem_tuple (j:=j) (Q:=λr s'=>r=w/\EP X ae σ Q r s') pl (by lia) (by lia) (by lk) (by simpa using ew) ⟨rfl,bM⟩) hs
def afi(its:List au)(n j:Nat)(u:au):qm (·.setIfInBounds j u) {cls:=.type "list",data:=.seq its.toArray n}={cls:=.type "list",data:=.seq (its.set j u).toArray n}:=by
 simp[qm]
def aq.af{σ:St}(I:aq X ae σ H s)(h:H p=some (.af xs)):
  ∃its n,bd xs its/\s.heap.get? p=some {cls:=.type "list",data:=.seq its.toArray n}/\xs.length<=bh:=by
 obtain⟨z,its,n,r,e⟩:=I.aG p _ h;exact⟨its,n,r,e,z⟩
def aq.afj{σ:St}{its its':List au}(I:aq X ae σ H s)(h:H p=some (.af xs))
  (ho:s.heap.get? p=some {cls:=.type "list",data:=.seq its.toArray n})(hf:f {cls:=.type "list",data:=.seq its.toArray n}={cls:=.type "list",data:=.seq its'.toArray n'})(r:bd ys its')(hz:ys.length<=bh)(t:Nat):
  aq X ae σ (aa H p (.af ys)) {s with heap:=s.heap.update p f,toks:=t}:=by
 have e:(s.heap.update p f).get? p=some {cls:=.type "list",data:=.seq its'.toArray n'}:=by
  rw[o5 f ho (by rw[hf]<;>rfl),hf]
 refine I.qC (x:=p) (e:=p) (by rw[h];trivial) (.inl rfl) (λb u hb q=>(JU _ _ (qr hb)).trans q) ⟨_,e⟩ ?_;exact⟨hz,its',n',r,e⟩
inductive afk(o:V)(i:V)(v:V)(H:Hp)(Q:Hp->Prop):Prop|mk:∀p xs k j,o=.ref p->i=.int k->H p=some (.af xs)->nz xs.length k=some j->Q (aa H p (.af (xs.set j v)))->afk o i v H Q
def ye:LB X afk:=by
 intro ae s σ H o i v ov iv u Q I ro ri rv h;obtain⟨p,xs,k,j,rfl,rfl,hp,hj,q⟩:=h
 cases ro;obtain⟨t,rfl⟩:=ri;obtain⟨its,n,r,ho,hz⟩:=I.af hp;obtain⟨h1,h2,h3,h4⟩:=TV hj;have hl:=r.length;have hn:=x8;have I':aq X ae σ (aa H p (.af (xs.set j v))) {s with heap:=s.heap.update p (qm (·.setIfInBounds j u))}:=
  I.afj hp ho (afi its n j u) (r.set rv j) (by lk) s.toks
 by_cases h0:0<=k
 ·have hk:k.toNat=j:=by
   rw[Q2 h0 h4]at h1;exact bv h1
  exact PySem.W.ki_setAt ho h0 (by lia) (by lk) (by rw[hk];exact⟨_,I',q⟩)
 ·have hk:(k+(its.toArray.size:Int)).toNat=j:=by
   rw[Q0 (by lia) h3]at h1;lk
  exact PySem.W.ki_setBack ho (by lia) (by lk) (by lia) (by rw[hk];exact⟨_,I',q⟩)
def afl(lo hi:Option Int)(n:Nat):(Am lo hi none n).1=((HT.ka n 0 lo:Nat):Int)/\(Am lo hi none n).2.1=((HT.ka n n hi:Nat):Int)/\(Am lo hi none n).2.2=1:=by
 refine⟨?_,?_,rfl⟩
 ·cases lo with
  |none=>simp[Am,HT.ka]
  |some i=>
   simp only[Am,HT.ka,Option.getD_none,show(1:Int)>0 by room,if_true];fin2
 ·cases hi with
  |none=>simp[Am,HT.ka]
  |some i=>
   simp only[Am,HT.ka,Option.getD_none,show(1:Int)>0 by room,if_true];fin2
def afm(its:List au)(lo hi:Option Int):slicePick its.toArray lo hi none=((its.drop (HT.ka its.length 0 lo)).take (HT.ka its.length its.length hi-HT.ka its.length 0 lo)).toArray:=by
 obtain⟨h1,h2,h3⟩:=afl lo hi its.toArray.size;unfold slicePick;rw[h1,h2,h3];simp only[sliceRange_one,pick_run,FH]<;>rfl
inductive afn(K:aP)(x:V)(lo:Option Int)(hi:Option Int)(H:Hp)(Q:VK):Prop|mk:∀a xs,x=.ref a->aJ K H a xs->(∀p,H p=none->Q (.ref p) (aa H p (.af (k5 xs lo hi))))->afn K x lo hi H Q
def yf:TU X (afn X.K):=by
 intro ae s σ H x v vl vu lo hi sl Q I rx hs pl pu h;obtain⟨a,xs,rfl,hx,q⟩:=h
 cases rx;obtain⟨its,r,ht,hz⟩:=I.list hx;have cS:=r.length;exists "list",_,slot_list_getitem.lookup,ht.isList.typeIs;refine wpAny_getItem_list_slice ht.isList hs pl pu .none (by simp) ?_ (by lk);rw[afm,<-cS];refine⟨.ref s.heap.objs.size,_,I.laid (t':=s.toks) (o:=.af (k5 xs lo hi)) (λb ob q=>bH _ q) (aW _) ?_,rfl,q _ (I.aG.fresh (aW _))⟩;exact⟨gn (afe xs lo hi) hz,_,0,(r.drop (HT.ka xs.length 0 lo)).take (HT.ka xs.length xs.length hi-HT.ka xs.length 0 lo),cJ _ rfl⟩
inductive agY(K:aP)(xs:List V)(H:Hp)(Q:VK):Prop|mk:∀p ys,xs=[.ref p]->(aJ K H p ys\/c8 K H p ys)->Q (.int ys.length) H->agY K xs H Q
def eX:qH X (.builtin "len") (agY X.K):=by
 intro ae s σ H xs us Q I r h;obtain⟨p,ys,rfl,hq,q⟩:=h;obtain⟨u,rfl,rx⟩:=G3 r
 cases rx;have hn:=x8;rcases hq with hq|hq
 ·obtain⟨its,r',pl,hz⟩:=I.list hq;have cS:=r'.length;exact aq0 pl.isList (by fin2) ⟨.int ys.length,H,I.f_ _,⟨s.toks+1,by lk⟩,q⟩
 ·obtain⟨its,r',pl,hz⟩:=I.tuple hq;have cS:=r'.length;exact len_tuple pl (by fin2) ⟨.int ys.length,H,I.f_ _,⟨s.toks+1,by lk⟩,q⟩
def TX:qH X (.type "tuple") (λxs H Q=> ∃p ys,xs=[.ref p]/\((aJ X.K H p ys/\ ∀l,H l=none->Q (.ref l) (aa H l (.aE ys)))\/(c8 X.K H p ys/\Q (.ref p) H))):=by
 intro ae s σ H xs us Q I r h;obtain⟨p,ys,rfl,h⟩:=h;obtain⟨u,rfl,rx⟩:=G3 r
 cases rx;rcases h with⟨hq,q⟩|⟨hq,q⟩
 ·obtain⟨its,r',pl,hz⟩:=I.list hq;have cS:=r'.length;refine call_tuple_list pl.isList (λh' kp=>?_) (by lk);have I1:=I.dX (t':=s.toks) kp;have I2:aq X ae σ (aa H h'.objs.size (.aE ys)) {s with heap:=h'.push {cls:=.type "tuple",data:=.seq its.toArray}}:=
   I1.laid (t':=s.toks) (λb o e=>bH _ e) (aW _) (⟨hz,its,r',IsTup.new _ _⟩)
  exact⟨.ref h'.objs.size,_,I2,rfl,q _ (I1.aG.fresh (aW _))⟩
 ·obtain⟨its,r',pl,hz⟩:=I.tuple hq;exact call_tuple_same pl ⟨.ref p,H,I,rfl,q⟩
def TY(K:aP)(T:String)(x:V)(H:Hp):Prop:=match x with
 |.str _=>T="str"
 |.int _=>T="int"
 |.ref p=>(T="list" /\ ∃xs,aJ K H p xs)\/(T="tuple" /\ ∃o,K.lookup p=some o/\o.cls=.type "tuple" /\o.dict=none)\/(T="dict" /\((∃kvs,H p=some (.dK kvs))\/ ∃kvs,H p=some (.dT kvs)))\/(T="set" /\ ∃S n,H p=some (.set S n))
 |_=>False
def afo{ae:List (ag×Obj)}{σ:St}{H:Hp}{s:aR}{T:String}{x:V}{v:au}(I:aq X ae σ H s)(r:bJ x v)(ty:TY X.K T x H):
  s.TypeIs v T/\ ∀a,v=.ref a-> ∃ob,s.heap.get? a=some ob/\ob.dict=none:=by
 cases x with
 |str z=>
  obtain⟨t,rfl⟩:=r
  cases(ty);exact⟨typeIs_str s z t,λ_ e=>nomatch e⟩
 |int i=>
  obtain⟨t,rfl⟩:=r
  cases(ty);exact⟨acf s i t,λ_ e=>nomatch e⟩
 |ref p=>
  cases r;rcases ty with⟨rfl,xs,hq⟩|⟨rfl,o,hk,hc,hd⟩|⟨rfl,hk⟩|⟨rfl,S,n,hk⟩
  ·obtain⟨its,_,pl,_⟩:=I.list hq;refine⟨pl.isList.typeIs,λa e=>?_⟩
   cases e;obtain⟨o,n,e,c,hd,_⟩:=pl;exact⟨o,e,hd⟩
  ·refine⟨⟨o,I.kZ p o hk,hc⟩,λa e=>?_⟩
   cases e;exact⟨o,I.kZ _ o hk,hd⟩
  ·have z: ∃o,s.heap.get? p=some o/\o.ExactDict:=by
    rcases hk with⟨kvs,hk⟩|⟨kvs,hk⟩
    ·obtain⟨_,_,_,_,o,_,_,e,ex,_⟩:=I.aG p _ hk;exact⟨o,e,ex⟩
    ·obtain⟨_,_,_,_,o,_,_,e,ex,_⟩:=I.aG p _ hk;exact⟨o,e,ex⟩
   obtain⟨o,e,ex⟩:=z;refine⟨⟨o,e,ex.1⟩,λa e2=>?_⟩
   cases e2;exact⟨o,e,ex.2.1⟩
  ·obtain⟨o,_,_,_,e,ex,_⟩:=I.aG p _ hk;refine⟨⟨o,e,ex.1⟩,λa e2=>?_⟩
   cases e2;exact⟨o,e,ex.2.1⟩
 |_=>exact lG ty
def tBM(K:aP)(T:String)(r:V->List V->Hp->VK->Prop)(to:TE)(t:TA):TE:=fun σ H Q=>to σ H λx H1=>TY K T x H1/\t σ H1 λxs H2=>r x xs H2 Q
variable{o e:Expr}{es:List Expr}{to:TE}{t:TA}{name:Str}{fT fU:Pos}{T id:String}{r:V->List V->Hp->VK->Prop}
def ic(pa:PlainAttrs T)(slot:Slot T name id)(hty:typeOf (.builtin id)=pure (.type "method_descriptor"))(hm:MtR X id r)(ho:PE X o to)(ha:PA X (e::es) t)
  (vP:autoParam (xr o name X.ai (eval o X.ai)=eval o X.ai) zA._auto_1)
  (sx:autoParam (((gp fU (bV (e::es) X.ai)).all (λx=>!x.1)&&(Ra fU (Q3 [] X.ai)).all (λx=>x.1.isSome) &&decide ((e::es).length+([]:List Rj).length+(if([]:List Rj).isEmpty then 0 else 1)<30))=true) zA._auto_1)
  (sy:autoParam ((fT.endLine==fU.line)=true) zA._auto_1)(hs:autoParam (bV (e::es) X.ai=(false,eval e X.ai)::bV es X.ai) zA._auto_1)(as9:autoParam ((gp fU (bV es X.ai)).any (·.1)=false) zA._auto_1):
  PE X (.Call (.Attribute o name fT) (e::es) [] fU) (tBM X.K T r to t):=by
 intro ae s σ H Q I h;refine wpAny_Call_method_late vP sx sy rfl (aQ (ho ae s σ H _ I h) λv s1⟨x,H1,I1,r1,ty,q1⟩=>?_);obtain⟨h1,h2⟩:=afo I1 r1 ty;exists T,id,pa,slot,hty,h1,h2;have hA:=ha fU ae s1 σ H1 _ I1 q1;rw[hs]at hA⊢;refine aa3 (by assumption) (abd ?_);exact aQ hA λus s2⟨vs,H2,I2,r2,q2⟩=>hm ae s2 σ H2 x vs v us Q I2 r1 r2 q2
end
def TZ(X:Cx)(id:String)(r:V->List V->Hp->VK->Prop):Prop:=
 ∀ae s(σ:St) H x xs v us Q,aq X ae σ H s->bJ x v->bd xs us->r x xs H Q->wpAny (model X.prog X.w) X.A (call (.builtin id) (v::us)) (EP X ae σ Q) X.xe s
def bd.jP: ∀{x:V}{us:List au},bd [x] us-> ∃u,us=[u]/\bJ x u
 |_,_,.cons r .nil=>⟨_,rfl,r⟩
theorem bd.GJ{xs:List V}{us:List au}(h:bd xs us): ∀k:Nat,bd (cu k xs).flatten (cu k us).flatten
 |0=>.nil
 |k+1=>by
  rw[tF,tF,xj,xj];exact bd.append h (bd.GJ h k)
theorem T0(its:List au): ∀k ap,
  asO (λx1 x2=>x1++x2) ap.toArray (cu k its.toArray)=(ap++(cu k its).flatten).toArray
 |0,ap=>by simp
 |k+1,ap=>by
  have e:ap.toArray++its.toArray=(ap++its).toArray:=by simp
  have e2:(ap++its)++(cu k its).flatten=ap++(cu (k+1) its).flatten:=by
   rw[tF,xj,z7]
  rw[<-e2,<-T0 its k (ap++its),<-e,tF,List.foldl_cons]
section
variable{X:Cx}{ae:List (ag×Obj)}{σ:St}{H:Hp}{s:aR}{l b:ag}{xs ys zs:List V}
def aq.T1{its its':List au}(I:aq X ae σ H s)(hH:H l=some (.af xs))
  (e:s.heap.get? l=some {cls:=.type "list",data:=.seq its.toArray n})(hf:f its.toArray=its'.toArray)(hv:bd ys its')(hz:ys.length<=bh):
  aq X ae σ (aa H l (.af ys)) {s with heap:=s.heap.update l (qm f),toks:=t'}:=by
 have q:=aux e f;rw[hf]at q;refine I.qC (x:=l) (e:=l) (by rw[hH];exact trivial) (.inl rfl) (λb' u hb hu=>(JU s.heap (qm f) (qr hb)).trans hu) ⟨_,q⟩ ?_;exact⟨hz,its',_,hv,q⟩
def aq.T3(I:aq X ae σ H s)(hv:bd ys its)(hz:ys.length<=bh):
  aq X ae σ (aa H s.heap.objs.size (.af ys)) {s with heap:=s.heap.push {cls:=.type "list",data:=.seq its.toArray},toks:=t'}:=
 I.laid (λ_ _ q=>bH _ q) (aW _) ⟨hz,its,0,hv,cJ _ rfl⟩
def aq.fresh(I:aq X ae σ H s):H s.heap.objs.size=none:=I.aG.fresh (aW _)
def aq.yg(I:aq X ae σ H s)(hH:H l=some (.af xs)):xs.length<=bh/\ ∃its n,bd xs its/\xs.length=its.length/\s.heap.get? l=some {cls:=.type "list",data:=.seq its.toArray n}:=by
 obtain⟨z,its,n,r,e⟩:=I.aG l _ hH;exact⟨z,its,n,r,r.length,e⟩
def T4(h:n<=bh):aaV n=false:=by
 exact decide_eq_false (by lia)
end
section
variable{X:Cx}
inductive afp(x:V)(vs:List V)(H:Hp)(Q:VK):Prop|mk:∀l xs y,x=.ref l->vs=[y]->H l=some (.af xs)->xs.length<bh->Q .aX (aa H l (.af (xs++[y])))->afp x vs H Q
def jy:TZ X "list.append" afp:=by
 intro ae s σ H x vs v us Q I rx rv h;obtain⟨l,xs,y,rfl,rfl,hH,hz,q⟩:=h
 cases rx;obtain⟨u,rfl,ru⟩:=rv.jP;obtain⟨z,its,n,r,hl,e⟩:=I.yg hH;refine Q9 jJ ⟨_,e,rfl⟩ F.entry_list_append (F.args_list_append_2 _ _) (PySem.list_append l its.toArray n u (by lk)) ⟨e,.aX,_,I.T1 (its':=its++[u]) hH e (by simp) (r.append (.cons ru .nil)) ?_,rfl,q⟩
 rw[dS,zW]
 lia
inductive afq(x:V)(vs:List V)(H:Hp)(Q:VK):Prop|mk:∀l b xs zs,x=.ref l->vs=[.ref b]->H l=some (.af xs)->H b=some (.af zs)->xs.length+zs.length<=bh->Q .aX (aa H l (.af (xs++zs)))->afq x vs H Q
def G9:TZ X "list.extend" afq:=by
 intro ae s σ H x vs v us Q I rx rv h;obtain⟨l,b,xs,zs,rfl,rfl,hH,hB,hz,q⟩:=h
 cases rx;obtain⟨u,rfl,ru⟩:=rv.jP
 cases ru;obtain⟨z,its,n,r,hl,e⟩:=I.yg hH;obtain⟨z2,kc,n2,r2,ed,e2⟩:=I.yg hB;have hsz:its.toArray.size+kc.toArray.size<=bh:=by lk
 have L4:¬(!its.toArray.isEmpty&&aaV (its.toArray.size+kc.toArray.size))=true:=by
  rw[T4 hsz,Bool.and_false];exact ik
 refine Q9 JS ⟨_,e,rfl⟩ F.entry_list_extend (F.args_list_extend_2 _ _)
  (AutoSeq1.list_extend_list_list_0 l its.toArray n b kc.toArray n2 L4 (by lia) (by lia)) ⟨e,e2,?_⟩
 refine⟨.aX,_,I.T1 (its':=its++kc) hH e (by simp) (r.append r2) ?_,rfl,q⟩;lk
inductive afr(x:V)(y:V)(H:Hp)(Q:VK):Prop|mk:∀l b xs zs,x=.ref l->y=.ref b->H l=some (.af xs)->H b=some (.af zs)->xs.length+zs.length<=bh->(∀p,H p=none->Q (.ref p) (aa H p (.af (xs++zs))))->afr x y H Q
def yh:eB X (qp .Add) afr:=by
 intro ae s σ H x y v u Q I rx ry h;obtain⟨l,b,xs,zs,rfl,rfl,hH,hB,hz,q⟩:=h
 cases rx
 cases ry;obtain⟨z,its,n,r,hl,e⟩:=I.yg hH;obtain⟨z2,kc,n2,r2,ed,e2⟩:=I.yg hB;refine PySem.P.add_list e e2 ?_ (by lk);have ea:its.toArray++kc.toArray=(its++kc).toArray:=by simp
 rw[ea];exact⟨.ref _,_,I.T3 (t':=s.toks) (r.append r2) (by lk),rfl,q _ I.fresh⟩
inductive afs(x:V)(y:V)(H:Hp)(Q:VK):Prop|mk:∀l k xs,x=.ref l->y=.int k->H l=some (.af xs)->-(2^63)<=k->k<2^63->xs.length*k.toNat<=bh->(∀p,H p=none->Q (.ref p) (aa H p (.af (cu k.toNat xs).flatten)))->afs x y H Q
def aft{α:Type}(xs:List α)(k:Nat):(cu k xs).flatten.length=k*xs.length:=by
 induction k with
 |zero=>simp
 |succ k ih=>rw[tF,xj,dS,ih,ab4,ab5]
def G_:eB X (qp .Mult) afs:=by
 intro ae s σ H x y v u Q I rx ry h;obtain⟨l,k,xs,rfl,rfl,hH,h1,h2,hz,q⟩:=h
 cases rx;obtain⟨t,rfl⟩:=ry;obtain⟨z,its,n,r,hl,e⟩:=I.yg hH;have cS:its.toArray.size*k.toNat<=bh:=by lk
 have afu:¬its.toArray.size*k.toNat>(2^63-1)/8:=by
  have:(bh:Nat)<=(2^63-1)/8:=by room
  lia
 have T5:¬(!aun k)=true:=by
  rw[fitsIndex_both h1 h2];exact ik
 have L4:¬aaV (its.toArray.size*k.toNat)=true:=by
  rw[T4 cS];exact ik
 have pT:asO (λx1 x2=>x1++x2) #[] (cu (if its.toArray.isEmpty=true then 0 else k.toNat) its.toArray)=(cu k.toNat its).flatten.toArray:=by
  have f0:=λm=>by
   have:=T0 its m [];rw[J']at this;exact this
  rw[f0]
  cases its with
  |nil=>simp
  |cons a r'=>rw[if_neg (by simp)]
 refine wpAny_binaryOp_repeat_ref (T:="list") (U:="int") (by room) ⟨_,e,rfl⟩ (λs'=>acf s' k t) noFill_list_mul F.fills_int_mul asu repeat_list F.slot_int_index.lookup
  (Q9 asu (acf s k t) F.entry_int_rmul (F.args_int_rmul_2 _ _) (int___rmul___int_list k t l its.toArray n) ⟨e,rfl,⟨_,e,rfl⟩,Q9 F.slot_list_mul ⟨_,e,rfl⟩ F.entry_list_mul (F.args_list_mul_2 _ _) (auz l its.toArray n k t T5 afu L4) ⟨e,?_⟩⟩)
 rw[pT];exact⟨.ref _,_,I.T3 (t':=s.toks) (r.GJ k.toNat) (by rw[aft,QW];exact hz),rfl,q _ I.fresh⟩
end
theorem bd.ints: ∀{ns:List Int}{us:List au},bd (ns.map V.int) us->FZ us ns
 |[],us,h=>by
  cases h;exact IntsAre.nil
 |n::ns,us,h=>by
  cases h with
  |cons r t=>
   obtain⟨k,rfl⟩:=r;exact IntsAre.cons n k (bd.ints t)
theorem G': ∀{us:List au}{ns:List Int},FZ us ns->bd (ns.map V.int) us
 |_,_,.nil=>by rw[abX];exact Paired.nil
 |_,_,.cons n t h=>by rw[gF];exact Paired.cons (⟨t,rfl⟩) (G' h)
def bd.vQ(r:bd [V.ref a] us):us=[dA a]:=by
 cases r with
 |cons r t=>
  cases t
  cases r;rfl
abbrev T6(h:Heap)(c:ag)(v:Option au):Prop:=h.IsCell c v
noncomputable def afv(scope sc:Scope):Scope:=
 {scope with names:=scope.names.map λ(n,k)=>if(k==.free&&sc.kind==.function&&sc.names.lookup n==some .cell)then(n,.cell)else(n,k)}
noncomputable def iK(cells:List (Str×ag)):List (Str×mU)->List (Str×ag)->List (Str×ag)
 |[],ap=>ap
 |(n,k)::r,ap=>if k==.free then iK cells r ((n,(cells.lookup n).getD 0)::ap)else iK cells r ap
theorem T7(ai:Env)(f:Str×mU->List (Str×ag)->Sem (ForInStep (List (Str×ag))))
  (hf: ∀n k c,f (n,k) c=if k==.free then(do let a<-cellOf ai n;pure (.yield ((n,a)::c)))else pure (.yield c)):
  ∀names ap,(∀y∈names,y.2=.free-> ∃c,ai.cells.lookup y.1=some c)->forIn names ap f=pure (iK ai.cells names ap)
 |[],ap,_=>by rw[xo];rfl
 |(n,k)::r,ap,h=>by
  rw[z9,hf];have ih:=λap=>T7 ai f hf r ap λy hy=>h y (e5 _ hy);unfold iK;by_cases hk:(k==arw)=true
  ·rw[if_pos hk,if_pos hk];obtain⟨c,hc⟩:=h (n,k) eG (by simpa using hk);have e:cellOf ai n=pure c:=by unfold cellOf;rw[hc]
   lk
  ·lk
def afw(h: ∀y∈scope.names,y.2=.free-> ∃c,ai.cells.lookup y.1=some c):closureFor scope ai=pure (iK ai.cells scope.names []):=by
 simp only[closureFor];rw[T7 ai _ (λn k c=>rfl) scope.names [] h];rfl
theorem L5{α:Type}: ∀{l:List (Str×α)}{n:Str}{c:α},(n,c)∈l-> ∃c',l.lookup n=some c'
 |(k,v)::r,n,c,h=>by
  rw[FK]
  cases hb:n==k with
  |true=>exact⟨_,rfl⟩
  |false=>
   rcases cO.mp h with e|h
   ·cases e;simp at hb
   ·exact L5 h
theorem Ha{cells:List (Str×ag)}: ∀{names:List (Str×mU)}{ap:List (Str×ag)}{n:Str}{c:ag},(n,c)∈iK cells names ap->(n,c)∈ap\/((n,.free)∈names/\c=(cells.lookup n).getD 0)
 |[],_,_,_,h=>.inl h
 |(m,k)::r,ap,n,c,h=>by
  unfold iK at h;split at h
  ·rename_i hk;have hk:k=.free:=by simpa using hk
   rcases Ha h with h|⟨h1,h2⟩
   ·fin2
   ·fin2
  ·rcases Ha h with h|⟨h1,h2⟩
   ·exact .inl h
   ·fin2
theorem L6{cells:List (Str×ag)}: ∀{names:List (Str×mU)}{ap:List (Str×ag)}{p:Str×ag},p∈ap->p∈iK cells names ap
 |[],_,_,h=>h
 |(m,k)::r,ap,p,h=>by
  unfold iK;split
  ·exact L6 (e5 _ h)
  ·exact L6 h
theorem L7{cells:List (Str×ag)}: ∀{names:List (Str×mU)}{ap:List (Str×ag)}{n:Str},(n,.free)∈names->(n,(cells.lookup n).getD 0)∈iK cells names ap
 |(m,k)::r,ap,n,h=>by
  unfold iK;rcases cO.mp h with e|h
  ·cases e;exact L6 eG
  ·split
   ·exact L7 h
   ·exact L7 h
theorem Bo: ∀{names:List (Str×mU)}{h:Heap}{ap:List (Str×ag)}{x:Str}{c:ag},(x,c)∈jm h.objs.size names ap->(x,c)∈ap\/((x,.cell)∈names/\h.objs.size<=c/\T6 (xw h names) c none)
 |[],_,_,_,_,h=>.inl h
 |(n,k)::r,h,ap,x,c,hm=>by
  unfold jm at hm;unfold xw;split at hm
  ·rename_i hk;rw[if_pos hk];have hk:k=.cell:=by simpa using hk
   rw[<-jh h {cls:=.type "cell",data:=.cell none}]at hm;rcases Bo hm with hm|⟨h1,h2,h3⟩
   ·rcases cO.mp hm with e|hm
    ·cases e;exact .inr ⟨hk▸eG,aW _,_,QS r _ _ _ (cJ _ rfl),rfl⟩
    ·exact .inl hm
   ·rw[jh]at h2
    exact .inr ⟨e5 _ h1,Nat.le_of_succ_le h2,h3⟩
  ·rename_i hk;rw[if_neg hk];rcases Bo hm with hm|⟨h1,h2,h3⟩
   ·exact .inl hm
   ·lk
theorem Hb: ∀{names:List (Str×mU)}{n:Nat}{ap:List (Str×ag)}{p:Str×ag},p∈ap->p∈jm n names ap
 |[],_,_,_,h=>h
 |(m,k)::r,n,ap,p,h=>by
  unfold jm;split
  ·exact Hb (e5 _ h)
  ·exact Hb h
theorem L8: ∀{names:List (Str×mU)}{n:Nat}{ap:List (Str×ag)}{x:Str},(x,.cell)∈names-> ∃c,(x,c)∈jm n names ap
 |(m,k)::r,n,ap,x,h=>by
  unfold jm;rcases cO.mp h with e|h
  ·cases e;exact⟨n,Hb eG⟩
  ·split
   ·exact L8 h
   ·exact L8 h
theorem L9: ∀{names:List (Str×mU)}{h:Heap}{ap:List (Str×ag)}{x y:Str}{c:ag},(∀p∈ap,p.2<h.objs.size)->(∀x y c,(x,c)∈ap->(y,c)∈ap->x=y)->(x,c)∈jm h.objs.size names ap->(y,c)∈jm h.objs.size names ap->x=y
 |[],_,_,_,_,_,_,hi,h1,h2=>hi _ _ _ h1 h2
 |(n,k)::r,h,ap,x,y,c,hl,hi,h1,h2=>by
  unfold jm at h1 h2;split at h1
  ·rename_i hk;rw[if_pos hk]at h2;rw[<-jh h {cls:=.type "cell",data:=.cell none}]at h1 h2;refine L9 (h:=h.push _) (λp hp=>?_) (λx y c a b=>?_) h1 h2
   ·rw[jh];fin2
   ·fin2
  ·rename_i hk;rw[if_neg hk]at h2;exact L9 hl hi h1 h2
def afx{code:au}
  (h:Q (newEnv scope s.heap.objs.size globals (jm (s.heap.objs.size+1) scope.names closure) qual func code (some afy) builtins) {s with heap:=xw (s.heap.push {cls:=.type "dict",data:=.dict #[]}) scope.names}):
  wpAny M A (asR scope globals closure [] qual func code (some afy) builtins) Q E s:=by
 simp only[asR,Option.isSome_some,if_true];refine ah (wpAny_alloc ?_);refine ah (wpAny_layCells _ (λn k c=>rfl) scope.names closure _ _ ?_);rw[jh ..,xo];exact ah (az (az h))
theorem L_{sc:Scope}: ∀{names:List (Str×mU)}{x:Str}{k:mU},
  (names.map λ(n,k)=>if(k==arw&&sc.kind==.function&&sc.names.lookup n==some .cell)then(n,NameKind.cell)else(n,k)).lookup x=some k->∃k',names.lookup x=some k'/\(k=k'\/(k'=.free/\k=.cell))
 |[],_,_,h=>by simp at h
 |(n,as_)::r,x,k,h=>by
  have ih:=@L_ sc r x k;have h':=h
  cases hx:x==n with
  |true=>
   fin2
  |false=>
   fin2
structure Bq(N:List Str)(sc scope:Scope)(bz:List (Str×Nat)):Prop where
 kind:scope.kind=.function
 Ma: ∀y∈scope.names,scope.names.lookup y.1=some y.2
 ix: ∀p∈bz,N[p.2]?=some p.1
 free: ∀y∈scope.names,y.2=.free->sc.names.lookup y.1=some .cell\/sc.names.lookup y.1=some .free
 bz: ∀y∈scope.names,y.2=.local\/y.2=.cell->y.1∈bz.map (·.1)\/y.1∉N
def cF(σ:St):aj->St
 |[]=>σ
 |v::vs=>(cF σ vs).set v none
theorem Mb(σ:St): ∀vs:aj,(cF σ vs).length=σ.length
 |[]=>rfl
 |v::vs=>by unfold cF;rw[mN,Mb σ vs]
theorem Md{σ:St}{i:Nat}{x:V}: ∀{vs:aj},(cF σ vs)[i]?=some (some x)->σ[i]?=some (some x)/\i∉vs
 |[],h=>⟨h,by simp⟩
 |v::vs,h=>by
  unfold cF at h;by_cases hi:v=i
  ·fin2
  ·rw[abe hi]at h;obtain⟨h1,h2⟩:=Md h
   exact⟨h1,by simp only[cO,not_or];exact⟨fun e=>hi e.symm,h2⟩⟩
noncomputable abbrev Cx.jz(X:Cx)(s:aR)(H:Hp)(scope:Scope)(iL:Env)(fp:bp):Cx:={X with i6:=s,vA:=H,ai:=iL,aY:=X.jR,ex:=fp,fn:=λx=>scope.names.lookup x==some .cell,pn:=[],xe:=λ_ _=>False}
section
variable{X:Cx}{ae:List (ag×Obj)}{σ:St}{H:Hp}{s:aR}
def afz(I:aq X ae σ H s)(ok:Bq X.N X.ai.scope scope bz)(hN:X.N.Nodup)(Br: ∀b∈fp,oq X ae H b/\b<s.heap.objs.size):
  aq (X.jz s H scope (o_ scope (jm (s.heap.objs.size+1) scope.names (iK X.ai.cells scope.names [])) s.heap.objs.size X.ai) fp) [] (cF σ (bz.map (·.2))) H {s with heap:=xw (s.heap.push {cls:=.type "dict",data:=.dict #[]}) scope.names}:=by
 have GO: ∀y∈scope.names,y.2=.free-> ∃c,X.ai.cells.lookup y.1=some c:=λy hy e=>by
  rcases ok.free y hy e with k|k
  ·exact I.ok.has _ (.inl k)
  ·exact I.ok.has _ (.inr k)
 generalize Bu:o_ scope (jm (s.heap.objs.size+1) scope.names (iK X.ai.cells scope.names [])) s.heap.objs.size X.ai=iL;have kp: ∀b o,s.heap.get? b=some o->(xw (s.heap.push {cls:=.type "dict",data:=.dict #[]}) scope.names).get? b=some o:=λb o e=>QS _ _ _ _ (bH _ e);have hL:iL.locals=s.heap.objs.size:=by rw[<-Bu];rfl
 have gg:iL.cells=jm (s.heap.objs.size+1) scope.names (iK X.ai.cells scope.names []):=by rw[<-Bu];rfl
 have Me:iL.scope=afv scope X.ai.scope:=by rw[<-Bu];rfl
 rw[<-jh s.heap {cls:=.type "dict",data:=.dict #[]}]at gg;have cm: ∀{y c},(y,c)∈iK X.ai.cells scope.names []->X.ai.cells.lookup y=some c/\c<s.heap.objs.size:=λ{y c}hm=>by
  rcases Ha hm with hm|⟨h1,rfl⟩
  ·cases hm
  ·obtain⟨c,hc⟩:=GO _ h1 rfl;rw[hc];obtain⟨w,z⟩:=I.cell _ _ hc;exact⟨rfl,z.lt⟩
 have mem: ∀{y c},iL.cells.lookup y=some c->(X.ai.cells.lookup y=some c/\c<s.heap.objs.size)\/(s.heap.objs.size+1<=c/\T6 (xw (s.heap.push {cls:=.type "dict",data:=.dict #[]}) scope.names) c none):=λ{y c}e=>by
  rw[gg]at e;rcases Bo (mM e)with hm|⟨_,h2,h3⟩
  ·exact .inl (cm hm)
  ·lk
 have db: ∀{y},scope.names.lookup y=some .free-> ∃c,iL.cells.lookup y=some c/\X.ai.cells.lookup y=some c:=λ{y}hl=>by
  have hy:=mM hl;obtain⟨c',e'⟩:=L5 (Hb (names:=scope.names) (n:=(s.heap.push {cls:=.type "dict",data:=.dict #[]}).objs.size) (L7 (cells:=X.ai.cells) (ap:=[]) hy));rw[<-gg]at e';exists c',e';rw[gg]at e';rcases Bo (mM e')with hm|⟨h1,_,_⟩
  ·exact(cm hm).1
  ·have:=ok.Ma _ h1;rw[hl]at this;cases this
 have okB:(X.jz s H scope iL fp).Ok:=by
  refine⟨I.ok.jr,by show iL.scope.kind=_;rw[Me];exact ok.kind,by show iL.globals=_;rw[<-Bu];exact I.ok.r_,by show iL.builtins=_;rw[<-Bu];exact I.ok.xU,by lk,
   λy z c e1 e2=>?_,λy hy=>?_,λy c z e=>?_,I.ok.hd,I.ok.frames,.inl rfl,λb hb=>⟨?_,λy c e z=>?_⟩,I.bs,gn I.ok.qD I.sz,λb o e hb=>?_,λb hb z=>?_,I.jR,I.SV⟩
  ·have e1:=e1;have e2:=e2;rw[gg]at e1 e2;refine L9 (λp hp=>?_) (λy z c a b=>I.ok.inj y z c (cm a).1 (cm b).1) (mM e1) (mM e2);rw[jh]
   exact arK (cm (y:=p.1) (c:=p.2) hp).2
  ·show∃c,iL.cells.lookup y=some c;have key: ∀k,iL.kindOf y=some k->(k=.cell\/k=.free)-> ∃c,iL.cells.lookup y=some c:=λk hk kP=>by
    unfold Env.kindOf at hk;rw[Me]at hk;obtain⟨k',e,r⟩:=L_ hk;have:k'=.cell\/k'=.free:=by
     fin2
    rcases this with rfl|rfl
    ·obtain⟨c,hm⟩:=L8 (n:=(s.heap.push {cls:=.type "dict",data:=.dict #[]}).objs.size) (ap:=iK X.ai.cells scope.names []) (mM e);obtain⟨c',e'⟩:=L5 hm;lk
    ·fin2
   fin2
  ·have z:=z;have z:scope.names.lookup y=some .cell:=by simpa using z
   have e:=e;rw[gg]at e;rcases Bo (mM e)with hm|⟨_,h2,_⟩
   ·rcases Ha hm with hm|⟨h1,_⟩
    ·cases hm
    ·have q:=ok.Ma _ h1;rw[z]at q;cases q
   ·rw[jh]at h2
    exact Nat.le_of_succ_le h2
  ·show b≠iL.locals
   rw[hL];exact d7 (Br b hb).2
  ·have e:=e;rcases mem e with⟨h1,_⟩|⟨h1,_⟩
   ·exact(Br b hb).1.2.2.2.2.1 y c h1 z
   ·fin2
  ·rcases(Br b hb).1.2.2.2.1 with z|z
   ·exact I.ok.A6 b o e z
   ·exact absurd (iC (bO e) (gn I.ok.qD z)) (xp _)
  ·rcases cO.mp (I.Lr b z)with z|z
   ·exact(Br b hb).1.2.1 z
   ·exact(Br b hb).1.2.2.1 z
 refine⟨okB,rfl,I.gV,Un.dX kp,⟨λ_=>none,?_,λi y av e1 e2 e3=>?_⟩,λy c e=>?_,?_,λy c e=>?_,λp hp=>?_,I.aG.dX kp,by rw[Mb];exact I.len⟩
 ·show Heap.Ns _ iL.locals _;rw[hL];exact Heap.Ns.keeps (Heap.Ns.new ..) λb o e=>QS _ _ _ _ e
 ·obtain⟨e2,hne⟩:=Md e2;have yj:scope.names.lookup y=some .free/\(iL.kindOf y=some .cell\/iL.kindOf y=some .free):=by
   have key: ∀k,iL.scope.names.lookup y=some k->k=.local\/k=.cell\/k=.free->scope.names.lookup y=some .free/\(iL.kindOf y=some .cell\/iL.kindOf y=some .free):=λk hk kP=>by
    have ou:=hk;rw[Me]at hk;obtain⟨k',e,r⟩:=L_ hk;have no:¬(k'=.local\/k'=.cell):=λhh=>by
     rcases ok.bz _ (mM e) hh with e'|e'
     ·obtain⟨p,hp,hpy⟩:=cQ.mp e';have e3:=ok.ix p hp;have:=hpy;rw[this]at e3;exact hne (cQ.mpr ⟨p,hp,Lx hN e3 e1⟩)
     ·exact e' (eF e1)
    rcases r with rfl|⟨rfl,rfl⟩
    ·rcases kP with rfl|rfl|rfl
     ·lk
     ·lk
     ·exact⟨e,.inr ou⟩
    ·exact⟨e,.inl ou⟩
   have e3:=e3;rcases e3 with e3|e3|e3
   ·exact key _ e3 (.inl rfl)
   ·lk
   ·lk
  obtain⟨m,hn,hl⟩:=I.jt;have afA:A3 X.ai.scope y:=(ok.free _ (mM yj.1) rfl).elim (λk=>.inr (.inl k)) (λk=>.inr (.inr k));obtain⟨w,r,q⟩:=hl i y av e1 e2 afA;refine⟨w,r,.inr ⟨yj.2,?_⟩⟩;obtain⟨c,h1,h2⟩:=db yj.1;rcases q with⟨k,_⟩|⟨_,c',e',z⟩
  ·have k:X.ai.scope.names.lookup y=some .local:=k;rcases ok.free _ (mM yj.1) rfl with k'|k'<;>rw[k']at k<;>cases k
  ·rw[h2]at e';cases e';exact⟨c,h1,z.keeps kp⟩
 ·have e:=e;rcases mem e with⟨h1,_⟩|⟨_,z⟩
  ·obtain⟨w,z⟩:=I.cell y c h1;exact⟨w,z.keeps kp⟩
  ·exact⟨_,z⟩
 ·show H iL.locals=none;rw[hL];exact I.aG.fresh (aW _)
 ·have e:=e;rcases mem e with⟨h1,_⟩|⟨h1,_⟩
  ·exact I.l_ y c h1
  ·exact I.aG.fresh (Nat.le_of_succ_le h1)
 ·lk
def afB(I:aq X ae σ H s)(hD:H D=some (.af xs))(hz:xs.length<bh)(r:bJ y v)
  (h: ∀s',aq X ae σ (aa H D (.af (xs++[y]))) s'->Q .none s'):wpAny (model X.prog X.w) X.A (call (.builtin "list.append") [.ref D,v]) Q E s:=by
 obtain⟨rX,its,n,ri,e⟩:=I.aG D _ hD;have hl:=ri.length;refine append_at (hsz:=by lk) e λh' sb ju=>h {s with heap:=h'} (I.qC (t':=s.toks) (by rw[hD];trivial) (.inl rfl) (λb u hb q=>(sb.2 b hb).trans q) ⟨_,ju⟩ ⟨by fin2,its++[v],n+1,ri.append (.cons r .nil),?_⟩);rw[ju];simp
def Bv(X:Cx)(ifs:List Expr)(t:TT):Prop:=
 ∀ae s(σ:St) H Q,aq X ae σ H s->t σ H Q->wpAny (model X.prog X.w) X.A (forIn ifs true λc r=>if r=true then do let ok<-Kx c X.ai (eval c X.ai);pure (QA ok)else pure (QA r)) (TP X ae σ Q) X.xe s
def T8:TT:=λ_ H Q=>Q true H
def i7:Bv X [] T8:=λ_ _ _ H _ I h=>wpAny_tests_nil ⟨H,I,h⟩
def Hc(h:PT X c t):Bv X [c] t:=λae s σ H Q I hw=>wpAny_tests_one (h ae s σ H Q I hw)
end
def yk{α:Type}{t:Sem α}{Q Q':α->aR->Prop}(h:wpAny M A t Q (λ_ _=>False) s)(hQ: ∀a s,Q a s->Q' a s):wpAny M A t Q' E s:=mR h hQ λ_ _ z=>lG z
def afC{prog:bj}{w:a_}{A:eJ}{R:Kz->aR->Prop}{s:aR}{elt target iter:Expr}{ifs:List Expr}{scope:Scope}{pos:Pos}{it ap:au}{ai:Env}(I:Nat->aR->Prop)
  (vE: ∀n s,I n s->wpAny (model prog w) A (j5 it) (λr c7=>match r with
   |none=>R (.ok .next) c7
   |some v=>wpAny (model prog w) A (abR target it v) (λ_ T9=>wpAny (model prog w) A (Ky target ai v) (λ_ m_=>
     wpAny (model prog w) A (forIn ifs true λc r=>if r=true then do let ok<-Kx c ai (eval c ai);pure (QA ok)else pure (QA r)) (λok t9=>
      if ok=true then wpAny (model prog w) A (eval elt ai) (λx T_=>
       wpAny (model prog w) A (call (.builtin "list.append") [ap,x]) (λ_ T'=> ∃m,m<n/\I m T') (FW (model prog w) A ai λe s'=>R (.error e) s') T_) (FW (model prog w) A ai λe s'=>R (.error e) s') t9
      else∃m,m<n/\I m t9) (FW (model prog w) A ai λe s'=>R (.error e) s') m_) (FW (model prog w) A ai λe s'=>R (.error e) s') T9) (FW (model prog w) A ai λe s'=>R (.error e) s') c7) (FW (model prog w) A ai λe s'=>R (.error e) s') s)
  (n:Nat)(h:I n s):
  ph (model prog w) A (.compLoop (.ListComp elt [⟨target,iter,ifs,0⟩] scope pos) 0 it ap ai) R s:=by
 refine codeAny_loop rfl I (λn s hI=>?_) n h;refine wpAny_noted ?_;rw[compTurn_list];refine ah (Kg (ah (mR (vE n s hI) (λr c7 h₁=>?_) λ_ _ h'=>h')))
 cases r with
 |none=>exact az h₁
 |some v=>
  refine ah (mR h₁ (λ_ T9 afD=>?_) λ_ _ h'=>h');refine ah (mR afD (λ_ m_ vR=>ah (mR vR (λok t9 ud=>?_) λ_ _ h'=>h')) λ_ _ h'=>h')
  cases ok with
  |false=>exact az ⟨rfl,ud⟩
  |true=>
   exact ah (ah (mR ud (λx T_ Ua=>ah (mR Ua (λ_ T' Mf=>az (az ⟨rfl,Mf⟩)) λ_ _ h'=>h')) λ_ _ h'=>h'))
section
variable{X:Cx}
inductive ApI(D:ag)(N:Hp->Prop)(y:V)(H:Hp):Prop|mk:∀ap,H D=some (.af ap)->ap.length<bh->N (aa H D (.af (ap++[y])))->ApI D N y H
def LcS(g:TG)(tt:TT)(te:TE)(vs:aj)(σ:St)(D:ag)(N:Hp->Prop)(x:V)(H:Hp):Prop:=g x (cF σ vs) H fun be H2=>cF be vs=cF σ vs/\tt be H2 λb H3=>if b=true then te be H3 (ApI D N) else N H3
inductive MgI(g:TG)(tt:TT)(te:TE)(vs:aj)(σ:St)(Qd:Hp->Prop)(J:It)(D:ag)(H1:Hp):Prop|mk:∀W:Nat->Nat->Hp->Prop,(∃m,W 0 m (aa H1 D (.af [])))->(∀i m H,W i m H->(J.iJ i H/\Qd H)\/(J.go i H/\ ∃N:Hp->Prop,(∀H',N H'-> ∃m',m'<m/\W (i+1) m' H')/\ ∀x H',J.j_ i H x H'->LcS g tt te vs σ D N x H'))->MgI g tt te vs σ Qd J D H1
def Mg(wi:TI)(g:TG)(tt:TT)(te:TE)(vs:aj):TE:=fun σ H Q=>wi σ H λJ H1=> ∀D,H1 D=none->MgI g tt te vs σ (Q (.ref D)) J D H1
def Ub{ae:List (ag×Obj)}{s:aR}{σ:St}{H:Hp}{Q:VK}{elt tg iter:Expr}{ifs:List Expr}{scope:Scope}{bz:List (Str×Nat)}{pos ma:Pos}{wi:TI}{g:TG}{tt:TT}{te:TE}{use:Option (au->Sem Unit)}{Qf:au->aR->Prop}
  (hc:X.jS=true)(hN:X.N.Nodup)(I:aq X ae σ H s)(hi:PI X tg iter wi)(ok:Bq X.N X.ai.scope scope bz)
  (hg: ∀s H C cl fp,PG (X.jz s H scope (o_ scope cl C X.ai) fp) tg g)(ht: ∀s H C cl fp,Bv (X.jz s H scope (o_ scope cl C X.ai) fp) ifs tt)
  (he: ∀s H C cl fp,PE (X.jz s H scope (o_ scope cl C X.ai) fp) elt te)(hs: ∀x,QG iter X.ai x=pure x)
  (h:Mg wi g tt te (bz.map (·.2)) σ H Q)
  (hRR: ∀D C s' m H',aq X ae σ H' s'->Q (.ref D) H'->s'.heap.Ns C m->oq X ae H' C->aco (model X.prog X.w) X.A X.xe use Qf (.ref D) C (.ok .next) s'):
  wpAny (model X.prog X.w) X.A (comprehension (.ListComp elt [⟨tg,iter,ifs,0⟩] scope pos) scope X.ai ma (newList []) false (eval iter X.ai) use) Qf X.xe s:=by
 have GO: ∀y∈scope.names,y.2=.free-> ∃c,X.ai.cells.lookup y.1=some c:=λy hy e=>by
  rcases ok.free y hy e with k|k
  ·exact I.ok.has _ (.inl k)
  ·exact I.ok.has _ (.inr k)
 refine wpAny_comprehension_free (use:=use) rfl hs (afw GO) ok.kind (λy hy e=>by rw[ok.Ma y hy,e])
  (aQ (hi ae s σ H _ I h) λxv s1 hx=>aQ hx λLG s2 h2=>?_)
 obtain⟨it,fp,tn,J,H2,e,I2,T,xZ,f2,q⟩:=h2
 subst e
 refine j4 (afx ?_) (cA rfl)
 generalize hD:s2.heap.objs.size=D
 have vS:=I2.aG.fresh (QX hD)
 obtain⟨W,⟨m0,w0⟩,vE⟩:=q D vS
 generalize yl:({s2 with heap:=s2.heap.push {cls:=.type "list",data:=.seq ([]:List au).toArray}}:aR)=s3
 have I3:aq X ae σ (aa H2 D (.af [])) s3:=by
  rw[<-yl]
  refine I2.laid (t':=s2.toks) (λb o e=>bH _ e) (QX hD) ⟨cX _,[],0,.nil,?_⟩
  rw[<-hD]
  exact cJ _ rfl
 have h3:s3.heap=s2.heap.push {cls:=.type "list",data:=.seq ([]:List au).toArray}:=by rw[<-yl]
 have sz: ∀b∈fp,b<s2.heap.objs.size:=λb hb=>by
  obtain⟨o,e,_⟩:=T.obj _ _ xZ b hb
  exact bO e
 have f3: ∀b∈fp,oq X ae (aa H2 D (.af [])) b/\b<s3.heap.objs.size:=λb hb=>by
  have a9:=sz b hb
  refine⟨⟨?_,(f2 b hb).2⟩,by rw[h3,jh];exact arK a9⟩
  rw[aw (by fin2)]
  exact(f2 b hb).1
 have G0:tn 0 s3.heap:=T.keep _ _ _ xZ λb _ o e=>by rw[h3];exact bH _ e
 have I4:=afz I3 ok hN f3
 have pg:=hg s3 (aa H2 D (.af [])) s3.heap.objs.size (jm (s3.heap.objs.size+1) scope.names (iK X.ai.cells scope.names [])) fp
 have pt:=ht s3 (aa H2 D (.af [])) s3.heap.objs.size (jm (s3.heap.objs.size+1) scope.names (iK X.ai.cells scope.names [])) fp
 have pe:=he s3 (aa H2 D (.af [])) s3.heap.objs.size (jm (s3.heap.objs.size+1) scope.names (iK X.ai.cells scope.names [])) fp
 show ph _ _ (.compStart (.ListComp elt [⟨tg,iter,ifs,0⟩] scope pos) 0 (.ref it) (.ref D) (o_ scope (jm (s3.heap.objs.size+1) scope.names (iK X.ai.cells scope.names [])) s3.heap.objs.size X.ai)) (aco (model X.prog X.w) X.A X.xe use Qf (.ref D) s3.heap.objs.size) {s3 with heap:=xw (s3.heap.push {cls:=.type "dict",data:=.dict #[]}) scope.names}
 have Uc:=λb hb=>(f3 b hb).1.1
 generalize vT:o_ scope (jm (s3.heap.objs.size+1) scope.names (iK X.ai.cells scope.names [])) s3.heap.objs.size X.ai=ce at I4 pg pt pe⊢
 have cL:ce.locals=s3.heap.objs.size:=by subst vT;rfl
 generalize Ud:aa H2 D (.af [])=H3 at I3 I4 pg pt pe w0 Uc f3
 generalize hs4:({s3 with heap:=xw (s3.heap.push {cls:=.type "dict",data:=.dict #[]}) scope.names}:aR)=s4 at I4⊢
 have Ue:tn 0 s4.heap:=T.keep _ _ _ G0 λb _ o e=>by rw[<-hs4];exact QS _ _ _ _ (bH _ e)
 have vG: ∀{aL:St}{H':Hp}{s':aR},aq (X.jz s3 H3 scope ce fp) [] aL H' s'->(∀b∈fp,H' b=none)-> ∀b∈fp,oq (X.jz s3 H3 scope ce fp) [] H' b:=λ{aL H' s'}I' hn b hb=>
  ⟨hn b hb,(I'.ok.GN b hb).1,I'.ok.A7 b hb,.inl hb,λx c e=>(I'.ok.GN b hb).2 x c e,λp hp=>absurd (hp) (by simp)⟩
 have loop:ph (model X.prog X.w) X.A (.compLoop (.ListComp elt [⟨tg,iter,ifs,0⟩] scope pos) 0 (.ref it) (.ref D) ce) (aco (model X.prog X.w) X.A X.xe use Qf (.ref D) s3.heap.objs.size) s4:=by
  refine afC (λn s'=> ∃i H',aq (X.jz s3 H3 scope ce fp) [] (cF σ (bz.map (·.2))) H' s'/\tn i s'.heap/\(∀b∈fp,H' b=none)/\W i n H') ?_ m0 ⟨0,H3,I4,Ue,Uc,w0⟩
  rintro n s5 ⟨i,H5,I5,x6,n5,w5⟩
  rcases vE i n H5 w5 with⟨iJ,qq⟩|⟨go,Nx,hNx,step⟩
  ·have td:=T.done (X.jz s3 H3 scope ce fp) rfl rfl rfl hc i [] s5 _ H5 (λ_ _=>False) I5 (vG I5 n5) x6 iJ
   refine yk td λr s6⟨hr,I6⟩=>?_
   subst hr
   have I7:=I3.aea (ch:=fp) I6.os I6.base I6.aG I6.gV λb hb=>⟨(f3 b hb).1.2.2.2.1,(f3 b hb).1.2.1,(f3 b hb).1.2.2.2.2.1,(f3 b hb).1.2.2.2.2.2⟩
   have nC:H5 s3.heap.objs.size=none:=by
    have z:=I6.free
    rw[cL]at z
    exact z
   obtain⟨m,hn,_⟩:=I6.jt
   have hn:=hn
   rw[cL]at hn
   exact hRR D s3.heap.objs.size s6 m H5 I7 qq hn (I3.sn (aW _) nC)
  ·have ti:=T.item (X.jz s3 H3 scope ce fp) rfl rfl rfl hc i [] s5 _ H5 (λ_ _=>False) I5 (vG I5 n5) x6 go
   refine yk ti λr s6⟨u,hr,h6⟩=>?_
   subst hr
   refine yk h6 λ_ s7⟨x,H7,I7,r7,y7,Mh,n7⟩=>?_
   have I7':=I7.Td (vG I7 n7) (T.obj _ _ Mh)
   refine yk (pg _ s7 _ H7 x u _ I7' r7 (step x H7 y7)) λ_ s8⟨Hd,H8,I8,Ug,q8⟩=>?_
   refine yk (pt _ s8 Hd H8 _ I8 q8) λb s9⟨H9,I9,q9⟩=>?_
   have bM: ∀{s':aR}{H':Hp},aq (X.jz s3 H3 scope ce fp) ([]++Bg fp s7.heap) Hd H' s'->Nx H'-> ∃m,m<n/\ ∃i H',aq (X.jz s3 H3 scope ce fp) [] (cF σ (bz.map (·.2))) H' s'/\tn i s'.heap/\(∀b∈fp,H' b=none)/\W i m H':=λ{s' H'}I' nx=>by
    obtain⟨m',hm,w'⟩:=hNx H' nx
    have Uh: ∀b∈fp,∀o,s7.heap.get? b=some o->s'.heap.get? b=some o/\H' b=none:=λb hb o e=>
     let z:=I'.lK (b,o) (lV _ (lV _ (LH hb e)))
     ⟨z.1,z.2.1⟩
    have hl:(cF σ (bz.map (·.2))).length=Hd.length:=by rw[<-Ug,Mb]
    refine⟨m',hm,i+1,H',(I'.GZ (ae:=[])).Lw hl (λj v e=>?_),T.keep _ _ _ Mh λb hb o e=>(Uh b hb o e).1,λb hb=>?_,w'⟩
    ·rw[<-Ug]at e
     exact(Md e).1
    ·obtain⟨o,e,_⟩:=T.obj _ _ Mh b hb
     exact(Uh b hb o e).2
   cases b with
   |false=>
    simp only[kE,if_false]at q9⊢
    exact bM I9 q9
   |true=>
    simp only[if_true]at q9⊢
    refine yk (pe _ s9 Hd H9 _ I9 q9) λz s10⟨yv,vU,I10,r10,ap,afE,afF,nx⟩=>?_
    exact afB (X:=X.jz s3 H3 scope ce fp) I10 afE afF r10 λs11 I11=>bM I11 nx
 exact codeAny_compStart_list loop (T.self X.A 0 _ _ _ Ue loop)
def ke(hc:X.jS=true)(hN:X.N.Nodup)(hi:PI X tg iter wi)(ok:Bq X.N X.ai.scope scope bz)
  (hg: ∀s H C cl fp,PG (X.jz s H scope (o_ scope cl C X.ai) fp) tg g)(ht: ∀s H C cl fp,Bv (X.jz s H scope (o_ scope cl C X.ai) fp) ifs tt)
  (he: ∀s H C cl fp,PE (X.jz s H scope (o_ scope cl C X.ai) fp) elt te)(hs: ∀x,QG iter X.ai x=pure x:=by intro _;rfl):
  PE X (.ListComp elt [⟨tg,iter,ifs,0⟩] scope pos) (Mg wi g tt te (bz.map (·.2))):=by
 intro ae s σ H Q I h;rw[eval_ListComp];refine Ub hc hN I hi ok hg ht he hs h λD C s' m H' I' q hn f=>⟨m,hn,λlM sb=>?_⟩
 obtain⟨f0,f1,f2,f3,f4,f5⟩:=f;exact⟨.ref D,H',I'.fg (t':=s'.toks) (λb o hb e=>(sb.2 b hb).trans e) f0 f1 f3 f4 f5,rfl,q⟩
def vV{i:Nat}{y:Str}{py:Pos}{elt tg iter:Expr}{ifs:List Expr}{scope:Scope}{bz:List (Str×Nat)}{pos Ui:Pos}{wi:TI}{g:TG}{tt:TT}{te:TE}(hc:X.jS=true)(hN:X.N.Nodup)(hy:X.N[i]?=some y)(Uj:X.ai.scope.names.lookup y=some .local)
  (hsw:An (.ListComp elt [⟨tg,iter,ifs,0⟩] scope pos) (some (.Name y py)) Ui.line X.ai=pure true)(hi:PI X tg iter wi)(ok:Bq X.N X.ai.scope scope bz)
  (hg: ∀s H C cl fp,PG (X.jz s H scope (o_ scope cl C X.ai) fp) tg g)(ht: ∀s H C cl fp,Bv (X.jz s H scope (o_ scope cl C X.ai) fp) ifs tt)
  (he: ∀s H C cl fp,PE (X.jz s H scope (o_ scope cl C X.ai) fp) elt te)(hs: ∀x,QG iter X.ai x=pure x:=by intro _;rfl):
  PS X (.Assign [.Name y py] (.ListComp elt [⟨tg,iter,ifs,0⟩] scope pos) Ui) (LF (Mg wi g tt te (bz.map (·.2))) (LD i)):=by
 intro ae s σ H D I h;rw[exec_Assign_Name_used _ _ _ _ hsw];refine ah (Kg (ah ?_));have h:=h;refine ah (aQ (Ub (Qf:=λ_ s'=>SP X ae D .next s') hc hN I hi ok hg ht he hs h λL C s' m H' I' q hn f=>?_) λ_ s' hq=>az (az hq));refine aso (S0 (v:=V.ref L) I' hN hy (.inl Uj) rfl (λs2 I2⟨a,sb,ha⟩=>?_) (.inr Uj));obtain⟨f0,f1,f2,f3,f4,f5⟩:=f;have haC:C≠a:=by
  fin2
 exact⟨m,hn.sameBut sb haC,λh3 sb3=>⟨_,H',I2.fg (t':=s2.toks) (λb o hb e=>(sb3.2 b hb).trans e) f0 f1 f3 f4 f5,q⟩⟩
def vW{elt:Expr}{gs:List Comprehension}{scope:Scope}{pos py:Pos}{y:Str}{l:Nat}{ai:Env}(hk:ai.scope.kind=.function)(hy:ai.scope.names.lookup y=some .local)(hl:(py.line==pos.line)=true)
  (ha:(scope.names.any λ(n,k)=>n==y&&(k==.local||k==.cell))=false):An (.ListComp elt gs scope pos) (some (.Name y py)) l ai=pure true:=by
 have ky:ai.kindOf y=some .local:=hy;have hb:ai.blockKind=.function:=by unfold Env.blockKind;rw[hk];rfl
 unfold An;simp only[hb,ky,ha,Expr.pos,hl];rfl
end
def afG{lo:Int}{g:TG}{tt:TT}{te:TE}{D:ag}{Qd:Hp->Prop}(Pv:Nat->Hp->Prop)(h0:Pv 0 (aa H1 D (.af [])))
  (hs: ∀i H,i<n->Pv i H->LcS g tt te vs σ D (Pv (i+1)) (.int (lo+i)) H)(hd: ∀H,Pv n H->Qd H):
  MgI g tt te vs σ Qd (qG lo n) D H1:=by
 exists λi m H=>m=n-i/\i<=n/\Pv i H,⟨n,by simp,cX _,h0⟩;rintro i m H ⟨rfl,hi,p⟩;by_cases a9:i<n
 ·refine .inr ⟨a9,Pv (i+1),λH' p'=>⟨n-(i+1),by lia,rfl,a9,p'⟩,λx H' y=>?_⟩;obtain⟨e,y⟩:=y;lk
 ·have e:i=n:=by lia
  subst e;exact .inl ⟨aW _,hd H p⟩
def lN{K:aP}{g:TG}{tt:TT}{te:TE}{H1:Hp}{D:ag}{Qd:Hp->Prop}(Pv:Nat->Hp->Prop)(h0:Pv 0 (aa H1 D (.af [])))(hl: ∀i H,i<=xs.length->Pv i H->aJ K H a xs)
  (hs: ∀i x H,xs[i]?=some x->Pv i H->LcS g tt te vs σ D (Pv (i+1)) x H)(hd: ∀H,Pv xs.length H->Qd H):
  MgI g tt te vs σ Qd (t_ K a) D H1:=by
 exists λi m H=>m=xs.length-i/\i<=xs.length/\Pv i H,⟨xs.length,by simp,cX _,h0⟩;rintro i m H ⟨rfl,hi,p⟩;have q:=hl i H hi p;by_cases a9:i<xs.length
 ·refine .inr ⟨⟨xs,xs[i],q,by simp[a9]⟩,Pv (i+1),λH' p'=>⟨xs.length-(i+1),by omega,rfl,a9,p'⟩,λx H' y=>?_⟩;obtain⟨e,y⟩:=y
  subst e
  exact hs i x _ (y xs q) p
 ·have e:i=xs.length:=by lia
  subst e;exact .inl ⟨⟨xs,q,aW _⟩,hd H p⟩
def Uk{K:aP}{g:TG}{tt:TT}{te:TE}{H1:Hp}{D:ag}{Qd:Hp->Prop}(Pv:Nat->Hp->Prop)(h0:Pv 0 (aa H1 D (.af [])))(hl: ∀i H,i<=xs.length->Pv i H->c8 K H a xs)
  (hs: ∀i x H,xs[i]?=some x->Pv i H->LcS g tt te vs σ D (Pv (i+1)) x H)(hd: ∀H,Pv xs.length H->Qd H):
  MgI g tt te vs σ Qd (Bf K a) D H1:=by
 exists λi m H=>m=xs.length-i/\i<=xs.length/\Pv i H,⟨xs.length,by simp,cX _,h0⟩;rintro i m H ⟨rfl,hi,p⟩;have q:=hl i H hi p;by_cases a9:i<xs.length
 ·refine .inr ⟨⟨xs,xs[i],q,by simp[a9]⟩,Pv (i+1),λH' p'=>⟨xs.length-(i+1),by omega,rfl,a9,p'⟩,λx H' y=>?_⟩;obtain⟨e,y⟩:=y;fin2
 ·have e:i=xs.length:=by lia
  subst e;exact .inl ⟨⟨xs,q,aW _⟩,hd H p⟩
noncomputable def gz(N:List Str)(sc scope:Scope)(bz:List (Str×Nat)):Bool:=
 (match scope.kind with|.function=>true|_=>false)&&(scope.names.all λy=>decide (scope.names.lookup y.1=some y.2))&&(bz.all λp=>decide (N[p.2]?=some p.1))&&
  (scope.names.all λy=>match y.2 with
   |.free=>(match sc.names.lookup y.1 with|some .cell=>true|some .free=>true|_=>false)
   |.local=>decide (y.1∈bz.map (·.1))||decide (y.1∉N)
   |.cell=>decide (y.1∈bz.map (·.1))||decide (y.1∉N)
   |_=>true)
def gZ(h:gz N sc scope bz=true):Bq N sc scope bz:=by
 unfold gz at h;simp only[eA,QF,decide_eq_true_eq]at h;obtain⟨⟨⟨h1,h2⟩,h3⟩,h4⟩:=h;refine⟨?_,h2,h3,λy hy e=>?_,λy hy e=>?_⟩
 ·fin2
 ·fin2
 ·fin2
section
variable{κ:Type}[DecidableEq κ]
def cI(kvs:List (κ×V))(k:κ):Option V:=(kvs.find? λkv=>decide (kv.1=k)).map (·.2)
noncomputable def dI(kvs:List (κ×V))(k:κ)(v:V):List (κ×V):=
 if(kvs.any λkv=>decide (kv.1=k))=true then kvs.map (λkv=>if kv.1=k then(kv.1,v)else kv)else kvs++[(k,v)]
def kf{k:κ}(e:p.1=k):cI (p::r) k=some p.2:=by simp[cI,List.find?_cons,e]
def i8{k:κ}(e:¬p.1=k):cI (p::r) k=cI r k:=by simp[cI,List.find?_cons,e]
theorem qJ(k:κ): ∀kvs:List (κ×V),(kvs.any λkv=>decide (kv.1=k))=(cI kvs k).isSome
 |[]=>rfl
 |p::r=>by
  rw[abO];by_cases e:p.1=k
  ·simp only[kf e,decide_eq_true e,Bool.true_or,Option.isSome_some]
  ·rw[i8 e,decide_eq_false e,Bool.false_or];exact qJ k r
theorem Ul(k j:κ)(y:V): ∀kvs:List (κ×V),cI (kvs.map λkv=>if kv.1=k then(kv.1,y)else kv) j=(cI kvs j).map λx=>if j=k then y else x
 |[]=>rfl
 |p::r=>by
  have ih:=Ul k j y r;rw[gF];by_cases h:p.1=k
  ·rw[if_pos h];by_cases e:p.1=j
   ·rw[kf (p:=(p.1,y)) e,kf e,J9,if_pos (e.symm.trans h)]
   ·rw[i8 (p:=(p.1,y)) e,i8 e,ih]
  ·rw[if_neg h];by_cases e:p.1=j
   ·rw[kf (p:=p) e,kf e,J9,if_neg (λz=>h (e.trans z))]
   ·rw[i8 (p:=p) e,i8 e,ih]
theorem Um(k j:κ)(y:V): ∀kvs:List (κ×V),cI kvs k=none->cI (kvs++[(k,y)]) j=if j=k then some y else cI kvs j
 |[],_=>by
  by_cases e:k=j
  ·rw[if_pos e.symm];exact kf (p:=(k,y)) e
  ·rw[if_neg (λz=>e z.symm)];exact i8 (p:=(k,y)) e
 |p::r,hn=>by
  rw[QE];have hk:¬p.1=k:=λz=>by rw[kf z]at hn;cases hn
  rw[i8 hk]at hn;have ih:=Um k j y r hn;by_cases e:p.1=j
  ·rw[kf e,kf e,if_neg (λz=>hk (e.trans z))]
  ·rw[i8 e,i8 e,ih]
def Mi(kvs:List (κ×V))(k j:κ)(y:V):cI (dI kvs k y) j=if j=k then some y else cI kvs j:=by
 unfold dI;by_cases a:(kvs.any λkv=>decide (kv.1=k))=true
 ·rw[if_pos a,Ul];rw[qJ]at a;by_cases e:j=k
  ·obtain⟨x,hx⟩:=aqE.mp a;lk
  ·rw[if_neg e]
   cases cI kvs j with
   |none=>rfl
   |some x=>rw[J9,if_neg e]
 ·rw[if_neg a];refine Um k j y kvs ?_;rw[qJ]at a
  cases q:cI kvs k with
  |none=>rfl
  |some x=>rw[q]at a;exact(a rfl).elim
def vX(kvs:List (κ×V))(k:κ)(v:V):(dI kvs k v).length<=kvs.length+1:=by
 unfold dI;fin2
def ue{k:κ}(v:V)(h:cI kvs k=none):dI kvs k v=kvs++[(k,v)]:=by
 unfold dI;rw[qJ,h];exact if_neg (by room)
def jq.Mj(r:jq o u):o.isSome=u.isSome:=by
 cases o with
 |none=>cases u with
  |none=>rfl
  |some _=>exact(r).elim
 |some _=>cases u with
  |none=>exact(r).elim
  |some _=>rfl
def jq.getD(r:jq o u)(rd:bJ d d'):bJ (o.getD d) (u.getD d'):=by
 cases o with
 |none=>cases u with
  |none=>exact rd
  |some _=>exact(r).elim
 |some _=>cases u with
  |none=>exact(r).elim
  |some _=>exact r
def KV.val(r:KV kvs vs)(k:κ):jq (cI kvs k) (xx vs k):=by
 induction r with
 |nil=>exact ql
 |@cons p q ps qs h t ih=>
  obtain⟨h1,h2⟩:=h;by_cases e:p.1=k
  ·have e':=h1.symm.trans e;have b:xx (q::qs) k=some q.2:=by simp[xx,List.find?_cons,e']
   rw[kf e,b];exact h2
  ·have e':¬q.1=k:=λz=>e (h1.trans z);have b:xx (q::qs) k=xx qs k:=by simp[xx,List.find?_cons,e']
   rw[i8 e,b];exact ih
def KV.any(r:KV kvs vs)(k:κ):(kvs.any λkv=>decide (kv.1=k))=vs.any λkv=>decide (kv.1=k):=by
 induction r with
 |nil=>rfl
 |cons h t ih=>rw[abO,abO,ih,h.1]
def KV.Ml(r:KV kvs vs)(k:κ)(ry:bJ y u):
  KV (kvs.map λkv=>if kv.1=k then(kv.1,y)else kv) (vs.map λkv=>if kv.1=k then(kv.1,u)else kv):=by
 induction r with
 |nil=>exact .nil
 |@cons p q ps qs h t ih=>
  rw[gF,gF];refine .cons ?_ ih;lia
def KV.put(r:KV kvs vs)(k:κ)(ry:bJ y u):KV (dI kvs k y) (stored vs k u):=by
 unfold dI stored;rw[r.any k];by_cases e:(vs.any λkv=>decide (kv.1=k))=true
 ·rw[if_pos e,if_pos e];exact r.Ml k ry
 ·rw[if_neg e,if_neg e];exact asc r ⟨rfl,ry⟩
def KV.j8{vs:List (κ×au)}(r:KV kvs vs):kvs.map (·.1)=vs.map (·.1):=by
 induction r with
 |nil=>rfl
 |cons h t ih=>rw[gF,gF,ih,h.1]
def KV.length{vs:List (κ×au)}(r:KV kvs vs):kvs.length=vs.length:=mQ r
end
def ug(r:bJ (kV k) u):(fC P w).is k u=true:=by
 cases k with
 |inl i=>obtain⟨t,e⟩:=(r);subst e;exact adY P w i t
 |inr x=>obtain⟨t,e⟩:=(r);subst e;exact adZ P w x t
theorem Uo{P:bj}{w:a_}: ∀{ks:List bR}{us:List au},bd (ks.map kV) us->ItemsAre (fC P w) ks us
 |[],_,r=>by rw[abX]at r;cases r;exact .nil
 |k::ks,_,r=>by
  cases r with
  |cons h t=>exact .cons (ug h) (Uo t)
abbrev KT(H:Hp):List (List bR×V)->List (List bR×ag×au)->Prop:=qu λp q=>p.1=q.1/\H q.2.1=some (.aE (p.1.map kV))/\bJ p.2 q.2.2
def KT.val(r:KT H kvs xs)(k:List bR):jq (cI kvs k) ((atKey xs k).map (·.2)):=by
 induction r with
 |nil=>exact ql
 |@cons p q ps qs h t ih=>
  obtain⟨h1,_,h2⟩:=h;by_cases e:p.1=k
  ·have e':=h1.symm.trans e;have b:atKey (q::qs) k=some q.2:=by simp[atKey,List.find?_cons,e']
   rw[kf e,b];exact h2
  ·have e':¬q.1=k:=λz=>e (h1.trans z);have b:atKey (q::qs) k=atKey qs k:=by simp[atKey,List.find?_cons,e']
   rw[i8 e,b];exact ih
def KT.Ml(r:KT H kvs xs)(k:List bR)(ry:bJ y u):
  KT H (kvs.map λkv=>if kv.1=k then(kv.1,y)else kv) (xs.map (putAt k u)):=by
 induction r with
 |nil=>exact .nil
 |@cons p q ps qs h t ih=>
  rw[gF,gF];refine .cons ?_ ih;obtain⟨h1,h2,h3⟩:=h;unfold putAt;lia
def KT.put(r:KT H kvs xs)(k:List bR)(hb:H b=some (.aE (k.map kV)))(ry:bJ y u):
  KT H (dI kvs k y) (Rc xs k b u):=by
 have e:(kvs.any λkv=>decide (kv.1=k))=(atKey xs k).isSome:=by
  rw[qJ,(r.val k).Mj,arb]
 unfold dI Rc;rw[e];by_cases q:(atKey xs k).isSome=true
 ·rw[if_pos q,if_pos q];exact r.Ml k ry
 ·rw[if_neg q,if_neg q];exact asc r ⟨rfl,hb,ry⟩
def KT.keeps(r:KT H kvs xs)(ht: ∀b ys,H b=some (.aE ys)->H' b=some (.aE ys)):KT H' kvs xs:=
 Paired.Lo r λ_ _ z=>⟨z.1,ht _ _ z.2.1,z.2.2⟩
section
variable{P:bj}{w:a_}{H:Hp}{h:Heap}{a:ag}
def Uq(ok:d_ P w H h)(e:Rd H a u):dN P w H h a u:=e.ok ok
def ym(ok:d_ P w H h)(e:Rd H a (.dK kvs)):kvs.length<=bh/\(a==i0)=false/\ ∃vs,KV kvs vs/\h.DictOf (fC P w) a vs:=
 Uq ok e
def He(ok:d_ P w H h)(e:H a=some (.dK kvs)):kvs.length<=bh/\(a==i0)=false/\ ∃vs,KV kvs vs/\h.DictOf (fC P w) a vs:=ym ok (.inl e)
def yn(ok:d_ P w H h)(e:H a=some (.aE (ks.map kV))):(ve (fC P w)).is h ks a:=by
 obtain⟨_,its,r,o,h1,h2,n,h3⟩:=(ok a _ e)
 exact⟨o,its.toArray,n,h1,h2,h3,by simpa using Uo r⟩
def yo{kvs:List (List bR×V)}(ok:d_ P w H h)(e:Rd H a (.dT kvs)):kvs.length<=bh/\(a==i0)=false/\∃xs,KT H kvs xs/\h.DictOfH (ve (fC P w)) a xs:=by
 obtain⟨z,y,xs,r,o,es,ep,h1,h2,h3,h4,h5⟩:=(Uq ok e)
 refine⟨z,y,xs,r,o,es,ep,h1,h2,h3,h4,λx hx=>?_,h5⟩;have all: ∀{l:List (List bR×V)}{m:List (List bR×ag×au)},KT H l m-> ∀x∈m,(ve (fC P w)).is h x.1 x.2.1:=by
  intro l m q;induction q with
  |nil=>intro x hx;exact nomatch hx
  |@cons p q ps qs hq t ih=>
   intro x hx;rcases cO.mp hx with e|hx
   ·subst e;exact yn ok (by lk)
   ·exact ih x hx
 exact all r x hx
def Ur(ok:d_ P w H h)(e:H a=some (.dT kvs)):kvs.length<=bh/\(a==i0)=false/\∃xs,KT H kvs xs/\h.DictOfH (ve (fC P w)) a xs:=yo ok (.inl e)
end
def iO(H:Hp)(a:ag)(y:V)(r:Option V):Prop:=
 (∃kvs k,Rd H a (.dK kvs)/\y=kV k/\r=cI kvs k)\/ ∃kvs k b,Rd H a (.dT kvs)/\y=.ref b/\H b=some (.aE (k.map kV))/\r=cI kvs k
def mj(H:Hp)(a:ag)(y v:V)(H':Hp):Prop:=
 (∃kvs k,H a=some (.dK kvs)/\y=kV k/\kvs.length<bh/\H'=aa H a (.dK (dI kvs k v)))\/∃kvs k b,H a=some (.dT kvs)/\y=.ref b/\H b=some (.aE (k.map kV))/\kvs.length<bh/\H'=aa H a (.dT (dI kvs k v))
def iO.k{k:bR}(e:H a=some (.dK kvs)):iO H a (kV k) (cI kvs k):=.inl ⟨kvs,k,.inl e,rfl,rfl⟩
def iO.t{k:List bR}(e:H a=some (.dT kvs))(eb:H b=some (.aE (k.map kV))):iO H a (.ref b) (cI kvs k):=.inr ⟨kvs,k,b,.inl e,rfl,eb,rfl⟩
def mj.k{k:bR}(e:H a=some (.dK kvs))(hl:kvs.length<bh):mj H a (kV k) v (aa H a (.dK (dI kvs k v))):=.inl ⟨kvs,k,e,rfl,hl,rfl⟩
def mj.t{k:List bR}(e:H a=some (.dT kvs))(eb:H b=some (.aE (k.map kV)))(hl:kvs.length<bh):
  mj H a (.ref b) v (aa H a (.dT (dI kvs k v))):=.inr ⟨kvs,k,b,e,rfl,eb,hl,rfl⟩
section
variable{X:Cx}{ae:List (ag×Obj)}{σ:St}{H:Hp}{s:aR}{a:ag}{y v:V}{u r:au}{o:Option V}{A:eJ}{E:au->aR->Prop}
def aq.Mm(I:aq X ae σ H s):i0<s.heap.objs.size:=by
 have h:=(I.jr.r_.keeps I.bk).lt;exact Nat.lt_trans (by room) h
def afH(hu:A.units+1<cLine)(I:aq X ae σ H s)(g:iO H a y (some v))(ry:bJ y u)(h: ∀w' s',aq X ae σ H s'->bJ v w'->Q w' s'):
  wpAny (model X.prog X.w) A (Aq (.ref a) u) Q E s:=by
 rcases g with⟨kvs,k,e,ey,l⟩|⟨kvs,k,b,e,ey,eb,l⟩
 ·subst ey;obtain⟨z,hd,vs,cU,dd⟩:=ym I.aG e;obtain⟨w',hw,kb⟩:=jq.G4 (v:=v) (o:=xx vs k) (by rw[l];exact cU.val k);exact asC (ug ry) dd.mapOf hw (h w' _ (I.f_ _) kb)
 ·subst ey
  cases(ry);obtain⟨z,hd,xs,cU,dd⟩:=yo I.aG e;obtain⟨w',hw,kb⟩:=jq.G4 (v:=v) (o:=(atKey xs k).map (·.2)) (by rw[l];exact cU.val k);obtain⟨p,hp,cC⟩:=Option.map_eq_some_iff.mp hw;refine wpAny_getItem_heap (J4 hu) (yn I.aG eb) dd hp ?_;rw[cC];exact h w' _ (I.f_ _) kb
def afI(hu:A.units+1<cLine)(I:aq X ae σ H s)(g:iO H a y o)(ry:bJ y u)(h: ∀s',aq X ae σ H s'->Q (.bool (!o.isSome)) s'):
  wpAny (model X.prog X.w) A (lH .NotIn u (.ref a)) Q E s:=by
 rcases g with⟨kvs,k,e,ey,l⟩|⟨kvs,k,b,e,ey,eb,l⟩
 ·subst ey;obtain⟨z,hd,vs,cU,dd⟩:=ym I.aG e;refine wpAny_notIn_of (ug ry) hd dd.mapOf ?_;rw[<-(cU.val k).Mj,<-l];exact h _ (I.f_ _)
 ·subst ey
  cases(ry);obtain⟨z,hd,xs,cU,dd⟩:=yo I.aG e;refine wpAny_notIn_heap (J4 hu) (yn I.aG eb) hd dd ?_;have q:=(cU.val k).Mj;rw[arb]at q;rw[<-q,<-l];exact h _ (I.f_ _)
def Bw(I:aq X ae σ H s)(mu:r8 (H a))(hs:jM a s.heap h')(he: ∃q,h'.get? a=some q)(new:dN X.prog X.w (aa H a ob) h' a ob):
  aq X ae σ (aa H a ob) {s with heap:=h',toks:=t'}:=
 I.qC (x:=a) (e:=a) mu (.inl rfl) (λb q hb z=>(hs.2 b hb).trans z) he new
def Mn(z:kvs.length<=bh)(hd:(a==i0)=false)(cU:KV kvs vs)(dd:h'.DictOf (fC P w) a vs):
  dN P w H' h' a (.dK kvs):=⟨z,hd,vs,cU,dd⟩
def afJ{H':Hp}{Q:Unit->aR->Prop}(hu:A.units+1<cLine)(I:aq X ae σ H s)(g:mj H a y v H')(ry:bJ y u)(rv:bJ v r)(h: ∀s',aq X ae σ H' s'->Q () s'):
  wpAny (model X.prog X.w) A (Rg (.ref a) u r) Q E s:=by
 rcases g with⟨kvs,k,e,ey,l,eH⟩|⟨kvs,k,b,e,ey,eb,l,eH⟩
 ·subst ey eH;obtain⟨z,hd,vs,cU,dd⟩:=He I.aG e;have hz:vs.length<=bh:=by rw[<-cU.length];exact z
  have hl:(dI kvs k v).length<=bh:=by have:=vX kvs k v;lia
  refine wpAny_setItem_pairs (hsz:=hz) (ug ry) dd λh' ow hs=>h _ ?_;have he: ∃q,h'.get? a=some q:=let⟨q,_,_,hq,_⟩:=ow;⟨q,hq⟩;exact Bw I (by rw[e];exact ql) hs he (Mn hl hd (cU.put k rv) ow)
 ·subst ey eH
  cases(ry);obtain⟨z,hd,xs,cU,dd⟩:=Ur I.aG e;have hz:xs.length<=bh:=by rw[<-mQ cU];exact z
  have hl:(dI kvs k v).length<=bh:=by have:=vX kvs k v;lia
  refine wpAny_setItem_heap (hsz:=hz) (J4 hu) (yn I.aG eb) dd λh' ow hs=>h _ ?_;obtain⟨q,es,ep,hq,h2,h3,h4,_,h5⟩:=ow;refine Bw I (by rw[e];exact ql) hs ⟨q,hq⟩ ⟨hl,hd,_,(cU.put k eb rv).keeps λc ys ec=>?_,q,es,ep,hq,h2,h3,h4,h5⟩;rw[aw (bx ec e (λz=>nomatch z))];exact ec
end
def Mo(i:Expr):Prop:= ∀ov iv,Q1 i false ov iv=acs [ov,iv] (Aq ov iv)
def Us{T id:String}
  (hl:Q7 (.type T) "__getitem__" =pure (some (.builtin id)))(hs:Mo slice)
  (h:wpAny (model prog w) A (eval value ai) (λo c7=>wpAny (model prog w) A (eval slice ai) (λi m_=>m_.TypeIs o T/\wpAny (model prog w) A (Aq o i) Q E m_) E c7) E s):
  wpAny (model prog w) A (eval (.Subscript value slice pos) ai) Q E s:=by
 refine ach (mR h (λo c7 h₁=>mR h₁ (λi m_ vR=>?_) λ_ _ x=>x) λ_ _ x=>x);obtain⟨hT,vR⟩:=vR;refine ah ?_;rw[getitemInPython_of_ne hT.not_modules];refine ah (QP hT hl ?_);have bM:wpAny (model prog w) A (Q1 slice false o i) (λr t9=>wpAny (model prog w) A (letTemporaryGo value o r>>=λ_=>pure r) Q E t9) E m_:=by
  rw[hs o i];exact wpAny_operating (mR vR (λr t9 ud=>ah (wpAny_letTemporaryGo (az ud))) λ_ _ x=>x)
 first
  |exact az (ah bM)
  |exact ah (az (ah bM))
  |exact ah bM
def afK{σ:St}(I:aq X ae σ H s)(g:iO H a y o):s.TypeIs (.ref a) "dict" :=by
 rcases g with⟨kvs,k,e,_,_⟩|⟨kvs,k,b,e,_,_,_⟩
 ·obtain⟨_,_,vs,_,dd⟩:=ym I.aG e;exact dd.typeIs
 ·obtain⟨_,_,xs,_,dd⟩:=yo I.aG e;exact dd.typeIs
inductive afLI(Q:VK)(x:V)(y:V)(H2:Hp):Prop|mk:∀a v,x=.ref a->iO H2 a y (some v)->Q v H2->afLI Q x y H2
def afL(td ty:TE):TE:=fun σ H Q=>td σ H λx H1=>ty σ H1 (afLI Q x)
inductive afMI(Q:VK)(y:V)(x:V)(H2:Hp):Prop|mk:∀a o,x=.ref a->iO H2 a y o->Q (.bl (!o.isSome)) H2->afMI Q y x H2
def afM(ty td:TE):TE:=fun σ H Q=>ty σ H λy H1=>td σ H1 (afMI Q y)
inductive afNI(D:sg)(σ:St)(v:V)(x:V)(y:V)(H3:Hp):Prop|mk:∀a H4,x=.ref a->mj H3 a y v H4->D.nx σ H4->afNI D σ v x y H3
def afN(td ty tv:TE):TS:=λD σ H=>tv σ H λv H1=>td σ H1 λx H2=>ty σ H2 (afNI D σ v x)
section
variable{X:Cx}{o i e value:Expr}{pos ma fE:Pos}{td ty tv:TE}
def Bx(hu:X.A.units+1<cLine)(ho:PE X o td)(hi:PE X i ty)(hs:Mo i):PE X (.Subscript o i pos) (afL td ty):=by
 intro ae s σ H Q I h;refine Us PySem.F.slot_dict_getitem.lookup hs (aQ (ho ae s σ H _ I h) λu s1⟨x,H1,I1,rx,q1⟩=>aQ (hi ae s1 σ H1 _ I1 q1) λiv s2⟨y,H2,I2,ry,a,v,ex,g,q2⟩=>?_);subst ex;obtain rfl:u=dA a:=rx;exact⟨afK I2 g,afH hu I2 g ry λw' s3 I3 kb=>⟨v,H2,I3,kb,q2⟩⟩
def Mp(hu:X.A.units+1<cLine)(hi:PE X i ty)(ho:PE X o td):PC X .NotIn i o (afM ty td):=by
 intro ae s σ H Q I h;refine aQ (hi ae s σ H _ I h) λiv s1⟨y,H1,I1,ry,q1⟩=>aQ (ho ae s1 σ H1 _ I1 q1) λu s2⟨x,H2,I2,rx,a,ov,ex,g,q2⟩=>?_;subst ex;obtain rfl:u=dA a:=rx;exact afI hu I2 g ry λs3 I3=>⟨.bl (!ov.isSome),H2,I3,rfl,q2⟩
def uh(hu:X.A.units+1<cLine)(ho:PE X o td)(hi:PE X i ty)(hv:PE X value tv)(hs:An value (some (.Subscript o i ma)) pos.line X.ai=pure false):
  PS X (.Assign [.Subscript o i ma] value pos) (afN td ty tv):=by
 intro ae s σ H D I h;refine wpAny_Assign_Subscript (aQ (hv ae s σ H _ I h) λr s1⟨v,H1,I1,rv,q1⟩=>aQ (ho ae s1 σ H1 _ I1 q1) λu s2⟨x,H2,I2,rx,q2⟩=>aQ (hi ae s2 σ H2 _ I2 q2) λiv s3⟨y,H3,I3,ry,a,H4,ex,g,q3⟩=>?_) hs;subst ex;obtain rfl:u=dA a:=rx;exact afJ hu I3 g ry rv λs4 I4=>⟨σ,H4,I4,q3⟩
end
def Ut(h:Heap)(hb:i0<h.objs.size):dN P w H (h.push {cls:=.type "dict",data:=.dict #[]}) h.objs.size (.dK []):=
 ⟨cX _,beq_eq_false_iff_ne.mpr (qr (d7 hb)),[],.nil,aur h⟩
def afO(h:Heap)(hb:i0<h.objs.size):dN P w H (h.push {cls:=.type "dict",data:=.dict #[]}) h.objs.size (.dT []):=
 ⟨cX _,beq_eq_false_iff_ne.mpr (qr (d7 hb)),[],.nil,_,#[],0,cJ _ rfl,⟨rfl,rfl,rfl⟩,rfl,rfl,Ac⟩
def afP:TE:=λ_ H Q=> ∀p,H p=none->Q (.ref p) (aa H p (.dK []))
def afQ:TE:=λ_ H Q=> ∀p,H p=none->Q (.ref p) (aa H p (.dT []))
section
variable{X:Cx}{pos:Pos}
def Hf:PE X (.Dict [] [] pos) afP:=λae s σ H Q I h=>
 asE ⟨.ref s.heap.objs.size,_,I.laid (a:=s.heap.objs.size) (o:=.dK []) (t':=s.toks) (λ_ _ q=>bH _ q) (aW _) (Ut s.heap I.Mm),rfl,h _ (I.aG.fresh (aW _))⟩
def Mq:PE X (.Dict [] [] pos) afQ:=λae s σ H Q I h=>
 asE ⟨.ref s.heap.objs.size,_,I.laid (a:=s.heap.objs.size) (o:=.dT []) (t':=s.toks) (λ_ _ q=>bH _ q) (aW _) (afO s.heap I.Mm),rfl,h _ (I.aG.fresh (aW _))⟩
end
def Mr:List (TE×TE)->St->Hp->(List (V×V)->Hp->Prop)->Prop
 |[],_,H,Q=>Q [] H
 |(tk,tv)::r,σ,H,Q=>tk σ H λx H1=>tv σ H1 λy H2=>Mr r σ H2 λps H3=>Q ((x,y)::ps) H3
abbrev VV:List (V×V)->List (au×au)->Prop:=qu λp q=>bJ p.1 q.1/\bJ p.2 q.2
def Hg(X:Cx)(pos:Pos)(j8:List (Option Expr))(values:List Expr)(sA:List (TE×TE)):Prop:=
 ∀ae s(σ:St) H Q,aq X ae σ H s->Mr sA σ H Q->wpAny (model X.prog X.w) X.A (evalPairs (pairTrees j8 values X.ai pos)) (λvs s'=> ∃ps H',aq X ae σ H' s'/\VV ps vs/\Q ps H') X.xe s
def Ms:Hg X pos [] [] []:=λae s σ H Q I h=>pairTrees_nil_walk ⟨[],H,I,.nil,h⟩
def Mt{X:Cx}{pos:Pos}{k v:Expr}{ks:List (Option Expr)}{vs:List Expr}{tk tv:TE}{sA:List (TE×TE)}(hk:PE X k tk)(hv:PE X v tv)(hr:Hg X pos ks vs sA):
  Hg X pos (some k::ks) (v::vs) ((tk,tv)::sA):=λae s σ H Q I h=>
 pairTrees_cons_walk (aQ (hk ae s σ H _ I h) λu s1⟨x,H1,I1,rx,q1⟩=>aQ (hv ae s1 σ H1 _ I1 q1) λw2 s2⟨y,H2,I2,ry,q2⟩=>
  aQ (hr ae s2 σ H2 _ I2 q2) λws s3⟨ps,H3,I3,cU,q3⟩=>⟨(x,y)::ps,H3,I3,.cons ⟨rx,ry⟩ cU,q3⟩)
noncomputable def mn(kvs more:List (bR×V)):List (bR×V):=more.foldl (λap kv=>dI ap kv.1 kv.2) kvs
def KV.merge: ∀{more:List (bR×V)}{rs:List (bR×au)}{kvs:List (bR×V)}{vs:List (bR×au)},KV more rs->KV kvs vs->KV (mn kvs more) (merged vs rs):=by
 intro more rs kvs vs r;induction r generalizing kvs vs with
 |nil=>intro q;exact q
 |@cons p q ps qs h t ih=>
  intro r0;have e:KV (dI kvs p.1 p.2) (stored vs q.1 q.2):=by
   have:=r0.put p.1 h.2;rw[<-h.1];exact this
  exact ih e
theorem Uu: ∀more kvs,(mn kvs more).length<=kvs.length+more.length
 |[],kvs=>by show kvs.length<=kvs.length+0;lia
 |p::r,kvs=>by
  have h1:=Uu r (dI kvs p.1 p.2);have h2:=vX kvs p.1 p.2;show(mn (dI kvs p.1 p.2) r).length<=_;fin2
theorem Uv{P:bj}{w:a_}: ∀{kvs:List (bR×V)}{ws:List (au×au)},VV (kvs.map λkv=>(kV kv.1,kv.2)) ws-> ∃rs,Carries (fC P w) ws rs/\KV kvs rs
 |[],_,r=>by rw[abX]at r;cases r;exact⟨[],ql,.nil⟩
 |p::kvs,_,r=>by
  cases r with
  |@cons a b as bs h t=>
   obtain⟨rs,c,q⟩:=Uv (P:=P) (w:=w) t;obtain⟨b1,b2⟩:=b;exact⟨(p.1,b2)::rs,⟨ug h.1,rfl,c⟩,.cons ⟨rfl,h.2⟩ q⟩
def afR(sA:List (TE×TE)):TE:=fun σ H Q=> ∀p,H p=none->Mr sA σ (aa H p (.dK [])) λps H2=>H2 p=some (.dK [])/\ ∃kvs:List (bR×V),ps=kvs.map (λkv=>(kV kv.1,kv.2))/\kvs.length<=15/\Q (.ref p) (aa H2 p (.dK (mn [] kvs)))
def Mv{X:Cx}{pos:Pos}{j8:List (Option Expr)}{values:List Expr}{sA:List (TE×TE)}(h:Hg X pos j8 values sA)(lO:j8.all (·.isSome)=true)(hl:j8.length=values.length)(h0:j8≠[])
  (h15:j8.length<=15):PE X (.Dict j8 values pos) (afR sA):=by
 intro ae s σ H Q I q;have hn:=I.aG.fresh (aW s.heap.objs.size);have I1:=I.laid (a:=s.heap.objs.size) (o:=.dK []) (h':=s.heap.push {cls:=.type "dict",data:=.dict #[]}) (t':=s.toks) (λ_ _ q=>bH _ q) (aW _) (Ut s.heap I.Mm);refine wpAny_Dict_walk (knd:=fC X.prog X.w) lO hl h0 h15 (aQ (h ae _ σ _ _ I1 (q _ hn)) λws s2⟨ps,H2,I2,cU,e,kvs,ep,lk,q2⟩=>?_);subst ep;obtain⟨rs,c,rk⟩:=Uv (P:=X.prog) (w:=X.w) cU;obtain⟨z,hd,vs0,r0,dd⟩:=He I2.aG e
 cases r0;refine⟨rs,c,dd,λh' ow hs=>⟨.ref s.heap.objs.size,_,?_,rfl,q2⟩⟩;have hz:(mn [] kvs).length<=bh:=by
  have h1:=Uu kvs [];rw[abH]at h1;rw[Kq];lia
 have he: ∃q,h'.get? s.heap.objs.size=some q:=let⟨q,_,_,hq,_⟩:=ow;⟨q,hq⟩;exact Bw I2 (by rw[e];exact ql) hs he (Mn hz hd (rk.merge .nil) ow)
structure M2(X:Cx)(o:Expr)(m:Str)(fT:Pos)(e f:Expr)(fU:Pos):Prop where
 base:xr o m X.ai (eval o X.ai)=eval o X.ai
 cT:((gp fU (bV [e,f] X.ai)).all (λx=>!x.1)&&(Ra fU (Q3 [] X.ai)).all (λx=>x.1.isSome) &&decide (([e,f]:List Expr).length+([]:List Rj).length+(if([]:List Rj).isEmpty then 0 else 1)<30))=true
 line:(fT.endLine==fU.line)=true
 Uw:gp fU (bV [e,f] X.ai)=[(false,eval e X.ai),(false,eval f X.ai)]
def Mw(H:Hp)(a:ag):Prop:=(∃kvs,Rd H a (.dK kvs))\/ ∃kvs,Rd H a (.dT kvs)
def Ux{σ:St}(I:aq X ae σ H s)(d:Mw H a):
  s.TypeIs (.ref a) "dict" /\(∀b,dA a=.ref b-> ∃ob,s.heap.get? b=some ob/\ob.dict=none)/\(a==i0)=false:=by
 rcases d with⟨kvs,e⟩|⟨kvs,e⟩
 ·obtain⟨_,hd,vs,_,dd⟩:=ym I.aG e;refine⟨dd.typeIs,λb q=>?_,hd⟩
  cases q;obtain⟨ob,_,_,h1,h2,_⟩:=dd;exact⟨ob,h1,h2.2.1⟩
 ·obtain⟨_,hd,xs,_,dd⟩:=yo I.aG e;refine⟨dd.typeIs,λb q=>?_,hd⟩
  cases q;obtain⟨ob,_,_,h1,h2,_⟩:=dd;exact⟨ob,h1,h2.2.1⟩
section
variable{X:Cx}{ae:List (ag×Obj)}{σ:St}{H:Hp}{s:aR}{a:ag}{y d:V}{u r:au}{o:Option V}{A:eJ}{E:au->aR->Prop}
def afS(hu:A.units+1<cLine)(I:aq X ae σ H s)(g:iO H a y o)(ry:bJ y u)(rd:bJ d r)(h: ∀w' s',aq X ae σ H s'->bJ (o.getD d) w'->Q w' s'):
  wpAny (model X.prog X.w) A (call (.builtin "dict.get") [.ref a,u,r]) Q E s:=by
 rcases g with⟨kvs,k,e,ey,l⟩|⟨kvs,k,b,e,ey,eb,l⟩
 ·subst ey;obtain⟨z,hd,vs,cU,dd⟩:=ym I.aG e;refine Kl aa2 dd.typeIs aqJ (aqD _ _ _) (meets_dict_get_default (fC X.prog X.w) a (ug ry) hd r) ⟨_,dd.mapOf,h _ _ (I.f_ _) ?_⟩;rw[l];exact(cU.val k).getD rd
 ·subst ey
  cases(ry);obtain⟨z,hd,xs,cU,dd⟩:=yo I.aG e;refine Kl aa2 dd.typeIs aqJ (aqD _ _ _) (meetsH_dict_get_default (ve (fC X.prog X.w)) a b hd r) ⟨J4 hu,k,xs,yn I.aG eb,dd,h _ _ (I.f_ _) ?_⟩;rw[l];exact(cU.val k).getD rd
end
inductive afTI(ty:TE)(tx:TE)(σ:St)(Q:VK)(x:V)(H1:Hp):Prop|mk:∀a,x=.ref a->Mw H1 a->(ty σ H1 λy H2=>tx σ H2 λz H3=> ∃o,iO H3 a y o/\Q (o.getD z) H3)->afTI ty tx σ Q x H1
def afT(td ty tx:TE):TE:=fun σ H Q=>td σ H (afTI ty tx σ Q)
section
variable{X:Cx}{o e f:Expr}{fT fU:Pos}{td ty tx:TE}
def afU(hu:X.A.units+1<cLine)(ho:PE X o td)(he:PE X e ty)(hf:PE X f tx)(m:M2 X o "get" fT e f fU):PE X (.Call (.Attribute o "get" fT) [e,f] [] fU) (afT td ty tx):=by
 intro ae s σ H Q I h;refine J7 m.base m.cT m.line JX aa2 PySem.F.type_dict_get (aQ (ho ae s σ H _ I h) λu s1⟨x,H1,I1,rx,a,ex,d,q1⟩=>?_);subst ex;obtain rfl:u=dA a:=rx;obtain⟨t1,t2,_⟩:=Ux I1 d;exists t1,t2;rw[m.Uw];refine aa3 rfl (abd (uZ (aQ (he ae s1 σ H1 _ I1 q1) λiv s2⟨y,H2,I2,ry,q2⟩=>
  uZ (aQ (hf ae s2 σ H2 _ I2 q2) λfv s3⟨z,H3,I3,rz,ov,g,q3⟩=>zY ?_))))
 exact afS hu I3 g ry rz λw' s4 I4 kb=>⟨_,H3,I4,kb,q3⟩
end
def afV:Ak "reversed" =some (.type "reversed"):=by x_go
section
variable{X:Cx}{ae:List (ag×Obj)}{σ:St}{H:Hp}{s:aR}{h':Heap}
def aq.Mx{ch:bp}(I:aq X ae σ H s)(k: ∀b o,b∉ch->s.heap.get? b=some o->h'.get? b=some o)(hf: ∀b∈ch,oq X ae H b):aq X ae σ H {s with heap:=h',toks:=t'}:=by
 have SY: ∀b u,H b=some u->b∉ch:=λb u e z=>by
  have q:=(hf b z).1;rw[q]at e;cases e
 refine I.step (g':=s.gens) (d':=s.drawn) (ch:=ch) (λb hb=>⟨(hf b hb).2.2.2.1,(hf b hb).2.1,(hf b hb).2.2.2.2.1,(hf b hb).2.2.2.2.2⟩) (λb o _ _ hc e _=>k b o hc e) (λb o _ _ hc e _=>⟨o.slots,k b o hc e⟩)
  (λ_ _ _ _ n=>n) (λb o hc e=>⟨o,k b o hc e⟩) (λ_ _ e=>e) (λ_ _ _ e=>e) (λb ps e=>⟨#[],by rw[e];simp⟩) (λm hm=>?_) (λb u e=>?_) I.gV
 ·obtain⟨o,es,ep,ho,r⟩:=hm;exact⟨o,es,ep,k _ o (λz=>(hf _ z).2.1 rfl) ho,r⟩
 ·refine(I.aG b u e).fi (λc v hc q=>k c v ?_ q) (λ_ q=>q) λ_ _ q=>q;fin2
def aq.yp{ch:bp}{T:ag}(I:aq X ae σ H s)(k: ∀b o,b∉ch->s.heap.get? b=some o->h'.get? b=some o)(hf: ∀b∈ch,oq X ae H b)(hT:s.heap.objs.size<=T)
  (new:dN X.prog X.w (aa H T ob) h' T ob):aq X ae σ (aa H T ob) {s with heap:=h',toks:=t'}:=by
 have hn:=I.aG.fresh hT;have SY: ∀b u,H b=some u->b∉ch:=λb u e z=>by
  have q:=(hf b z).1;rw[q]at e;cases e
 refine I.step (g':=s.gens) (d':=s.drawn) (ch:=ch) (λb hb=>⟨(hf b hb).2.2.2.1,(hf b hb).2.1,(hf b hb).2.2.2.2.1,(hf b hb).2.2.2.2.2⟩) (λb o _ _ hc e _=>k b o hc e) (λb o _ _ hc e _=>⟨o.slots,k b o hc e⟩)
  (λb o _ e n=>?_) (λb o hc e=>⟨o,k b o hc e⟩) (λb xs e=>?_) (λb o u e=>?_) (λb ps e=>⟨#[],?_⟩) (λm hm=>?_) (λb u e=>?_) I.gV
 ·rw[aw (d7 (iC (bO e) hT))];exact n
 ·rw[aw (aF e hn)];exact e
 ·rw[aw (aF e hn)];exact e
 ·rw[aw (aF e hn),e];simp
 ·obtain⟨o,es,ep,ho,r⟩:=hm;exact⟨o,es,ep,k _ o (λz=>(hf _ z).2.1 rfl) ho,r⟩
 ·by_cases hb:b=T
  ·subst hb;rw[ao]at e
   cases e;exact new
  ·rw[aw hb]at e;refine(I.aG b u e).fi (λc v hc q=>k c v ?_ q) (λc q=>by rw[aw (aF q hn)];exact q) λc xs q=>by rw[aw (aF q hn)];exact q
   fin2
def aq.Uy(I:aq X ae σ H s)(h:H d=some u)(mu:r8 (some u)): ∃od,aq X ae σ (aa H d (.bu od u)) s:=by
 have x:=I.aG d u h;have ex: ∃od,s.heap.get? d=some od:=by
  cases u with
  |af xs=>obtain⟨_,_,_,_,e⟩:=x;exact⟨_,e⟩
  |dK kvs=>obtain⟨_,_,_,_,o,_,_,e,_⟩:=x;exact⟨o,e⟩
  |dT kvs=>obtain⟨_,_,_,_,o,_,_,e,_⟩:=x;exact⟨o,e⟩
  |set S n=>obtain⟨o,_,_,_,e,_⟩:=x;exact⟨o,e⟩
  |aB C dx fs=>obtain⟨_,_,_,e,_⟩:=x;exact⟨_,e⟩
  |ext φ=>obtain⟨_,⟨_,e⟩,_⟩:=x;exact⟨_,e⟩
  |_=>exact lG mu
 obtain⟨od,e⟩:=ex;have new:dN X.prog X.w (aa H d (.bu od u)) s.heap d (.bu od u):=by
  refine⟨e,x.fi (λb v _ q=>q) (λb q=>?_) λb xs q=>?_⟩
  ·rw[aw (λz=>by rw[z,h]at q;cases q;exact mu)];exact q
  ·rw[aw (λz=>by rw[z,h]at q;cases q;exact mu)];exact q
 exact⟨od,I.qC (x:=d) (e:=d) (t':=s.toks) (h':=s.heap) (by rw[h];exact mu) (.inl rfl) (λb v _ q=>q) ⟨od,e⟩ new⟩
def aq.By(I:aq X ae σ H s)(h:H d=some u)(mu:r8 (some u)): ∀o' u',X.vA d≠some (.bu o' u'):=λo' u' e=>by
 have q:=I.base.pI d o' u' e;rw[h]at q
 cases q;exact mu
def aq.Bz{d:ag}{od:Obj}{u:HO}(I:aq X ae σ H s)(h:H d=some (.bu od u))(hn: ∀o' u',X.vA d≠some (.bu o' u')):aq X ae σ (aa H d u) s:=by
 have yq: ∀b o,H b=some o->(∀o' u',o≠.bu o' u')->b≠d:=λb o e hne z=>by
  fin2
 have Hh: ∀b,H b=none->b≠d:=λb e z=>by lk
 refine⟨I.ok,I.os,I.gV,⟨I.base.keep,I.base.slot,λb o e n hx=>?_,I.base.there,λb xs e=>?_,λb o x e=>?_,λb ps e=>?_⟩,I.jt,I.cell,?_,λx c e=>?_,λp hp=>?_,λb o e=>?_,I.len⟩
 ·rw[aw (Hh b (I.base.free b o e n hx))];exact I.base.free b o e n hx
 ·have q:=I.base.r9 b xs e;rw[aw (yq b _ q (λ_ _ z=>nomatch z))];exact q
 ·have q:=I.base.pI b o x e;rw[aw (λz=>by lk)];exact q
 ·obtain⟨m,q⟩:=I.base.t5 b ps e;exact⟨m,by rw[aw (yq b _ q (λ_ _ z=>nomatch z))];exact q⟩
 ·rw[aw (Hh _ I.free)];exact I.free
 ·rw[aw (Hh c (I.l_ x c e))];exact I.l_ x c e
 ·obtain⟨e,n,r⟩:=I.lK p hp;exact⟨e,by rw[aw (Hh _ n)];exact n,r⟩
 ·by_cases hb:b=d
  ·rw[hb,ao]at e
   cases e;rw[hb];obtain⟨_,x⟩:=I.aG d _ h;exact x.fi (λc v _ q=>q) (λc q=>by rw[aw (yq c _ q (λ_ _ z=>nomatch z))];exact q) λc xs q=>by rw[aw (yq c _ q (λ_ _ z=>nomatch z))];exact q
  ·rw[aw hb]at e;exact(I.aG b o e).fi (λc v _ q=>q) (λc q=>by rw[aw (yq c _ q (λ_ _ z=>nomatch z))];exact q) λc xs q=>by rw[aw (yq c _ q (λ_ _ z=>nomatch z))];exact q
end
inductive afW(t:TS)(D:sg)(σ:St)(H:Hp):Prop|mk:∀d u,H d=some u->r8 (some u)->(∀od,t ⟨fun aL H'=>H' d=some (.bu od u)/\D.nx aL (aa H' d u),λv H'=>H' d=some (.bu od u)/\D.rt v (aa H' d u),fun aL H'=>H' d=some (.bu od u)/\D.bk aL (aa H' d u),fun aL H'=>H' d=some (.bu od u)/\D.ct aL (aa H' d u)⟩ σ (aa H d (.bu od u)))->afW t D σ H
inductive afX(t:TE)(σ:St)(H:Hp)(Q:VK):Prop|mk:∀d u,H d=some u->r8 (some u)->(∀od,t σ (aa H d (.bu od u)) λv H'=>H' d=some (.bu od u)/\Q v (aa H' d u))->afX t σ H Q
section
variable{X:Cx}
def Uz{st:Stmt}(h:PS X st t):PS X st (afW t):=by
 intro ae s σ H D I hw;obtain⟨d,u,hd,mu,hw⟩:=hw;obtain⟨od,I1⟩:=I.Uy hd mu;refine aQ (h ae s σ _ _ I1 (hw od)) λf s1 q=>?_
 cases f with
 |next=>obtain⟨aL,H',I2,e,q⟩:=q;exact⟨aL,_,I2.Bz e (I.By hd mu),q⟩
 |brk=>obtain⟨aL,H',I2,e,q⟩:=q;exact⟨aL,_,I2.Bz e (I.By hd mu),q⟩
 |cont=>obtain⟨aL,H',I2,e,q⟩:=q;exact⟨aL,_,I2.Bz e (I.By hd mu),q⟩
 |ret v=>obtain⟨x,aL,H',I2,r,e,q⟩:=q;exact⟨x,aL,_,I2.Bz e (I.By hd mu),r,q⟩
def afY{e:Expr}{t:TE}(h:PE X e t):PE X e (afX t):=by
 intro ae s σ H Q I hw;obtain⟨d,u,hd,mu,hw⟩:=hw;obtain⟨od,I1⟩:=I.Uy hd mu;exact aQ (h ae s σ _ _ I1 (hw od)) λv s1⟨x,H1,I2,r,e2,q⟩=>⟨x,_,I2.Bz e2 (I.By hd mu),r,q⟩
def BA{σ:St}(I:aq X ae σ H s)(o:Obj)
  (T:md X.prog X.w X.K tg J [s.heap.objs.size] s.heap.objs.size tn)(st:tn 0 (s.heap.push o))(q:R J H):Be X ae σ tg R (.ref s.heap.objs.size) {s with heap:=s.heap.push o,toks:=tk}:=by
 refine⟨s.heap.objs.size,[s.heap.objs.size],tn,J,H,rfl,I.dX λb ob e=>bH _ e,T,st,λb hb=>?_,q⟩;have e:b=s.heap.objs.size:=by simpa using hb
 subst e;exact I.sn (aW _) (I.aG.fresh (aW _))
end
def BB(lo c:Int)(n:Nat):It:=⟨λi _=>i<n,λi H x H'=>H'=H/\x=.int (lo+(i:Nat)*c),λi _=>n<=i⟩
def afZ{P:bj}{w:a_}{K:aP}{tg:Expr}(it:ag)(lo c:Int)(n:Nat):md P w K tg (BB lo c n) [it] it (λi h=>IsRangeIter h it (lo+(i:Nat)*c) ((n:Int)-(i:Nat)) c) where
 mem:=by simp
 obj:=λi h st b hb=>by
  have e:b=it:=by simpa using hb
  subst e;exact⟨_,st,λv z=>nomatch z⟩
 keep:=λi h h' st k=>k it (by simp) _ st;item:=by
  intro X hP hw hK hc i ae s σ H E I hf st hg;subst hP hw hK;obtain⟨f0,f1,f2,f3,f4,f5⟩:=hf it (by simp);have W:=asq (prog:=X.prog) (w:=X.w) (I.ok.hd hc) it lo c n;refine W.item i s _ _ hg st λv h' tk hv jw kk=>?_;obtain⟨t,rfl⟩:=hv;have I1:aq X ae σ H {s with heap:=h',toks:=tk}:=I.fg (λb o hb e=>kk b o (by simpa using hb) e) f0 f1 f3 f4 f5;exact⟨_,rfl,xY (s:={s with heap:=h',toks:=tk}) (n:="range_iterator") jw rfl rfl (by room) ⟨.int (lo+(i:Nat)*c),H,I1,⟨t,rfl⟩,⟨rfl,rfl⟩,jw,λb hb=>(hf b hb).1⟩⟩
 done:=by
  intro X hP hw hK hc i ae s σ H E I hf st hg;subst hP hw hK;obtain⟨f0,f1,f2,f3,f4,f5⟩:=hf it (by simp);exact arp (I.ok.hd hc) st (by have:n<=i:=hg;lia) λh' eb=>⟨rfl,I.fg (t':=s.toks) (λb o hb e=>eb b o hb e) f0 f1 f3 f4 f5⟩
 self:=λA i s Q E st h=>arq st h
def UA(i j c:Int)(n:Nat):Prop:=c≠0/\c.natAbs<1073741824/\aqv i j c=true/\aaW i j c=n
inductive af0I(R:It->Hp->Prop)(vs:List V)(H1:Hp):Prop|mk:∀i j c n,vs=[.int i,.int j,.int c]->UA i j c n->R (BB i c n) H1->af0I R vs H1
def af0(ta:TA):TI:=fun σ H R=>ta σ H (af0I R)
section
variable{X:Cx}{tg:Expr}
def af1{a b c:Expr}{ta:TA}{p pos:Pos}(hg:Gl X "range")(hm:X.mg "range" =none)(ha:PA X [a,b,c] ta)
  (hs:autoParam (bV [a,b,c] X.ai=(false,eval a X.ai)::bV [b,c] X.ai) zA._auto_1)(dH:autoParam ((gp pos (bV [b,c] X.ai)).any (·.1)=false) zA._auto_1):
  PI X tg (.Call (.Name "range" p) [a,b,c] [] pos) (af0 ta):=by
 intro ae s σ H R I h;refine Call_ (jv I hg hm Kt (nV (aQ (ha pos ae s σ H _ I h) λus s1⟨vs,H1,I1,r1,q1⟩=>?_) hs dH));obtain⟨i,j,k,n,e,⟨c0,c1,c2,c3⟩,q⟩:=q1;subst e
 cases r1 with
 |cons r rr=>
  cases rr with
  |cons r' rr=>
   cases rr with
   |cons ui rr=>
    cases rr;obtain⟨t,rfl⟩:=r;obtain⟨t',rfl⟩:=r';obtain⟨t'',rfl⟩:=ui;refine call_range_3 c0 ?_ (.inl (PyProof.noPylong_small c1));refine ar_ (ar2 ..) c2 ?_;have I2:aq X ae σ H1 {s1 with heap:=s1.heap.push {cls:=.type "range",data:=.fields #[.int i t,.int j t',.int k t'']}}:=I1.dX (t':=s1.toks) λb o e=>bH _ e;refine BA (tk:=s1.toks) I2 _ (afZ _ i k n) ?_ q;have e1:i+((0:Nat):Int)*k=i:=by simp
    have e2:(n:Int)-((0:Nat):Int)=aaW i j k:=by rw[c3];simp
    rw[e1,e2];exact cJ _ rfl
end
section
variable{prog:bj}{w:a_}{A:eJ}{E:au->aR->Prop}{s:aR}
def My(hd:(d==i0)=false)(ho:s.heap.get? d=some o)(hc:o.ExactDict)(iP:o.data=.dict es ep)
  (hQ:Q (.ref s.heap.objs.size) {s with heap:=s.heap.push {cls:=.type "dict_keyiterator",data:=.fields #[.ref d,.int 0 0,.int es.size 0,.int ep 0]}}):
  wpAny (model prog w) A (qt (.ref d)) Q E s:=by
 have hT:s.TypeIs (.ref d) "dict" :=⟨o,ho,hc.1⟩
 refine z8 hT ase (jg ase hT F.entry_dict_iter ?_ (F.args_dict_iter_1 _));refine ah ?_;refine ah (Qu hT ?_);refine az ?_;show wpAny _ _ (Qp d>>=_) _ _ s;unfold Qp;rw[if_neg (by lk)];refine ah (az ?_);refine ah (rN ho iP ?_);refine ah (u_ ho iP ?_);refine ah (j4 (az ⟨_,rfl,"dict_keyiterator",_,⟨_,cJ _ rfl,rfl⟩,F.slot_dict_keyiterator_next.lookup,?_⟩));simpa[cw]using hQ
def UB(cV:s.heap.IsKeyIter it d i n ep)(ie:s.heap.get? d=some od)(nA:od.data=.dict es ep)
  (hsz:es.size=n)(hx:es[i]?=some en)(hQ: ∀h',h'.IsKeyIter it d (i+1) n ep->jM it s.heap h'->Q (some en.key) {s with heap:=h'}):wpAny (model prog w) A (j5 (.ref it)) Q E s:=by
 obtain⟨o,ho,hc,hd⟩:=id cV;refine ah (nZ (mL (name:=kH "__next__") cV.typeIs Qm (jg Qm cV.typeIs aqC ?_ (aqz _))))
 refine ah (az ?_);refine ah ?_;refine ah ?_;first|refine ah (Ql cV.typeIs (az ?_))|refine ah (wpAny_typeNameOf_keyiter cV.typeIs (az ?_))
 refine ah (tH ho hd ?_);have Mz:xa "dict_keyiterator" =false:=by room
 simp only[Mz,kE,if_false];show wpAny _ _ (if(dA d==im)=true then _ else _) _ _ s;rw[if_neg (show ¬((dA d==im)=true)from ik)];refine ah (az ?_);refine ah (rN ie nA ?_);rw[if_neg (by rw[hsz];simp)];refine ah (az ?_);refine ah (u_ ie nA ?_);rw[if_neg (by simp)];refine az ?_;obtain⟨sB,qK⟩:=aaZ.mp hx;simp only[show ¬((i:Int)<0)from by lia,if_false,jf,qj sB];refine ah ?_;first|refine ah (Ql cV.typeIs (az ?_))|refine ah (wpAny_typeNameOf_keyiter cV.typeIs (az ?_))
 refine ah (arF cV.typeIs ?_);show wpAny _ _ (FV (.ref it) 1 (cw ((i:Int)+1))>>=_) _ _ s;refine ah (rP ho hd (by simp) ?_);have ox:(s.heap.update it (va (·.setIfInBounds 1 (cw ((i:Int)+1))))).IsKeyIter it d (i+1) n ep:=
  ⟨_,o5 _ ho (FF (qk hd _)),(J5 ..).trans hc,by rw[qk hd];simp[cw]⟩
 refine ah (kG ?_);refine ah (arF (s:={s with heap:=s.heap.update it (va (·.setIfInBounds 1 (cw ((i:Int)+1))))}) ox.typeIs ?_);show wpAny _ _ (pure es[i].key) _ _ _;rw[qK];exact az (az ⟨_,rfl,az (hQ _ ox (lz ..))⟩)
def MA(hh:A.handled=none)(cV:s.heap.IsKeyIter it d i n ep)(ie:s.heap.get? d=some od)(nA:od.data=.dict es ep)
  (hsz:es.size=n)(mq:n<=i)(hQ: ∀h',Kj it s.heap h'->Q none {s with heap:=h'}):wpAny (model prog w) A (j5 (.ref it)) Q E s:=by
 obtain⟨o,ho,hc,hd⟩:=id cV;refine ah (nZ (mL (name:=kH "__next__") cV.typeIs Qm (jg Qm cV.typeIs aqC ?_ (aqz _))))
 refine ah (az ?_);refine ah ?_;refine ah ?_;first|refine ah (Ql cV.typeIs (az ?_))|refine ah (wpAny_typeNameOf_keyiter cV.typeIs (az ?_))
 refine ah (tH ho hd ?_);have Mz:xa "dict_keyiterator" =false:=by room
 simp only[Mz,kE,if_false];show wpAny _ _ (if(dA d==im)=true then _ else _) _ _ s;rw[if_neg (show ¬((dA d==im)=true)from ik)];refine ah (az ?_);refine ah (rN ie nA ?_);rw[if_neg (by rw[hsz];simp)];refine ah (az ?_);refine ah (u_ ie nA ?_);rw[if_neg (by simp)];refine az ?_;have MB:es.size<=i:=by rw[hsz];exact mq
 simp only[by omega,if_false,jf,JT MB];refine ah ?_;first|refine ah (Ql cV.typeIs (az ?_))|refine ah (wpAny_typeNameOf_keyiter cV.typeIs (az ?_))
 show wpAny _ _ (FV (.ref it) 0 .none>>=_) _ _ s;refine ah (rP ho hd (by simp) ?_);show wpAny _ _ (As (.type "StopIteration") []>>=_) _ _ _;refine ah ?_;simp only[As,Kw];refine ah (j4 ?_ (by size_fits));refine ah (m:=tJ _ _) (FT (a:=im) (by first|rfl|(simp only[tJ];rfl)) ?_);refine j4 ?_ (by size_fits);simp only[Kv];refine ah (Kh ?_);rw[hh];refine ah (az (Kp ?_));refine ah (u7 (T:="StopIteration") (b:=true) ⟨_,cJ _ rfl,rfl⟩ Ae ?_);exact az (hQ _ (((lz ..).extBut.push _).push _))
end
def UC{κ:Type}{kvs:List (κ×V)}{vs:List (κ×au)}(h:KV kvs vs): ∀{i:Nat}{k:κ}{v:V},kvs[i]?=some (k,v)-> ∃u,vs[i]?=some (k,u)/\bJ v u:=by
 induction h with
 |nil=>intro i k v e;simp at e
 |@cons a b vy vz r t ih=>
  intro i k v e
  cases i with
  |zero=>
   fin2
  |succ j=>
   exact ih e
def Hi{α β:Type}{G:α->β->Prop}{vy:List α}{vz:List β}(h:qu G vy vz): ∀{i:Nat}{a:α},vy[i]?=some a-> ∃b,vz[i]?=some b/\G a b:=by
 induction h with
 |nil=>intro i a e;simp at e
 |@cons a b vy vz r t ih=>
  intro i a' e
  cases i with
  |zero=>
   lk
  |succ j=>
   exact ih e
def MC(h:tZ k u=true):bJ (kV k) u:=by
 rcases qA h with⟨i,t,rfl,rfl⟩|⟨x,t,rfl,rfl⟩
 ·exact⟨t,rfl⟩
 ·exact⟨t,rfl⟩
section
variable{X:Cx}{ae:List (ag×Obj)}{σ:St}{H:Hp}{s:aR}{d:ag}{o:Obj}
def aq.yr(I:aq X ae σ H s)(h:H d=some (.bu o (.dK kvs))):
  (d==i0)=false/\s.heap.get? d=some o/\o.ExactDict/\ ∃es ep vs,o.data=.dict es ep/\es.size=kvs.length/\KV kvs vs/\s.heap.DictAt (fC X.prog X.w) d vs ep:=by
 obtain⟨hd,z,hs,vs,kv,o',es,ep,ho,hx,dj,r⟩:=I.aG d _ h;rw[hd]at ho
 cases ho;refine⟨hs,hd,hx,es,ep,vs,dj,?_,kv,o,es,hd,hx,dj,r⟩;have l1:=r.2.1.length;have l2:=mQ kv;lk
def aq.MD(I:aq X ae σ H s)(h:H d=some (.bu o (.dT kvs))):
  (d==i0)=false/\s.heap.get? d=some o/\o.ExactDict/\ ∃(es:Array n9)(ep:Nat),o.data=.dict es ep/\es.size=kvs.length/\∀(i:Nat) k v,kvs[i]?=some (k,v)-> ∃(en:n9)(q:ag),es[i]?=some en/\en.key=.ref q/\H q=some (.aE (k.map kV)):=by
 obtain⟨hd,z,hs,xs,pr,o',es,ep,ho,hx,dj,he,_⟩:=I.aG d _ h;rw[hd]at ho
 cases ho;refine⟨hs,hd,hx,es,ep,dj,?_,λi k v e=>?_⟩
 ·have l1:=abQ he;have l2:=mQ pr;lia
 ·obtain⟨b,hb,e1,e2,_⟩:=Hi pr e;have q:=acm he i;rw[hb]at q;exact⟨_,b.2.1,q,rfl,e2⟩
end
def BC(d:ag)(o:Obj)(kvs:List (bR×V)):It:=
 ⟨λi H=>H d=some (.bu o (.dK kvs))/\i<kvs.length,λi H x H'=>H'=H/\ ∃k v,kvs[i]?=some (k,v)/\x=kV k,λi H=>H d=some (.bu o (.dK kvs))/\kvs.length<=i⟩
def UD(d:ag)(o:Obj)(kvs:List (List bR×V)):It:=
 ⟨λi H=>H d=some (.bu o (.dT kvs))/\i<kvs.length,λi H x H'=>H'=H/\ ∃k v q,kvs[i]?=some (k,v)/\x=.ref q/\H q=some (.aE (k.map kV)),λi H=>H d=some (.bu o (.dT kvs))/\kvs.length<=i⟩
def BD(d:ag)(o:Obj)(kvs:List (bR×V)):It:=
 ⟨λi H=>H d=some (.bu o (.dK kvs))/\i<kvs.length,λi H x H'=> ∃T k v,kvs[i]?=some (k,v)/\x=.ref T/\H T=none/\H'=aa H T (.aE [kV k,v]),λi H=>H d=some (.bu o (.dK kvs))/\kvs.length<=i⟩
def uj{o:Obj}(h:o.data=.dict es ep)(h':o.data=.dict gX mY):gX=es/\mY=ep:=by
 lk
section
variable{P:bj}{w:a_}{K:aP}{tg:Expr}{d:ag}{o:Obj}{es:Array n9}{ep:Nat}
def af2(it:ag)(ie:o.data=.dict es ep):md P w K tg (BC d o kvs) [it] it (λi h=>h.IsKeyIter it d i kvs.length ep) where
 mem:=by simp
 obj:=λi h st b hb=>by
  have e:b=it:=by simpa using hb
  subst e;obtain⟨oi,e,c,dd⟩:=st;lk
 keep:=λi h h' st k=>st.at λoi e=>k it (by simp) oi e;item:=by
  intro X hP hw hK hc i ae s σ H E I hf st hg;subst hP hw hK;obtain⟨hd,hi⟩:=hg;obtain⟨f0,f1,f2,f3,f4,f5⟩:=hf it (by simp);obtain⟨hs,iQ,hx,gX,mY,vs,dj,hsz,kv,hm⟩:=I.yr hd;obtain⟨rfl,rfl⟩:=uj ie dj;obtain⟨⟨k,v⟩,gM⟩: ∃p,kvs[i]?=some p:=⟨kvs[i],eh hi⟩
  obtain⟨u,hu,ru⟩:=UC kv gM;have hl:=mQ kv;rw[hl]at st;refine wpAny_pyNext_dict_item st hm hu λkey h' lL jw sb=>?_;have I1:=I.fg (t':=s.toks) (λb ob hb e=>(sb.2 b hb).trans e) f0 f1 f3 f4 f5;obtain⟨oi,e,c,dd⟩:=id jw;refine⟨key,rfl,xY (s:={s with heap:=h'}) e c dd (by room) ⟨kV k,H,I1,MC (lL),⟨rfl,k,v,gM,rfl⟩,?_,λb hb=>(hf b hb).1⟩⟩;rw[hl];exact jw
 done:=by
  intro X hP hw hK hc i ae s σ H E I hf st hg;subst hP hw hK;obtain⟨hd,hi⟩:=hg;obtain⟨f0,f1,f2,f3,f4,f5⟩:=hf it (by simp);obtain⟨hs,iQ,hx,gX,mY,vs,dj,hsz,kv,hm⟩:=I.yr hd;obtain⟨rfl,rfl⟩:=uj ie dj;exact MA (I.ok.hd hc) st iQ dj hsz hi λh' eb=>⟨rfl,I.fg (t':=s.toks) (λb ob hb e=>eb b ob hb e) f0 f1 f3 f4 f5⟩
 self:=λA i s Q E st h=>arN st h
def af3(it:ag)(ie:o.data=.dict es ep):md P w K tg (UD d o kvs) [it] it (λi h=>h.IsKeyIter it d i kvs.length ep) where
 mem:=by simp
 obj:=λi h st b hb=>by
  have e:b=it:=by simpa using hb
  subst e;obtain⟨oi,e,c,dd⟩:=st;lk
 keep:=λi h h' st k=>st.at λoi e=>k it (by simp) oi e;item:=by
  intro X hP hw hK hc i ae s σ H E I hf st hg;subst hP hw hK;obtain⟨hd,hi⟩:=hg;obtain⟨f0,f1,f2,f3,f4,f5⟩:=hf it (by simp);obtain⟨hs,iQ,hx,gX,mY,dj,hsz,vY⟩:=I.MD hd;obtain⟨rfl,rfl⟩:=uj ie dj;obtain⟨⟨k,v⟩,gM⟩: ∃p,kvs[i]?=some p:=⟨kvs[i],eh hi⟩
  obtain⟨en,q,qK,lL,hq⟩:=vY i k v gM;refine UB st iQ dj hsz qK λh' jw sb=>?_;have I1:=I.fg (t':=s.toks) (λb ob hb e=>(sb.2 b hb).trans e) f0 f1 f3 f4 f5;obtain⟨oi,e,c,dd⟩:=id jw;exact⟨en.key,rfl,xY (s:={s with heap:=h'}) e c dd (by room) ⟨.ref q,H,I1,lL,⟨rfl,k,v,q,gM,rfl,hq⟩,jw,λb hb=>(hf b hb).1⟩⟩
 done:=by
  intro X hP hw hK hc i ae s σ H E I hf st hg;subst hP hw hK;obtain⟨hd,hi⟩:=hg;obtain⟨f0,f1,f2,f3,f4,f5⟩:=hf it (by simp);obtain⟨hs,iQ,hx,gX,mY,dj,hsz,vY⟩:=I.MD hd;obtain⟨rfl,rfl⟩:=uj ie dj;exact MA (I.ok.hd hc) st iQ dj hsz hi λh' eb=>⟨rfl,I.fg (t':=s.toks) (λb ob hb e=>eb b ob hb e) f0 f1 f3 f4 f5⟩
 self:=λA i s Q E st h=>by
  refine z8 st.typeIs aqI (jg aqI st.typeIs F.entry_dict_keyiterator_iter ?_ (F.args_dict_keyiterator_iter_1 _));exact az ⟨_,rfl,"dict_keyiterator",_,st.typeIs,F.slot_dict_keyiterator_next.lookup,h⟩
def af4{kvs:List (bR×V)}{elts:List Expr}{kk:Nat}{fE:Pos}(it:ag)(ie:o.data=.dict es ep):
  md P w K (.Tuple elts kk fE) (BD d o kvs) [it] it (λi h=> ∃ok ov,xu h it d i kvs.length ep ok ov) where
 mem:=by simp
 obj:=λi h st b hb=>by
  have e:b=it:=by simpa using hb
  subst e;obtain⟨ok,ov,e⟩:=st;exact⟨_,e,λv z=>nomatch z⟩
 keep:=λi h h' st k=>let⟨ok,ov,e⟩:=st;⟨ok,ov,k it (by simp) _ e⟩;item:=by
  intro X hP hw hK hc i ae s σ H E I hf st hg;subst hP hw hK;obtain⟨hd,hi⟩:=hg;obtain⟨hs,iQ,hx,gX,mY,vs,dj,hsz,kv,hm⟩:=I.yr hd;obtain⟨rfl,rfl⟩:=uj ie dj;obtain⟨⟨k,v⟩,gM⟩: ∃p,kvs[i]?=some p:=⟨kvs[i],eh hi⟩
  obtain⟨u,hu,ru⟩:=UC kv gM;have hl:=mQ kv;obtain⟨ok,ov,he⟩:=st;rw[hl]at he;have a9:=bO he;refine wpAny_pyNext_items_item he hm hu λkey h' lL ho hT hz hk=>⟨_,rfl,aqN (s:={s with heap:=h'}) ho λlM uk sb=>?_⟩
  have kg:=(sb.2 _ (kI a9)).trans hT;have new:dN X.prog X.w (aa H s.heap.objs.size (.aE [kV k,v])) lM s.heap.objs.size (.aE [kV k,v]):=
   ⟨by show 2<=bh;decide,[key,u],.cons (MC (lL)) (.cons ru .nil),⟨_,kg,rfl,_,rfl⟩⟩
  have I1:aq X ae σ (aa H s.heap.objs.size (.aE [kV k,v])) {s with heap:=lM}:=
   I.yp (t':=s.toks) (ch:=[it]) (λb ob hb e=>(sb.2 b (by simpa using hb)).trans (hk b ob (by simpa using hb) e)) hf (aW _) new
  refine⟨.ref s.heap.objs.size,_,I1,rfl,⟨_,k,v,gM,rfl,I.aG.fresh (aW _),rfl⟩,⟨key,u,?_⟩,λb hb=>?_⟩
  ·rw[hl];exact uk
  ·have e:b=it:=by simpa using hb
   rw[e,aw (d7 a9)];exact(hf it (by simp)).1
 done:=by
  intro X hP hw hK hc i ae s σ H E I hf st hg;subst hP hw hK;obtain⟨hd,hi⟩:=hg;obtain⟨f0,f1,f2,f3,f4,f5⟩:=hf it (by simp);obtain⟨hs,iQ,hx,gX,mY,vs,dj,hsz,kv,hm⟩:=I.yr hd;obtain⟨rfl,rfl⟩:=uj ie dj;have hl:=mQ kv;obtain⟨ok,ov,he⟩:=st;rw[hl]at he;exact wpAny_pyNext_items_end (I.ok.hd hc) he hm (JW (by lia)) λh' eb=>⟨rfl,I.fg (t':=s.toks) (λb ob hb e=>eb b ob hb e) f0 f1 f3 f4 f5⟩
 self:=λA i s Q E st h=>let⟨_,_,e⟩:=st;aq7 e h
end
inductive af5I(R:It->Hp->Prop)(x:V)(H1:Hp):Prop|mk:∀d o,x=.ref d->((∃kvs,H1 d=some (.bu o (.dK kvs))/\R (BC d o kvs) H1)\/ ∃kvs,H1 d=some (.bu o (.dT kvs))/\R (UD d o kvs) H1)->af5I R x H1
def af5(td:TE):TI:=fun σ H R=>td σ H (af5I R)
inductive af6I(R:It->Hp->Prop)(x:V)(H1:Hp):Prop|mk:∀d o kvs,x=.ref d->H1 d=some (.bu o (.dK kvs))->R (BD d o kvs) H1->af6I R x H1
def af6(td:TE):TI:=fun σ H R=>td σ H (af6I R)
section
variable{X:Cx}{tg e:Expr}{td:TE}{fT fU:Pos}
def af7(he:PE X e td):PI X tg e (af5 td):=by
 intro ae s σ H R I h;refine aQ (he ae s σ H _ I h) λu s1⟨x,H1,I1,rx,d,o,ex,q⟩=>?_;subst ex;obtain rfl:u=dA d:=rx;rcases q with⟨kvs,hd,q⟩|⟨kvs,hd,q⟩
 ·obtain⟨hs,iQ,hx,es,ep,vs,dj,hsz,kv,hm⟩:=I1.yr hd;refine My hs iQ hx dj (BA (tk:=s1.toks) I1 _ (af2 _ dj) ⟨_,cJ _ rfl,rfl,?_⟩ q);rw[hsz]<;>rfl
 ·obtain⟨hs,iQ,hx,es,ep,dj,hsz,vY⟩:=I1.MD hd;refine My hs iQ hx dj (BA (tk:=s1.toks) I1 _ (af3 _ dj) ⟨_,cJ _ rfl,rfl,?_⟩ q);rw[hsz]<;>rfl
def af8{elts:List Expr}{kk:Nat}{fE:Pos}(he:PE X e td)(vP:autoParam (xr e "items" X.ai (eval e X.ai)=eval e X.ai) zA._auto_1)(sy:autoParam ((fT.endLine==fU.line)=true) zA._auto_1):
  PI X (.Tuple elts kk fE) (.Call (.Attribute e "items" fT) [] [] fU) (af6 td):=by
 intro ae s σ H R I h;refine J7 (T:="dict") (id:="dict.items") vP rfl sy JX QB ar4 (aQ (he ae s σ H _ I h) λu s1⟨x,H1,I1,rx,d,o,kvs,ex,hd,q⟩=>?_);subst ex;obtain rfl:u=dA d:=rx;obtain⟨hs,iQ,hx,es,ep,vs,dj,hsz,kv,hm⟩:=I1.yr hd;have hl:=mQ kv;exists hm.dictOf.typeIs,hm.dictOf.mapOf.noDict;have I2:aq X ae σ H1 {s1 with heap:=s1.heap.push {cls:=.type "dict_items",data:=.fields #[.ref d]}}:=I1.dX (t':=s1.toks) λb ob q=>bH _ q;have bM:wpAny (model X.prog X.w) X.A (qt (.ref s1.heap.objs.size)) (Be X ae σ (.Tuple elts kk fE) R) X.xe {s1 with heap:=s1.heap.push {cls:=.type "dict_items",data:=.fields #[.ref d]}}:=by
  refine wpAny_pyIter_items (d:=d) (knd:=fC X.prog X.w) ⟨_,cJ _ rfl,rfl,rfl⟩ (hm.push _) (BA (tk:=s1.toks) I2 _ (af4 _ dj) ⟨.none,.none,?_⟩ q);rw[hl];exact cJ _ rfl
 exact abZ QB arR rfl (abh ⟨rfl,hm.dictOf.typeIs,arJ _,_,meets_dict_items (fC X.prog X.w) d hs,⟨vs,hm.dictOf⟩,bM⟩)
end
def ul(K:aP)(a:ag):It:=
 ⟨λi H=> ∃xs x,aJ K H a xs/\xs[i]?=some x,λi H v H'=> ∃T x,v=.ref T/\H T=none/\H'=aa H T (.aE [.int (i:Nat),x])/\ ∀xs,aJ K H a xs->xs[i]?=some x,λi H=> ∃xs:List V,aJ K H a xs/\xs.length<=i⟩
def af9{P:bj}{w:a_}{K:aP}{elts:List Expr}{kk:Nat}{fE:Pos}(a e it:ag):
  md P w K (.Tuple elts kk fE) (ul K a) [e,it] e (λi h=>(∃fA,IsEnum h e it ((i:Nat):Int) fA)/\h.IsListIter it a i/\e≠it) where
 mem:=by simp
 obj:=λi h st b hb=>by
  obtain⟨⟨fA,he⟩,⟨o,ho,hc,hd⟩,_⟩:=st;have e':b=e\/b=it:=by simpa using hb
  rcases e' with z|z
  ·rw[z];exact⟨_,he,λv q=>nomatch q⟩
  ·lk
 keep:=λi h h' st k=>let⟨⟨fA,he⟩,hi,hne⟩:=st;⟨⟨fA,k e (by simp) _ he⟩,hi.at λo q=>k it (by simp) o q,hne⟩;item:=by
  intro X hP hw hK hc i ae s σ H E I hf st hg;subst hP hw hK;obtain⟨⟨fA,he⟩,cV,hne⟩:=st;obtain⟨xs,x,hq,hx⟩:=hg;obtain⟨its,rv,p,hz⟩:=I.list hq;obtain⟨u,hu,ru⟩:=rv.get hx;have oy:=bO he;have g7:it<s.heap.objs.size:=by obtain⟨_,q,_⟩:=cV;exact bO q
  refine wpAny_pyNext_enum_item he cV p.isList (x:=u) (by simpa using hu) hne λh' ho ox hT hsz hk=>⟨_,rfl,wpAny_letOwnedTupleGo_enum (s:={s with heap:=h',toks:=s.toks+1}) ho λlM uk sb=>?_⟩
  have kg:=(sb.2 _ (kI oy)).trans hT;have new:dN X.prog X.w (aa H s.heap.objs.size (.aE [.int (i:Nat),x])) lM s.heap.objs.size (.aE [.int (i:Nat),x]):=
   ⟨by show 2<=bh;decide,[.int i s.toks,u],.cons ⟨_,rfl⟩ (.cons ru .nil),⟨_,kg,rfl,_,rfl⟩⟩
  have I1:aq X ae σ (aa H s.heap.objs.size (.aE [.int (i:Nat),x])) {s with heap:=lM,toks:=s.toks+1}:=
   I.yp (ch:=[e,it]) (λb ob hb q=>(sb.2 b (λz=>hb (by simp[z]))).trans (hk b ob (λz=>hb (by simp[z])) (λz=>hb (by simp[z])) q)) hf (aW _) new
  refine⟨.ref s.heap.objs.size,_,I1,rfl,⟨_,x,rfl,I.aG.fresh (aW _),rfl,λys hy=>by rw[I.sj hy hq];exact hx⟩,⟨⟨u,?_⟩,ox.at λo q=>(sb.2 it (qr hne)).trans q,hne⟩,λb hb=>?_⟩
  ·assumption
  ·have oz:b<s.heap.objs.size:=by
    have e':b=e∨b=it:=by simpa using hb
    rcases e' with z|z
    ·rw[z];exact oy
    ·rw[z];exact g7
   rw[aw (d7 oz)];exact(hf b hb).1
 done:=by
  intro X hP hw hK hc i ae s σ H E I hf st hg;subst hP hw hK;obtain⟨⟨fA,he⟩,cV,hne⟩:=st;obtain⟨xs,hq,hx⟩:=hg;obtain⟨its,rv,p,hz⟩:=I.list hq;obtain⟨f0,f1,f2,f3,f4,f5⟩:=hf it (by simp);have hl:=rv.length;exact wpAny_pyNext_enum_end (I.ok.hd hc) he cV p.isList (by simp;lia) λh' eb=>⟨rfl,I.fg (t':=s.toks) (λb o hb q=>eb b o hb q) f0 f1 f3 f4 f5⟩
 self:=λA i s Q E st h=>let⟨⟨_,he⟩,_⟩:=st;asn he h
inductive af_I(K:aP)(R:It->Hp->Prop)(vs:List V)(H1:Hp):Prop|mk:∀a xs,vs=[.ref a]->aJ K H1 a xs->R (ul K a) H1->af_I K R vs H1
def af_(K:aP)(ta:TA):TI:=fun σ H R=>ta σ H (af_I K R)
def qL{X:Cx}{e:Expr}{ta:TA}{p pos fE:Pos}{elts:List Expr}{kk:Nat}(hg:Gl X "enumerate")(hm:X.mg "enumerate" =none)(ha:PA X [e] ta)(hs:autoParam (bV [e] X.ai=[(false,eval e X.ai)]) zA._auto_1):
  PI X (.Tuple elts kk fE) (.Call (.Name "enumerate" p) [e] [] pos) (af_ X.K ta):=by
 intro ae s σ H R I h;refine Call_ (jv I hg hm boot_enumerate (nV (aQ (ha pos ae s σ H _ I h) λus s1⟨vs,H1,I1,r1,q1⟩=>?_) hs rfl));obtain⟨a,xs,ex,hq,q⟩:=q1;subst ex
 cases r1 with
 |cons r rr=>
  cases rr
  cases r;obtain⟨its,rv,p',hz⟩:=I1.list hq;refine call_enumerate_list p'.isList λh' he cV hsz hk=>asn he ?_;have I2:=I1.dX (t':=s1.toks) hk;refine⟨s1.heap.objs.size+1,[s1.heap.objs.size+1,s1.heap.objs.size],_,_,H1,rfl,I2,af9 a (s1.heap.objs.size+1) s1.heap.objs.size,⟨⟨.none,he⟩,cV,Nat.succ_ne_self _⟩,λb hb=>?_,q⟩;have e':b=s1.heap.objs.size+1\/b=s1.heap.objs.size:=by simpa using hb
  have dJ:s1.heap.objs.size<=b:=by
   fin2
  exact I1.sn dJ (I1.aG.fresh dJ)
def ME:Ak "zip" =some (.type "zip"):=by x_go
def sD(K:aP)(a b:ag):It:=
 ⟨λi H=> ∃xs ys x y,aJ K H a xs/\aJ K H b ys/\xs[i]?=some x/\ys[i]?=some y,λi H v H'=> ∃T x y,v=.ref T/\H T=none/\H'=aa H T (.aE [x,y])/\(∀xs,aJ K H a xs->xs[i]?=some x)/\ ∀ys,aJ K H b ys->ys[i]?=some y,λi H=> ∃xs ys:List V,aJ K H a xs/\aJ K H b ys/\(xs.length<=i\/ys.length<=i)⟩
def aga{P:bj}{w:a_}{K:aP}{elts:List Expr}{kk:Nat}{fE:Pos}{a b z TI TO i1 i2:ag}(D:Rb z TI TO i1 i2 a b):
  md P w K (.Tuple elts kk fE) (sD K a b) [z,TI,TO,i1,i2] z (λi h=>IsZip h z TI TO .none/\pi h TI (.ref i1) (.ref i2)/\(∃x y,pi h TO x y)/\h.IsListIter i1 a i/\h.IsListIter i2 b i) where
 mem:=by simp
 obj:=λi h st c hc=>by
  obtain⟨hz,dh,⟨x,y,dC⟩,⟨o1,e1,_,d1⟩,⟨o2,e2,_,d2⟩⟩:=st;have e':c=z\/c=TI\/c=TO\/c=i1\/c=i2:=by simpa using hc
  rcases e' with q|q|q|q|q
  ·rw[q];exact⟨_,hz,λv q=>nomatch q⟩
  ·rw[q];exact⟨_,dh,λv q=>nomatch q⟩
  ·rw[q];exact⟨_,dC,λv q=>nomatch q⟩
  ·lk
  ·lk
 keep:=λi h h' st k=>by
  obtain⟨hz,dh,⟨x,y,dC⟩,h1,h2⟩:=st;exact⟨k z (by simp) _ hz,k TI (by simp) _ dh,⟨x,y,k TO (by simp) _ dC⟩,h1.at λo q=>k i1 (by simp) o q,h2.at λo q=>k i2 (by simp) o q⟩
 item:=by
  intro X hP hw hK hc i ae s σ H E I hf st hg;subst hP hw hK;obtain⟨hz,dh,⟨x0,y0,dC⟩,h1,h2⟩:=st;obtain⟨xs,ys,x,y,i9,jU,hx,hy⟩:=hg;obtain⟨its,rv,p,_⟩:=I.list i9;obtain⟨kc,oA,p2,_⟩:=I.list jU;obtain⟨u,hu,ru⟩:=rv.get hx;obtain⟨u2,BE,BF⟩:=oA.get hy;have BG:=bO hz;refine wpAny_pyNext_zip_item D hz dh dC h1 h2 p.isList p2.isList (x:=u) (y:=u2) (by simpa using hu) (by simpa using BE) λh' z' BH vo BI hT hsz hk=>⟨_,rfl,aqV (s:={s with heap:=h'}) z' λlM MF sb=>?_⟩
  have kg:=(sb.2 _ (kI BG)).trans hT;have new:dN X.prog X.w (aa H s.heap.objs.size (.aE [x,y])) lM s.heap.objs.size (.aE [x,y]):=
   ⟨by show 2<=bh;decide,[u,u2],.cons ru (.cons BF .nil),⟨_,kg,rfl,_,rfl⟩⟩
  have I1:aq X ae σ (aa H s.heap.objs.size (.aE [x,y])) {s with heap:=lM}:=
   I.yp (t':=s.toks) (ch:=[z,TI,TO,i1,i2]) (λc o hb q=>(sb.2 c (λq'=>hb (by simp[q']))).trans (hk c o (λq'=>hb (by simp[q'])) (λq'=>hb (by simp[q'])) (λq'=>hb (by simp[q'])) (λq'=>hb (by simp[q'])) q)) hf (aW _) new
  refine⟨.ref s.heap.objs.size,_,I1,rfl,⟨_,x,y,rfl,I.aG.fresh (aW _),rfl,λl hl=>by rw[I.sj hl i9];exact hx,λl hl=>by rw[I.sj hl jU];exact hy⟩,⟨MF,?_,⟨u,u2,?_⟩,?_,?_⟩,λc kh=>?_⟩
  ·exact(sb.2 _ D.TIz).trans (hk _ _ D.TIz D.TITO D.TIi1 D.TIi2 dh)
  ·exact(sb.2 _ D.TOz).trans BH
  ·exact vo.at λo q=>(sb.2 _ D.i1z).trans q
  ·exact BI.at λo q=>(sb.2 _ D.i2z).trans q
  ·have a9:c<s.heap.objs.size:=by
    have e':c=z\/c=TI\/c=TO\/c=i1\/c=i2:=by simpa using kh
    rcases e' with q|q|q|q|q
    ·rw[q];exact BG
    ·rw[q];exact bO dh
    ·rw[q];exact bO dC
    ·rw[q];obtain⟨_,e1,_⟩:=h1;exact bO e1
    ·rw[q];obtain⟨_,e2,_⟩:=h2;exact bO e2
   rw[aw (d7 a9)];exact(hf c kh).1
 done:=by
  intro X hP hw hK hc i ae s σ H E I hf st hg;subst hP hw hK;obtain⟨hz,dh,⟨x0,y0,dC⟩,h1,h2⟩:=st;obtain⟨xs,ys,i9,jU,BJ⟩:=hg;obtain⟨its,rv,p,_⟩:=I.list i9;obtain⟨kc,oA,p2,_⟩:=I.list jU;have l1:=rv.length;have l2:=oA.length;have he:its.toArray[i]?=none\/kc.toArray[i]?=none:=by
   lk
  exact wpAny_pyNext_zip_end (I.ok.hd hc) D hz dh dC h1 h2 p.isList p2.isList he λh' hk=>⟨rfl,I.Mx (t':=s.toks) (ch:=[z,TI,TO,i1,i2]) (λc o hb q=>
   hk c o (λq'=>hb (by simp[q'])) (λq'=>hb (by simp[q'])) (λq'=>hb (by simp[q'])) (λq'=>hb (by simp[q'])) q) hf⟩
 self:=λA i s Q E st h=>Kb st.1 h
inductive UEI(K:aP)(R:It->Hp->Prop)(vs:List V)(H1:Hp):Prop|mk:∀a b xs ys,vs=[.ref a,.ref b]->aJ K H1 a xs->aJ K H1 b ys->R (sD K a b) H1->UEI K R vs H1
def UE(K:aP)(ta:TA):TI:=fun σ H R=>ta σ H (UEI K R)
def UF{X:Cx}{e e2:Expr}{ta:TA}{p pos fE:Pos}{elts:List Expr}{kk:Nat}(hg:Gl X "zip")(hm:X.mg "zip" =none)(ha:PA X [e,e2] ta)
  (hs:autoParam (bV [e,e2] X.ai=(false,eval e X.ai)::bV [e2] X.ai) zA._auto_1)(dH:autoParam ((gp pos (bV [e2] X.ai)).any (·.1)=false) zA._auto_1):
  PI X (.Tuple elts kk fE) (.Call (.Name "zip" p) [e,e2] [] pos) (UE X.K ta):=by
 intro ae s σ H R I h;refine Call_ (jv I hg hm ME (nV (aQ (ha pos ae s σ H _ I h) λus s1⟨vs,H1,I1,r1,q1⟩=>?_) hs dH));obtain⟨a,b,xs,ys,ex,i9,jU,q⟩:=q1;subst ex
 cases r1 with
 |cons r rr=>
  cases rr with
  |cons r' rr=>
   cases rr
   cases r
   cases r';obtain⟨its,rv,p1,_⟩:=I1.list i9;obtain⟨kc,oA,p2,_⟩:=I1.list jU;have la:=p1.lt;have lb:=p2.lt;refine call_zip_2 p1.isList p2.isList λh' hz dh dC h1 h2 hsz hk=>Kb hz ?_;have I2:=I1.dX (t':=s1.toks) hk;refine⟨s1.heap.objs.size+4,[s1.heap.objs.size+4,s1.heap.objs.size+2,s1.heap.objs.size+3,s1.heap.objs.size,s1.heap.objs.size+1],_,_,H1,rfl,I2,aga (aqX s1.heap.objs.size a b la lb),⟨hz,dh,⟨_,_,dC⟩,h1,h2⟩,λc kh=>?_,q⟩;have e':c=s1.heap.objs.size+4\/c=s1.heap.objs.size+2\/c=s1.heap.objs.size+3\/c=s1.heap.objs.size\/c=s1.heap.objs.size+1:=by simpa using kh
   have dJ:s1.heap.objs.size<=c:=by
    fin2
   exact I1.sn dJ (I1.aG.fresh dJ)
end L2
section
namespace MG
open PySem PyProof.Rows
def agb(k:Nat)(hx:0<=x):QL x (2^k-1)=x%2^k:=by
 obtain⟨n,rfl⟩:=Int.eq_ofNat_of_zero_le hx;have hp:=Nat.two_pow_pos k;rw[two_pow_cast];have e:((2^k:Nat):Int)-1=((2^k-1:Nat):Int):=by
  omega
 rw[e,bitAnd_pp (by omega) (by omega),jf,jf,Nat.and_two_pow_sub_one_eq_mod];first
  |rfl
  |exact Int.natCast_emod _ _
  |simp
def agc(hx:0<=x)(hy:0<=y):FN x y=((x.toNat|||y.toNat:Nat):Int):=by
 have e:=nat_or_add_and x.toNat y.toNat;rw[bitOr_and,bitAnd_pp hx hy];omega
end MG
end
namespace L2
open PySem PySem.Spec PyProof.Rows
noncomputable def dO(s:Stmt)(j:Nat):Stmt:=match s with
 |.ClassDef _ _ _ body _ _ _ _ _ _ _=>body.getD j (.Pass ⟨0,0,0,0⟩)
 |_=>.Pass ⟨0,0,0,0⟩
def MH(s:Stmt):Arguments:=match s with
 |.FunctionDef _ a _ _ _ _ _ _ _ _=>a
 |_=>{posonlyargs:=[],args:=[],vararg:=none,kwonlyargs:=[],kw_defaults:=[],kwarg:=none,defaults:=[]}
def Hj(s:Stmt):List Stmt:=match s with
 |.FunctionDef _ _ b _ _ _ _ _ _ _=>b
 |_=>[]
def bg(s:Stmt):Scope:=match s with
 |.FunctionDef _ _ _ _ _ _ sc _ _ _=>sc
 |_=>{kind:=.function,names:=[],isGenerator:=false,isCoroutine:=false}
abbrev bX:sw:=λ_ _ _ _ _ _=>False
abbrev E0:XK:=λ_ _ _=>False
def bE:ub bX X E0:=λ_ _ _ _ _ _ _ h=>h.elim
structure cn(K:aP)(x qual:Str)(st:Stmt)(f:ag)(fd:aN):Prop where
 ex: ∃(oc:au)(od:Option ag)(kV doc pm:au)(an:Option ag)(bB ct:au)(pQ:Array (Option au)),
  fd=Kf x qual (MH st) (Hj st) (bg st) .none kV doc pm an bB ct/\K.lookup f=some ⟨oc,od,.func fd,pQ⟩/\abE K bB qual=true
 kp:Kc K (.ref f)=true
section
variable{P:bj}{w:a_}{K:aP}{mg:Str->Option au}{base:Heap}
def cn.ok{st:Stmt}(F:cn K x qual st f fd)(S:cj N ps (bg st))(len: ∀vs H Q E,sp vs H Q E->vs.length=ps.length)
  (LY: ∀bB A aY s H vs Q E,gb k (A.deeper (vf qual (bg st) s.heap.objs.size f bB))->sp vs H Q E->∃t,mZ (x_ bX P w K mg base N qual (bg st) f bB A aY s H E).GV (Hj st) t/\t {nx:=λ_ H'=>Q .aX H',rt:=Q} (start N vs) H):bN P w K mg base bX (k+1) f fd ps sp:=by
 obtain⟨oc,od,kV,doc,pm,an,bB,ct,pQ,rfl,lk,sh⟩:=F.ex;refine afa lk sh S len λA aY s H vs Q E hr ny=>?_;obtain⟨t,h,q⟩:=LY bB A aY s H vs Q E hr ny;exact⟨t,h.GV,q⟩
def agd{st:Stmt}{kV doc pm bB ct:au}(l:K.lookup f=some ⟨oc,od,.func (Kf x qual (MH st) (Hj st) (bg st) .none kV doc pm an bB ct),pQ⟩)
  (c:abE K bB qual=true)(k:Kc K (.ref f)=true):cn K x qual st f (Kf x qual (MH st) (Hj st) (bg st) .none kV doc pm an bB ct):=⟨⟨oc,od,kV,doc,pm,an,bB,ct,pQ,rfl,l,c⟩,k⟩
end
def ki(hr:gb k A):A.units+1<cLine:=abx (Nat.add_le_add_left (by decide:1<=64) _) hr.units
section
variable{X:Cx}
def pv(i:Nat){pos:Pos}(hN:autoParam (X.N[i]?=some x) zA._auto_1)(hv:A3 X.ai.scope x:=by first|exact aH rfl|exact lI (aH rfl)|exact lI (lI rfl))(hd:autoParam ((x==("__debug__" :Str))=false) zB._auto_1)
  (sh:autoParam ((x==("__classdict__" :Str))=false) zB._auto_1):PE X (.Name x pos) (S6 i):=aeb hN hv hd sh
end
def iR{A B:Prop}(h:B):if false=true then A else B:=by
 assumption
def gA{A B:Prop}(h:A):if true=true then A else B:=by
 rw[if_pos rfl];exact h
def Ga{c A B:Prop}[Decidable c](h:¬c)(b:B):if c then A else B:=(if_neg h).mpr b
def Qe{c A B:Prop}[Decidable c](h:c)(a:A):if c then A else B:=(if_pos h).mpr a
def bq{c A B:Prop}[Decidable c](h1:c->A)(h2:¬c->B):if c then A else B:=by
 lk
def al(H H':Hp):Prop:= ∀b o,H b=some o->H' b=some o
def al.refl(H:Hp):al H H:=λ_ _ h=>h
def al.trans(a:al H H1)(b:al H1 H2):al H H2:=λc o h=>b c o (a c o h)
def al.free(e:al H H')(h:H' l=QU):H l=QU:=by
 cases q:H l with
 |none=>rfl
 |some o=>
  rw[e l o q]at h
  cases h
section
variable{κ:Type}[DecidableEq κ]
def age{k:κ}(h:cI kvs k=none):¬k∈kvs.map (·.1):=by
 intro m;obtain⟨p,hp,e⟩:=cQ.mp m;have q:(kvs.any λkv=>decide (kv.1=k))=true:=u6.mpr ⟨p,hp,decide_eq_true e⟩;rw[qJ,h]at q;exact absurd q (by simp)
def agf{k:κ}(h:cI kvs k=some v):k∈kvs.map (·.1):=by
 have q:(kvs.any λkv=>decide (kv.1=k))=true:=by
  rw[qJ,h];all_goals rfl
 lk
end
def agg{α:Type}{l:List α}(hN:l.Nodup){i j:Nat}{x:α}(a:l[i]?=some x)(b:l[j]?=some x):i=j:=by
 obtain⟨h1,e1⟩:=gm.mp a;obtain⟨h2,e2⟩:=gm.mp b;exact(abC hN).mp (e1.trans e2.symm)
def al.made(nx:H x=QU)(nd:H dx=QU)(k: ∀b o,(aa (aa H dx (.bz x)) x (.aB C dx [])) b=some o->b≠x->H1 b=some o):al H H1:=λb o e=>
 k b o (by rw[aw (aF e nx),aw (aF e nd)];exact e) (aF e nx)
end L2
namespace PySem
namespace F3
def agh(a b c:au):checkTypeCall "zip" ⟨[a,b,c],[]⟩=pure ():=by kernel_rfl
def agi(a b c:au):checkBuiltinCall "zip.__new__" ⟨[.type "zip",a,b,c],[]⟩=pure ():=by kernel_rfl
def agj(a b c d:au):F0 "object.__init__" ⟨[a,b,c,d],[]⟩:=by
 unfold F0;rw[ab6 (id:="object.__init__") (n:=['_','_','t','i','n','i','_','_']) (o:=['t','c','e','j','b','o']) (by kernel_rfl) F.owner_object];kernel_rfl
end F3
abbrev i_(h:Heap)(T:ag)(a b c:au):Prop:=h.get? T=some {cls:=.type "tuple",data:=.seq #[a,b,c]}
section
variable{prog:bj}{w:a_}{A:eJ}{E:au->aR->Prop}{s:aR}
def wpAny_updateSeq_trip(hT:i_ s.heap T a b c)
  (h: ∀h',h'.get? T=some {cls:=.type "tuple",data:=.seq ((#[a,b,c]:Array au).setIfInBounds k x)}->jM T s.heap h'->Q () {s with heap:=h'}):
  wpAny (model prog w) A (aci T (·.setIfInBounds k x)) Q E s:=by
 refine QO hT rfl (h _ ?_ (lz ..));rw[o5 _ hT rfl];simp[qm]
structure yt(z TI TO i1 i2 i3 l1 l2 l3:ag):Prop where
 TIz:TI≠z
 TOz:TO≠z
 i1z:i1≠z
 i2z:i2≠z
 Hl:i3≠z
 TITO:TI≠TO
 TIi1:TI≠i1
 TIi2:TI≠i2
 agk:TI≠i3
 TOi1:TO≠i1
 TOi2:TO≠i2
 Hm:TO≠i3
 i12:i1≠i2
 UG:i1≠i3
 UH:i2≠i3
 l1z:l1≠z
 ata:l1≠TO
 atb:l1≠i1
 atc:l1≠i2
 atd:l1≠i3
 l2z:l2≠z
 l2TO:l2≠TO
 l2i1:l2≠i1
 ate:l2≠i2
 atf:l2≠i3
 l3z:l3≠z
 UI:l3≠TO
 agl:l3≠i1
 agm:l3≠i2
 atg:l3≠i3
def agn{Q:au->aR->Prop}(D:yt z TI TO i1 i2 i3 l1 l2 l3)
  (hz:IsZip s.heap z TI TO .none)(dh:i_ s.heap TI (.ref i1) (.ref i2) (.ref i3))(dC:i_ s.heap TO a b c)
  (h1:s.heap.IsListIter i1 l1 k1)(h2:s.heap.IsListIter i2 l2 k2)(h3:s.heap.IsListIter i3 l3 k3)(eY:s.heap.IsList l1 xs)(ed:s.heap.IsList l2 ys)(iS:s.heap.IsList l3 zs)(hx:xs[k1]?=some x)(hy:ys[k2]?=some y)(hu:zs[k3]?=some u)
  (hQ: ∀h',IsZip h' z TI TO (cw s.heap.objs.size)->i_ h' TO x y u->h'.IsListIter i1 l1 (k1+1)->h'.IsListIter i2 l2 (k2+1)->h'.IsListIter i3 l3 (k3+1)->i_ h' s.heap.objs.size x y u->h'.objs.size=s.heap.objs.size+1->(∀c o,c≠z->c≠TO->c≠i1->c≠i2->c≠i3->s.heap.get? c=some o->h'.get? c=some o)->Q (.ref s.heap.objs.size) {s with heap:=h'}):
  wpAny (model prog w) A (Builtin.«zip.__next__» ⟨[.ref z],[]⟩) (λbM s'=> ∃v,bM=.done (.ret v)/\Q v s') E s:=by
 show wpAny _ _ (field (.ref z) 2>>=_) _ _ _;refine ah (ji hz rfl (x:=.bool false) rfl ?_);show wpAny _ _ (field (.ref z) 3>>=_) _ _ _;refine ah (ji hz rfl (x:=.ref TI) rfl ?_);refine ah (mP dh rfl ?_);show wpAny _ _ (JN (.ref z)>>=_) _ _ _
 refine ah ?_
 unfold JN
 refine ah (ji hz rfl (x:=.none) rfl (az ?_))
 simp only[if_true]
 refine ah (tP ?_)
 refine ah (ji hz rfl (x:=.ref TO) rfl ?_)
 refine ah (lB hz (by simp) λh₁ vZ nB=>?_)
 replace vZ:IsZip h₁ z TI TO .ellipsis:=vZ
 refine ah ?_
 simp only[List.zipIdx_cons,List.zipIdx_nil,z9,xo]
 refine ah (ah (xq ?_))
 show wpAny _ _ (rJ (.ref i1)>>=_) _ _ _
 refine ah (uY (h1.extBut nB.extBut D.i1z) (eY.extBut nB.extBut D.l1z) hx λvR ago pU=>az ?_)
 have UJ:=pU.extBut _ _ D.TOi1 (nB.extBut _ _ D.TOz dC)
 refine ah (mP UJ rfl ?_)
 refine ah (wpAny_updateSeq_trip UJ λud MI pV=>?_)
 replace MI:i_ ud TO x b c:=MI
 refine ah (vd (az ?_))
 refine ah (ah (xq ?_))
 show wpAny _ _ (rJ (.ref i2)>>=_) _ _ _
 refine ah (uY (((h2.extBut nB.extBut D.i2z).extBut pU.extBut D.i12.symm).extBut pV.extBut D.TOi2.symm) (((ed.extBut nB.extBut D.l2z).extBut pU.extBut D.l2i1).extBut pV.extBut D.l2TO) hy λUa agp v_=>az ?_)
 have UK:=v_.extBut _ _ D.TOi2 MI
 refine ah (mP UK rfl ?_)
 refine ah (wpAny_updateSeq_trip UK λMf MJ wa=>?_)
 replace MJ:i_ Mf TO x y c:=MJ
 refine ah (vd (az ?_))
 refine ah (ah (xq ?_))
 show wpAny _ _ (rJ (.ref i3)>>=_) _ _ _
 refine ah (uY (((((h3.extBut nB.extBut D.Hl).extBut pU.extBut D.UG.symm).extBut pV.extBut D.Hm.symm).extBut v_.extBut D.UH.symm).extBut wa.extBut D.Hm.symm) (((((iS.extBut nB.extBut D.l3z).extBut pU.extBut D.agl).extBut pV.extBut D.UI).extBut v_.extBut D.agm).extBut wa.extBut D.UI) hu λath agq yu=>az ?_)
 have UL:=yu.extBut _ _ D.Hm MJ
 refine ah (mP UL rfl ?_)
 refine ah (wpAny_updateSeq_trip UL λqM Hn yw=>?_)
 replace Hn:i_ qM TO x y u:=Hn
 refine ah (vd (az (az ?_)))
 refine ah (mP Hn rfl ?_)
 refine ah (Ke ?_)
 have hsz:qM.objs.size=s.heap.objs.size:=by rw[yw.1,yu.1,wa.1,v_.1,pV.1,pU.1,nB.1]
 have UM:=yw.extBut _ _ D.TOz.symm (yu.extBut _ _ D.Hl.symm (wa.extBut _ _ D.TOz.symm (v_.extBut _ _ D.i2z.symm (pV.extBut _ _ D.TOz.symm (pU.extBut _ _ D.i1z.symm vZ)))))
 have agr: ∀c o,c≠z->c≠TO->c≠i1->c≠i2->c≠i3->s.heap.get? c=some o->qM.get? c=some o:=λc o c1 c2 c3 c4 c5 e=>
  yw.extBut _ _ c2 (yu.extBut _ _ c5 (wa.extBut _ _ c2 (v_.extBut _ _ c4 (pV.extBut _ _ c2 (pU.extBut _ _ c3 (nB.extBut _ _ c1 e))))))
 have ags:=((((ago.extBut pV.extBut D.TOi1.symm).extBut v_.extBut D.i12).extBut wa.extBut D.TOi1.symm).extBut yu.extBut D.UG).extBut yw.extBut D.TOi1.symm
 have agt:=((agp.extBut wa.extBut D.TOi2.symm).extBut yu.extBut D.UH).extBut yw.extBut D.TOi2.symm
 have agu:=agq.extBut yw.extBut D.Hm.symm
 have BK:=bO UM
 show wpAny _ _ (Qg (.ref z) (.ref qM.objs.size)>>=_) _ _ _
 refine ah ?_
 unfold Qg
 have agv:IsZip (qM.push {cls:=.type "tuple",data:=.seq #[x,y,u]}) z TI TO .ellipsis:=bH _ UM
 refine ah (lB agv (by simp) λagw MK ML=>?_)
 replace MK:IsZip agw z TI TO (cw qM.objs.size):=MK
 refine lB MK (by simp) λh₀ Ho MM=>?_
 replace Ho:IsZip h₀ z TI TO (cw qM.objs.size):=Ho
 have up: ∀c o,c≠z->qM.get? c=some o->h₀.get? c=some o:=λc o c1 e=>MM.extBut _ _ c1 (ML.extBut _ _ c1 (bH _ e))
 have UN:=MM.extBut _ _ (kI BK) (ML.extBut _ _ (kI BK) (cJ _ rfl))
 have UO:h₀.objs.size=qM.objs.size+1:=by rw[MM.1,ML.1,jh]
 rw[hsz]at Ho UN UO
 refine az ⟨_,rfl,?_⟩
 show Q (.ref qM.objs.size) _
 rw[hsz]
 exact hQ h₀ Ho (up _ _ D.TOz Hn) (ags.at λo e=>up _ o D.i1z e) (agt.at λo e=>up _ o D.i2z e) (agu.at λo e=>up _ o D.Hl e) UN UO λc o c1 c2 c3 c4 c5 e=>up c o c1 (agr c o c1 c2 c3 c4 c5 e)
def agx(hh:A.handled=none)(D:yt z TI TO i1 i2 i3 l1 l2 l3)
  (hz:IsZip s.heap z TI TO .none)(dh:i_ s.heap TI (.ref i1) (.ref i2) (.ref i3))(dC:i_ s.heap TO a b c)
  (h1:s.heap.IsListIter i1 l1 k1)(eY:s.heap.IsList l1 xs)(hx:xs[k1]?=none)
  (hE: ∀h' e,(∀c o,c≠z->c≠TO->c≠i1->c≠i2->c≠i3->s.heap.get? c=some o->h'.get? c=some o)->(∃o,h'.get? e=some o/\o.cls=.type "StopIteration")->E (.ref e) {s with heap:=h'}):
  wpAny (model prog w) A (Builtin.«zip.__next__» ⟨[.ref z],[]⟩) Q E s:=by
 show wpAny _ _ (field (.ref z) 2>>=_) _ _ _;refine ah (ji hz rfl (x:=.bool false) rfl ?_);refine ah (ji hz rfl (x:=.ref TI) rfl ?_);refine ah (mP dh rfl ?_);refine ah ?_;refine ah (ji hz rfl (x:=.none) rfl (az ?_));simp only[if_true];refine ah (tP ?_);refine ah (ji hz rfl (x:=.ref TO) rfl ?_);refine ah (lB hz (by simp) λh₁ vZ nB=>?_);replace vZ:IsZip h₁ z TI TO .ellipsis:=vZ;refine ah ?_;simp only[List.zipIdx_cons,List.zipIdx_nil,z9,xo];refine ah (ah (xq ?_));refine ah (JZ hh (h1.extBut nB.extBut D.i1z) (eY.extBut nB.extBut D.l1z) hx λvR e pU he=>?_);obtain⟨oe,BL,vT⟩:=he;have agy:=pU _ _ D.i1z.symm vZ;have BN:e≠z:=λx=>by fin2
 refine lB agy (by simp) λud _ pV=>hE ud e (λc o c1 _ c3 _ _ x=>pV.extBut _ _ c1 (pU _ _ c3 (nB.extBut _ _ c1 x))) ⟨oe,pV.extBut _ _ BN BL,vT⟩
def wpAny_pyNext_zip3_item(D:yt z TI TO i1 i2 i3 l1 l2 l3)
  (hz:IsZip s.heap z TI TO .none)(dh:i_ s.heap TI (.ref i1) (.ref i2) (.ref i3))(dC:i_ s.heap TO a b c)
  (h1:s.heap.IsListIter i1 l1 k1)(h2:s.heap.IsListIter i2 l2 k2)(h3:s.heap.IsListIter i3 l3 k3)(eY:s.heap.IsList l1 xs)(ed:s.heap.IsList l2 ys)(iS:s.heap.IsList l3 zs)(hx:xs[k1]?=some x)(hy:ys[k2]?=some y)(hu:zs[k3]?=some u)
  (hQ: ∀h',IsZip h' z TI TO (cw s.heap.objs.size)->i_ h' TO x y u->h'.IsListIter i1 l1 (k1+1)->h'.IsListIter i2 l2 (k2+1)->h'.IsListIter i3 l3 (k3+1)->i_ h' s.heap.objs.size x y u->h'.objs.size=s.heap.objs.size+1->(∀c o,c≠z->c≠TO->c≠i1->c≠i2->c≠i3->s.heap.get? c=some o->h'.get? c=some o)->Q (some (.ref s.heap.objs.size)) {s with heap:=h'}):
  wpAny (model prog w) A (j5 (.ref z)) Q E s:=by
 have hT:s.TypeIs (.ref z) "zip" :=⟨_,hz,rfl⟩
 exact ah (nZ (mL (name:=kH "__next__") hT xl (jg xl hT QK (agn D hz dh dC h1 h2 h3 eY ed iS hx hy hu λh' a1 a2 a3 a4 a5 a6 a7 a8=>az (hQ h' a1 a2 a3 a4 a5 a6 a7 a8)) (QC _))))
def wpAny_pyNext_zip3_end(hh:A.handled=none)(D:yt z TI TO i1 i2 i3 l1 l2 l3)
  (hz:IsZip s.heap z TI TO .none)(dh:i_ s.heap TI (.ref i1) (.ref i2) (.ref i3))(dC:i_ s.heap TO a b c)
  (h1:s.heap.IsListIter i1 l1 k1)(eY:s.heap.IsList l1 xs)(hx:xs[k1]?=none)
  (hQ: ∀h',(∀c o,c≠z->c≠TO->c≠i1->c≠i2->c≠i3->s.heap.get? c=some o->h'.get? c=some o)->Q none {s with heap:=h'}):wpAny (model prog w) A (j5 (.ref z)) Q E s:=by
 have hT:s.TypeIs (.ref z) "zip" :=⟨_,hz,rfl⟩
 refine ah (nZ (mL (name:=kH "__next__") hT xl (jg xl hT QK (agx hh D hz dh dC h1 eY hx λh' e hk he=>?_) (QC _))))
 obtain⟨o,ho,hc⟩:=he;refine ah (u7 (T:="StopIteration") (b:=true) ⟨o,ho,hc⟩ Ae ?_);exact az (hQ _ hk)
end
noncomputable abbrev Hq(h:Heap)(l1:ag):Heap:=h.push {cls:=.type "list_iterator",data:=.fields #[.ref l1,.int 0 0]}
abbrev Hr(h:Heap)(l1 l2:ag):Heap:=(Hq h l1).push {cls:=.type "list_iterator",data:=.fields #[.ref l2,.int 0 0]}
noncomputable abbrev Hs(h:Heap)(l1 l2 l3:ag):Heap:=(Hr h l1 l2).push {cls:=.type "list_iterator",data:=.fields #[.ref l3,.int 0 0]}
noncomputable abbrev Ht(h:Heap)(l1 l2 l3:ag):Heap:=(Hs h l1 l2 l3).push {cls:=.type "tuple",data:=.seq #[.ref h.objs.size,.ref (Hq h l1).objs.size,.ref (Hr h l1 l2).objs.size]}
noncomputable abbrev Hu(h:Heap)(l1 l2 l3:ag):Heap:=(Ht h l1 l2 l3).push {cls:=.type "tuple",data:=.seq #[.none,.none,.none]}
noncomputable abbrev uo(h:Heap)(l1 l2 l3:ag):Heap:=(Hu h l1 l2 l3).push {cls:=.type "zip",data:=.fields #[.none,.bool false,.bool false,.ref (Hs h l1 l2 l3).objs.size,.ref (Ht h l1 l2 l3).objs.size]}
def agz(l1 l2 l3:ag)(xs ys zs:Array au):
  Meets (Builtin.«zip.__new__» ⟨[.type "zip",.ref l1,.ref l2,.ref l3],[]⟩) (λ_ R s=>s.heap.IsList l1 xs/\s.heap.IsList l2 ys/\s.heap.IsList l3 zs/\R (.ok (.ret (.ref (Hu s.heap l1 l2 l3).objs.size))) {s with heap:=uo s.heap l1 l2 l3}):=
 .of_wp λprog w A R s h=>by
  obtain⟨hp,g,d,tk,os⟩:=s;obtain⟨eY,ed,iS,h⟩:=h;have MN:=sub_zip;have BO:=eY;have UP:asH (asb ⟨hp.push {cls:=.type "list_iterator",data:=.fields #[.ref l1,.int 0 0]},g,d,tk,os⟩) l2 ys:=abj ed _;have hL3:asH (asb ⟨(hp.push {cls:=.type "list_iterator",data:=.fields #[.ref l1,.int 0 0]}).push {cls:=.type "list_iterator",data:=.fields #[.ref l2,.int 0 0]},g,d,tk,os⟩) l3 zs:=abj (abj iS _) _;wp_walk using J6 BO,J6 UP,J6 hL3;exact⟨_,rfl,h⟩
section
variable{prog:bj}{w:a_}{A:eJ}{E:au->aR->Prop}{s:aR}
def agA(eY:s.heap.IsList l1 xs)(ed:s.heap.IsList l2 ys)(iS:s.heap.IsList l3 zs)
  (h: ∀h',IsZip h' (s.heap.objs.size+5) (s.heap.objs.size+3) (s.heap.objs.size+4) .none->i_ h' (s.heap.objs.size+3) (.ref s.heap.objs.size) (.ref (s.heap.objs.size+1)) (.ref (s.heap.objs.size+2))->i_ h' (s.heap.objs.size+4) .none .none .none->h'.IsListIter s.heap.objs.size l1 0->h'.IsListIter (s.heap.objs.size+1) l2 0->h'.IsListIter (s.heap.objs.size+2) l3 0->h'.objs.size=s.heap.objs.size+6->(∀c o,s.heap.get? c=some o->h'.get? c=some o)->Q (.ref (s.heap.objs.size+5)) {s with heap:=h'}):
  wpAny (model prog w) A (call (.type "zip") [.ref l1,.ref l2,.ref l3]) Q E s:=by
 refine callType_new F.called_zip (by room) (F3.agh _ _ _) (F3.agi _ _ _) (λobj=>F3.agj obj _ _ _) F.entry_zip_new
  (agz l1 l2 l3 xs ys zs) ⟨eY,ed,iS,?_⟩
 have z1:(Hq s.heap l1).objs.size=s.heap.objs.size+1:=jh ..;have z2:(Hr s.heap l1 l2).objs.size=s.heap.objs.size+2:=by simp
 have z3:(Hs s.heap l1 l2 l3).objs.size=s.heap.objs.size+3:=by rw[jh,z2]
 have z4:(Ht s.heap l1 l2 l3).objs.size=s.heap.objs.size+4:=by rw[jh,z3]
 have z5:(Hu s.heap l1 l2 l3).objs.size=s.heap.objs.size+5:=by rw[jh,z4]
 have z6:(uo s.heap l1 l2 l3).objs.size=s.heap.objs.size+6:=by rw[jh,z5]
 have g6:(uo s.heap l1 l2 l3).get? (Hu s.heap l1 l2 l3).objs.size=some _:=cJ _ rfl;have g5:(uo s.heap l1 l2 l3).get? (Ht s.heap l1 l2 l3).objs.size=some _:=bH _ (cJ _ rfl);have g4:(uo s.heap l1 l2 l3).get? (Hs s.heap l1 l2 l3).objs.size=some _:=bH _ (bH _ (cJ _ rfl));have g3:(uo s.heap l1 l2 l3).get? (Hr s.heap l1 l2).objs.size=some _:=bH _ (bH _ (bH _ (cJ _ rfl)));have g2:(uo s.heap l1 l2 l3).get? (Hq s.heap l1).objs.size=some _:=bH _ (bH _ (bH _ (bH _ (cJ _ rfl))));have g1:(uo s.heap l1 l2 l3).get? s.heap.objs.size=some _:=bH _ (bH _ (bH _ (bH _ (bH _ (cJ _ rfl)))));show _/\_;rw[z3,z4,z5]at g6;rw[z1,z2,z3]at g4;rw[z4]at g5;rw[z2]at g3;rw[z1]at g2;rw[z5];exact⟨⟨_,g6,rfl⟩,h _ g6 g4 g5 ⟨_,g1,rfl,rfl⟩ ⟨_,g2,rfl,rfl⟩ ⟨_,g3,rfl,rfl⟩ z6 λc o x=>
  bH _ (bH _ (bH _ (bH _ (bH _ (bH _ x)))))⟩
end
end PySem
namespace L2
open PySem PySem.Spec PyProof.Rows
section
variable{X:Cx}
theorem we: ∀{xs:List V}{us:List au},xs.length=us.length->(∀(i:Nat) x u,xs[i]?=some x->us[i]?=some u->bJ x u)->bd xs us
 |[],[],_,_=>.nil
 |[],_::_,h,_=>by simp at h
 |_::_,[],h,_=>by simp at h
 |x::xs,u::us,h,k=>.cons (k 0 x u rfl rfl) (we (by simpa using h) λi y v hy hv=>k (i+1) y v (by simpa using hy) (by simpa using hv))
def agB(h:acv P ap n)(hp: ∀i v,P i v->bJ (f i) v):bd ((aU n).map f) ap.toList:=by
 refine we (by rw[ax,iX,kC];exact h.1.symm) λi x u hx hu=>?_;rw[gP]at hx
 cases e:(aU n)[i]? with
 |none=>rw[e]at hx;cases hx
 |some j=>
  rw[e]at hx;have ej:j=i:=by
   obtain⟨hj,q⟩:=gm.mp e
   rw[xg]at q;exact q.symm
  subst ej
  cases hx;exact hp j u (h.2 j u (by lk))
def dD(hg:Gl X x)(h: ∃t,X.mg x=some (kK n t))(hd:autoParam ((x==("__debug__" :Str))=false) zB._auto_1):PE X (.Name x pos) (tC (.int n)):=by
 obtain⟨t,h⟩:=h;exact S7 hg h ⟨t,rfl⟩ hd
def yx(h:eB X (FU op) r):LC X op r:=h
def agC:S_ X (L3 X.K):=by
 intro ae s σ H x y v u Q I rx ry h;obtain⟨p,xs,i,z,rfl,rfl,hq,he,q⟩:=h
 cases rx;obtain⟨t,rfl⟩:=ry;obtain⟨its,r,pl,hz⟩:=I.list hq;obtain⟨j,h1,h2,h3,h4,h5⟩:=LZ he;obtain⟨w,ew,kb⟩:=r.get h2;have hl:=r.length;have hn:=x8;have bM:EP X ae σ Q w s:=⟨z,H,I,kb,q⟩
 by_cases h0:0<=i
 ·have hj:i.toNat=j:=by
   rw[Q2 h0 h5]at h1;exact bv h1
  exact wpAny_getItem_list pl.isList h0 (by lia) (by lk) bM
 ·have hj:(i+(its.toArray.size:Int)).toNat=j:=by
   rw[Q0 (by lia) h4]at h1;lk
  exact arr pl.isList (by lia) (by lk) (by lia) (by lk) bM
def UQ:qH X (.type "range") (λxs H Q=> ∃j:Int,xs=[.int j]/\ ∀p,H p=none->Q (.ref p) (aa H p (.kO 0 j))):=by
 intro ae s σ H vs us Q I r h;obtain⟨j,rfl,q⟩:=h;obtain⟨u,rfl,ru⟩:=G3 r;obtain⟨t,rfl⟩:=ru;refine as2 ?_;exact⟨.ref s.heap.objs.size,_,I.laid (λb o e=>bH _ e) (aW _) (show dN X.prog X.w _ _ _ (.kO 0 j)from⟨_,_,_,cJ _ rfl⟩),rfl,q _ (I.aG.fresh (aW _))⟩
def UR(hc:X.jS=true):qH X (.type "list") (λxs H Q=> ∃(p:ag)(n:Nat),xs=[.ref p]/\H p=some (.kO 0 n)/\n<=bh/\∀l,H l=none->Q (.ref l) (aa H l (.af ((aU n).map λi=>V.int (i:Nat))))):=by
 intro ae s σ H vs us Q I r h;obtain⟨p,n,rfl,hp,hn,q⟩:=h;rw[bd.vQ r];obtain⟨t,u,v,ho⟩:=I.aG p _ hp;have eV:n<=2^24:=by assumption
 refine call_list_range (I.ok.hd hc) ho (small_one (by lia) (by lia) (by lia) (by lia)) (n:=n) ?_ eV λh' tk pW c' hk yy mw=>?_
 ·rw[asU];split<;>lia
 ·refine⟨.ref s.heap.objs.size,_,I.laid hk (aW _) (show dN X.prog X.w _ _ _ (.af _)from⟨by lk,pW.toList,c',?_,by omega⟩),rfl,q _ (I.aG.fresh (aW _))⟩;refine agB mw λi v hv=>?_;obtain⟨t',rfl⟩:=hv;exact⟨t',by congr 1;lia⟩
end
section
variable{X:Cx}{ae:List (ag×Obj)}{σ:St}{H:Hp}{s:aR}
def dN.ex(x:dN P w H h a o): ∃u,h.get? a=some u:=by
 cases o with
 |af xs=>obtain⟨_,_,_,_,e⟩:=x;exact⟨_,e⟩
 |aE xs=>obtain⟨_,_,_,ob,e,_⟩:=x;exact⟨ob,e⟩
 |dK kvs=>obtain⟨_,_,_,_,ob,_,_,e,_⟩:=x;exact⟨ob,e⟩
 |dT kvs=>obtain⟨_,_,_,_,ob,_,_,e,_⟩:=x;exact⟨ob,e⟩
 |set S n=>obtain⟨ob,_,_,_,e,_⟩:=x;exact⟨ob,e⟩
 |aB C dx fs=>obtain⟨_,_,_,e,_⟩:=x;exact⟨_,e⟩
 |bz y=>exact x
 |xd fs=>obtain⟨_,⟨od,_,_,e,_⟩,_⟩:=x;exact⟨od,e⟩
 |kO lo hi=>obtain⟨_,_,_,e⟩:=x;exact⟨_,e⟩
 |bu ob u=>exact⟨ob,x.1⟩
 |t4 ps=>exact⟨_,x⟩
 |GK f y=>exact⟨_,x⟩
 |ext φ=>exact x.2.1
def aq.Hv{h':Heap}{m:Str->Option au}{D:ag}{o:Obj}{ob:HO}{t':Nat}(I:aq X ae σ H s)(hm:s.heap.Ns X.ai.locals m)(F:Fr X.base X.ai.locals h' m)
  (N:News X.base X.ai.locals h' ((D,o)::pJ X.base s.heap X.ai.locals))(lt: ∀q∈pJ X.base s.heap X.ai.locals,q.1<D)(new:dN X.prog X.w (aa H D ob) h' D ob):
  H D=none/\aq X ae σ (aa H D ob) {s with heap:=h',toks:=t'}:=by
 have dX: ∀b u,b≠X.ai.locals->s.heap.get? b=some u->h'.get? b=some u:=λb u h1 e=>by
  cases q:X.base.get? b with
  |some v=>
   have:=I.bk b v q;rw[e]at this;cases this;exact F.keep b _ q
  |none=>exact(N (b,u) (e5 _ (Lq h1 q e))).1
 have nD:=N (D,o) (eG ..);have fresh:s.heap.get? D=none:=by
  cases q:s.heap.get? D with
  |none=>rfl
  |some v=>exact absurd (lt (D,v) (Lq nD.2.1 nD.2.2 q)) (xp _)
 have A1:=λb u e=>(I.aG b u e).ex;have yz: ∀b u,H b=some u->b≠D:=λb u e z=>by
  fin2
 have hD:H D=none:=by
  cases q:H D with
  |none=>rfl
  |some u=>exact absurd rfl (yz D u q)
 have Lu: ∀b u,H b=some u->b≠X.ai.locals:=λb u e z=>by rw[z,I.free]at e;cases e
 refine⟨hD,I.step (g':=s.gens) (d':=s.drawn) (ch:=[]) (λ_ z=>nomatch z) (λb u h1 _ _ e _=>dX b u h1 e) (λb u h1 _ _ e _=>⟨u.slots,dX b u h1 e⟩) (λb u _ e n=>?_) (λb u _ e=>?_) (λb xs e=>by rw[aw (yz b _ e)];exact e) (λb u v e=>by rw[aw (yz b _ e)];exact e) (λb ps e=>⟨#[],by rw[aw (yz b _ e),e];simp⟩) (λm' sE=>?_) (λb u e=>?_) I.gV⟩
 ·rw[aw λz=>by lk];exact n
 ·by_cases z:b=X.ai.locals
  ·subst z;obtain⟨o',_,_,ju,_⟩:=F.ns;exact⟨o',ju⟩
  ·exact⟨u,dX b u z e⟩
 ·rw[sE.eq_nsMap,<-hm.eq_nsMap];exact F.ns
 ·by_cases hb:b=D
  ·subst hb;rw[ao]at e;cases e;exact new
  ·rw[aw hb]at e;refine(I.aG b u e).fi (λc v hc q=>dX c v ?_ q) (λc q=>by rw[aw (yz c _ q)];exact q) λc xs q=>by rw[aw (yz c _ q)];exact q
   fin2
inductive agDI(K:aP)(Q:VK)(x:V)(H1:Hp):Prop|mk:∀(a:ag)(as:bp)(ls:List (List V)),x=.ref a->aJ K H1 a (as.map V.ref)->as.length=ls.length->(∀(i:Nat) b l,as[i]?=some b->ls[i]?=some l->H1 b=some (.af l))->(∀(dP:bp) p,dP.Perm as->H1 p=none->Q (.ref p) (aa H1 p (.af (dP.map V.ref))))->agDI K Q x H1
def agD(K:aP)(te:TE):TE:=fun σ H Q=>te σ H (agDI K Q)
theorem US: ∀{as:bp}{us:List au},bd (as.map V.ref) us->us=as.map dA
 |[],_,.nil=>rfl
 |a::as,_,.cons r t=>by
  have e:=r;rw[e,US t];rfl
theorem UT: ∀(as:bp),bd (as.map V.ref) (as.map dA)
 |[]=>.nil
 |_::as=>.cons rfl (UT as)
def agE{a:ag}{as:bp}{ls:List (List V)}{Q:VK}{E:au->aR->Prop}(I:aq X ae σ H s)(hs:aJ X.K H a (as.map V.ref))(hl:as.length=ls.length)
  (hb: ∀(i:Nat) b l,as[i]?=some b->ls[i]?=some l->H b=some (.af l))
  (q: ∀(dP:bp) p,dP.Perm as->H p=none->Q (.ref p) (aa H p (.af (dP.map V.ref)))):
  wpAny (model X.prog X.w) X.A (call (.builtin "sorted") [.ref a] [(kH "key",.builtin "len"),(kH "reverse",.bool true)]) (EP X ae σ Q) E s:=by
 obtain⟨its,rv,pl,hz⟩:=I.list hs;have ei:=US rv;subst ei;rw[ax]at hz;obtain⟨m,F⟩:=I.fr;have hm:=F.ns;refine ksk_sortedAny (kz:=ls.map λl=>(l.length:Int)) (b:=true) (vs:=as.map dA) (f:=.builtin "len") F GL pl.isList (by lk) (by lk)
  (ksk_s2 _ _ _) (λx=>ksk_l2 _ _ _) (λx=>ksk_t5 _ _ _) (λi v k hv hk h tk bz F' N'=>?_) λD h' tk out c F' N' lt ko=>?_
 ·rw[gP]at hv hk
  cases e1:as[i]? with
  |none=>rw[e1]at hv;cases hv
  |some b=>
   cases e2:ls[i]? with
   |none=>rw[e2]at hk;cases hk
   |some l=>
    rw[e1]at hv;rw[e2]at hk
    cases hv;cases hk;have hB:=hb i b l e1 e2;obtain⟨zl,agF,n,rb,ob⟩:=I.aG b _ hB;have nb:X.base.get? b=none:=by
     cases z:X.base.get? b with
     |none=>rfl
     |some u=>have:=(I.bs b u z).2;rw[hB]at this;cases this
    have nL:b≠X.ai.locals:=λz=>by have:=I.free;lk
    have ob':=(N' (b,_) (jK _ (Lq nL nb ob))).1;have cS:=rb.length;have hn:=x8;refine aq0 (s:={s with heap:=h,toks:=tk}) (items:=agF.toArray) ⟨_,ob',rfl,n,rfl⟩ (by simp only[FH];lia) ?_
    exact⟨h,_,_,rfl,(by show kK _ _=kK (l.length:Int) _;rw[FH,cS]),F',N'⟩
 ·obtain⟨ps,hp,ho,_⟩:=ko
  have sF:out.toList.Perm (as.map dA):=by
   rw[ho]
   have:=hp.map qo
   rwa[List.map_snd_zip (by lk)]at this
  obtain⟨dP,e',p'⟩: ∃dP:bp,out.toList=dP.map dA/\dP.Perm as:=by
   have g: ∀v∈out.toList,∃b,v=dA b:=λv hv=>by
    obtain⟨b,_,e⟩:=cQ.mp (sF.mem_iff.mp hv)
    exact⟨b,e.symm⟩
   let un:au->ag:=λv=>match v with|.ref b=>b|_=>0
   refine⟨out.toList.map un,?_,?_⟩
   ·rw[dy]
    conv=>lhs;rw[<-Al out.toList]
    apply fy
    fin2
   ·have:=sF.map un
    rw[dy]at this
    have e2:as.map (un∘dA)=as:=by
     conv=>rhs;rw[<-Al as]
     exact fy λ_ _=>rfl
    rwa[e2]at this
  have new:dN X.prog X.w (aa H D (.af (dP.map V.ref))) h' D (.af (dP.map V.ref)):=by
   refine⟨by rw[ax,p'.length_eq];exact hz,out.toList,c,by rw[e'];exact UT dP,?_⟩
   rw[Array.toArray_toList]
   exact(N' (D,_) (eG ..)).1
  obtain⟨hD,I'⟩:=I.Hv (t':=tk) hm F' N' lt new
  exact⟨.ref D,_,I',rfl,q dP D p' hD⟩
def agG{e:Expr}{te:TE}{p p1 p2 p3 p4 pos:Pos}(hg:Gl X "sorted")(hm:X.mg "sorted" =none)(hgL:Gl X "len")(hmL:X.mg "len" =none)(he:PE X e te)
  (jV:autoParam (bV [e] X.ai=(false,eval e X.ai)::bV [] X.ai) zA._auto_1)(gL:autoParam (gp pos (bV [e] X.ai)=(false,eval e X.ai)::gp pos (bV [] X.ai)) zA._auto_1)(yl:autoParam ((gp pos (bV [e] X.ai)).any (·.1)=false) zA._auto_1):
  PE X (.Call (.Name "sorted" p) [e] [⟨some "key",.Name "len" p1,p2⟩,⟨some "reverse",.Constant (.bool true) 0 p3,p4⟩] pos) (agD X.K te):=by
 intro ae s σ H Q I h;refine nW (jv I hg hm Q4 ?_);refine callWith_kw (aQ ((ak he ay jV) pos ae s σ H (λvs H1=>match vs with
  |[x]=>agDI X.K Q x H1
  |_=>False) I h) λus s1⟨vs,H1,I1,r,q⟩=>?_) gL yl
 match vs,q with
 |[x],q=>
  obtain⟨a,as,ls,rfl,hs,hl,hb,q⟩:=q;rw[bd.vQ r];refine asa (ah (jv I1 hgL hmL eI (ah (Kg (az ?_)))));refine asa (ah (asZ (ah (Kg (az ?_)))));refine wpAny_evalAll_nil ?_;exact agE I1 hs hl hb q
end
end L2
namespace PySem
section
variable{prog:bj}{w:a_}{K:Type}[DecidableEq K]{knd:HeapKind prog w K}{A:eJ}{E:au->aR->Prop}{s:aR}
def wpAny_dictSetDefault_heap(hu:knd.room A)(lL:knd.is s.heap k a)(hm:s.heap.DictOfH knd d xs)
  (h1: ∀p,atKey xs k=some p->Q p.2 {s with toks:=s.toks+knd.draws k})
  (hQ:atKey xs k=none-> ∀h',h'.DictOfH knd d (Rc xs k a v)->jM d s.heap h'->Q v {s with heap:=h',toks:=s.toks+knd.draws k})
  (hsz:xs.length<=bh):
  wpAny (model prog w) A (ab3 d (.ref a) v) Q E s:=by
 obtain⟨o,es,ep,ho,hc,hd,he,UU,hn⟩:=hm;unfold ab3;try with_reducible refine kG ?_;refine ah (knd.pyHash hu lL ?_);refine ah (wpAny_dictFind_heap (s:={s with toks:=s.toks+knd.draws k}) hu lL ho hd he UU hn ?_ ?_)
 ·intro BP;have ati:=not_mem_keys_of_get BP;refine ah (tP (ah (wpAny_updateDictKeys (hz:=by have e:=abQ he;lia) (s:={s with toks:=s.toks+knd.draws k}) ho hd (az (hQ (QI BP) _ ⟨_,_,ep+1,o5 _ ho (Obj.isFreed_of_dict (aq_ hd _)),hc.mapDictKeys _,aq_ hd _,?_,?_,?_⟩ (lz ..))))))
  ·rw[aca (QI BP)];simp[he,Q8]
  ·rw[aca (QI BP)];intro x hx;rcases cN.mp hx with hx|hx
   ·exact knd.keeps (UU x hx) ho hd (lz ..)
   ·simp only[hZ]at hx;subst hx;exact knd.keeps lL ho hd (lz ..)
  ·rw[aca (QI BP)]
   rw[bI,o6]
   refine⟨hn,by simp,?_⟩
   intro x hx y hy
   simp only[gF,abX,hZ]at hy
   subst hy
   exact fun e=>ati (e▸hx)
 ·intro j p hj;refine ah (rN (s:={s with toks:=s.toks+knd.draws k}) ho hd ?_);rw[acm he j,hj];exact ah (tP (az (h1 p (atKey_of_get hn hj))))
def agH{d a:ag}(hd:(d==i0)=false)(BQ:au):
  Ri prog w (Builtin.«dict.setdefault» ⟨[.ref d,.ref a,BQ],[]⟩) (λA R s=>knd.room A.in1/\ ∃k xs,knd.is s.heap k a/\s.heap.DictOfH knd d xs/\xs.length<=bh/\(∀p,atKey xs k=some p->R (.ok (.ret p.2)) {s with toks:=s.toks+knd.draws k})/\(atKey xs k=none-> ∀h',h'.DictOfH knd d (Rc xs k a BQ)->jM d s.heap h'->R (.ok (.ret BQ)) {s with heap:=h',toks:=s.toks+knd.draws k})):=
 .of_wp λA R s⟨hu,k,xs,lL,hm,hz,h1,h2⟩=>by
  refine ah ?_;refine ah (Qu hm.typeIs ?_);refine az ?_;show wpAny _ _ (if(d==i0)=true then _ else(ab3 d (.ref a) BQ>>=_)) _ _ s;rw[if_neg (by lk)];exact ah (wpAny_dictSetDefault_heap hu lL hm (λp hp=>az ⟨p.2,rfl,h1 p hp⟩) (λhn h' sE l8=>az ⟨BQ,rfl,h2 hn h' sE l8⟩) hz)
end
end PySem
namespace L2
open PySem PySem.Spec PyProof.Rows
section
variable{X:Cx}{ae:List (ag×Obj)}{σ:St}{H:Hp}{s:aR}
def Hw(H:Hp)(a:ag)(y z r:V)(H':Hp):Prop:=
 (∃kvs k,H a=some (.dK kvs)/\y=kV k/\kvs.length<bh/\((cI kvs k=some r/\H'=H)\/(cI kvs k=none/\r=z/\H'=aa H a (.dK (dI kvs k z)))))\/(∃kvs k b,H a=some (.dT kvs)/\y=.ref b/\H b=some (.aE (k.map kV))/\kvs.length<bh/\((cI kvs k=some r/\H'=H)\/(cI kvs k=none/\r=z/\H'=aa H a (.dT (dI kvs k z)))))
def agI{a:ag}{y z r:V}{u v:au}{H':Hp}{A:eJ}{E:au->aR->Prop}{Q:au->aR->Prop}(hu:A.units+1<cLine)(I:aq X ae σ H s)(g:Hw H a y z r H')(ry:bJ y u)(rz:bJ z v)
  (h: ∀w' s',aq X ae σ H' s'->bJ r w'->Q w' s'):wpAny (model X.prog X.w) A (call (.builtin "dict.setdefault") [.ref a,u,v]) Q E s:=by
 rcases g with⟨kvs,k,e,ey,l,g⟩|⟨kvs,k,b,e,ey,eb,l,g⟩
 ·subst ey;obtain⟨zz,hd,vs,cU,dd⟩:=He I.aG e;have hz:vs.length<=bh:=by rw[<-cU.length];exact zz
  have hl:(dI kvs k z).length<=bh:=by have:=vX kvs k z;lia
  refine Kl aaU dd.typeIs aqm (aql _ _ _) (kt_meets_setdefault (fC X.prog X.w) a (ug ry) hd v) ⟨vs,dd,hz,λx hx=>?_,λhn h' ow hs=>?_⟩
  ·rcases g with⟨g,rfl⟩|⟨g,_,_⟩
   ·have q:=cU.val k;rw[g,hx]at q;exact h x _ (I.f_ _) q
   ·have q:=cU.val k;rw[g,hx]at q;exact q.elim
  ·rcases g with⟨g,_⟩|⟨g,rfl,rfl⟩
   ·have q:=cU.val k;rw[g,hn]at q;exact q.elim
   ·have he: ∃q,h'.get? a=some q:=let⟨q,_,_,hq,_⟩:=ow;⟨q,hq⟩;exact h v _ (Bw I (by rw[e];exact ql) hs he (Mn hl hd (cU.put k rz) ow)) rz
 ·subst ey
  cases(ry);obtain⟨zz,hd,xs,cU,dd⟩:=Ur I.aG e;have hz:xs.length<=bh:=by rw[<-mQ cU];exact zz
  have hl:(dI kvs k z).length<=bh:=by have:=vX kvs k z;lia
  refine Kl aaU dd.typeIs aqm (aql _ _ _) (agH (knd:=ve (fC X.prog X.w)) (d:=a) (a:=b) hd v) ⟨J4 hu,k,xs,yn I.aG eb,dd,hz,λp hp=>?_,λhn h' ow hs=>?_⟩
  ·rcases g with⟨g,rfl⟩|⟨g,_,_⟩
   ·have q:=cU.val k;rw[g,hp]at q;exact h p.2 _ (I.f_ _) q
   ·have q:=cU.val k;rw[g,hp]at q;exact q.elim
  ·rcases g with⟨g,_⟩|⟨g,rfl,rfl⟩
   ·have q:=cU.val k;rw[g,hn]at q;exact q.elim
   ·obtain⟨q,es,ep,hq,h2,h3,h4,_,h5⟩:=ow;refine h v _ (Bw I (by rw[e];exact ql) hs ⟨q,hq⟩ ⟨hl,hd,_,(cU.put k eb rz).keeps λc ys ec=>?_,q,es,ep,hq,h2,h3,h4,h5⟩) rz;rw[aw (bx ec e (λz=>nomatch z))];exact ec
inductive agJI(ty:TE)(tx:TE)(σ:St)(Q:VK)(x:V)(H1:Hp):Prop|mk:∀a,x=.ref a->Mw H1 a->(ty σ H1 λy H2=>tx σ H2 λz H3=> ∃r H4,Hw H3 a y z r H4/\Q r H4)->agJI ty tx σ Q x H1
def agJ(td ty tx:TE):TE:=fun σ H Q=>td σ H (agJI ty tx σ Q)
def MO{o e f:Expr}{td ty tx:TE}{fT fU:Pos}(hu:X.A.units+1<cLine)(ho:PE X o td)(he:PE X e ty)(hf:PE X f tx)(m:M2 X o "setdefault" fT e f fU):PE X (.Call (.Attribute o "setdefault" fT) [e,f] [] fU) (agJ td ty tx):=by
 intro ae s σ H Q I h;refine J7 m.base m.cT m.line JX aaU PySem.F.type_dict_setdefault (aQ (ho ae s σ H _ I h) λu s1⟨x,H1,I1,rx,a,ex,d,q1⟩=>?_);subst ex;obtain rfl:u=dA a:=rx;obtain⟨t1,t2,_⟩:=Ux I1 d;exists t1,t2;rw[m.Uw];refine aa3 rfl (abd (uZ (aQ (he ae s1 σ H1 _ I1 q1) λiv s2⟨y,H2,I2,ry,q2⟩=>
  uZ (aQ (hf ae s2 σ H2 _ I2 q2) λfv s3⟨z,H3,I3,rz,r,H4,g,q3⟩=>zY ?_))))
 exact agI hu I3 g ry rz λw' s4 I4 kb=>⟨_,H4,I4,kb,q3⟩
def agK(hc:X.jS=true):qH X (.builtin "sorted") (λvs H Q=> ∃(d:ag)(kvs:List (bR×V))(ns:List Int),vs=[V.ref d]/\H d=some (.dK kvs)/\kvs.map (·.1)=ns.map bQ/\∀(cK:List Int) p,cK.Perm ns->cK.Pairwise (·<= ·)->H p=none->Q (.ref p) (aa H p (.af (cK.map V.int)))):=by
 intro ae s σ H vs us Q I r h;obtain⟨d,kvs,ns,rfl,hd,hk,q⟩:=h;rw[bd.vQ r];obtain⟨zz,lo,xs,cU,dd⟩:=He I.aG hd;obtain⟨ep,dat⟩:=dd.dictAt;obtain⟨m,F⟩:=I.fr;have hm:=F.ns;have cS:xs.length=ns.length:=by
  rw[<-cU.length,<-ax (f:=λkv:bR×V=>kv.1),hk,ax]
 have hz:xs.length<=bh:=by rw[<-cU.length];exact zz
 refine PySem.W.kdu_sorted (PySem.W.kdl_dict (knd:=fC X.prog X.w) (kvs:=xs) (ep:=ep) lo) (I.ok.hd hc) F GL dat hz λD h' tk ws F' N' lt hl hv=>?_;have hi:FZ ws ns:=by
  have:bd (ns.map V.int) ws:=by
   refine we (by lk) λi x u hx hu=>?_;rw[gP]at hx;obtain⟨k,y,e1,e2⟩:=hv i u hu
   cases e3:ns[i]? with
   |none=>rw[e3]at hx;cases hx
   |some n=>
    rw[e3]at hx;cases hx;have e4:(xs.map (·.1))[i]?=some k:=by lk
    rw[<-cU.j8,hk,gP,e3]at e4
    cases e4;exact MC (k:=bQ n) (e2)
  exact this.ints
 have hD: ∀p∈pJ X.base s.heap X.ai.locals,p.1≠D:=λp hp z=>by fin2
 refine aa8 (A:=X.A.in1) (D:=D) (its:=ws.toArray) (n:=0) (vs:=ws) (ns:=ns) (news':=λo=>(D,o)::pJ X.base s.heap X.ai.locals) F' N' (λo=>.head λp hp=>hD p hp) (by simp) hi (by rw[←cS];exact hz) fun BR cK c h2 F2 N2 i2 _ p2 s2 _=>?_;have new:dN X.prog X.w (aa H D (.af (cK.map V.int))) h2 D (.af (cK.map V.int)):=
  ⟨by lk,BR,c,G' i2,(N2 (D,_) (eG ..)).1⟩
 obtain⟨vS,I'⟩:=I.Hv (t':=tk) hm F2 N2 lt new;exact⟨.ref D,_,I',rfl,q cK D p2 s2 vS⟩
end
section
variable{prog:bj}{w:a_}{A:eJ}{E:au->aR->Prop}{s:aR}
def agL(hv:s.heap.IsValuesView v d)(ho:s.heap.get? d=some o)(iP:o.data=.dict es ep)
  (hQ:Q (.ref s.heap.objs.size) {s with heap:=s.heap.push {cls:=.type "dict_valueiterator",data:=.fields #[.ref d,.int 0 0,.int es.size 0,.int ep 0]}}):
  wpAny (model prog w) A (qt (.ref v)) Q E s:=by
 obtain⟨ov,hov,MP,hdv⟩:=id hv;refine z8 hv.typeIs aqZ (jg aqZ hv.typeIs F.entry_dict_values_iter ?body (F.args_dict_values_iter_1 _))
 case body=>
  refine ah (az (ah ?first))
  case first=>
   refine ah (ji hov hdv (x:=.ref d) rfl (az (ah ?it)))
   case it=>
    refine ah (rN ho iP (ah (u_ ho iP ?_)));simp only[show xa "dict_valueiterator" =false from by room,kE,if_false];refine j4 (az ⟨_,rfl,"dict_valueiterator",_,⟨_,cJ _ rfl,rfl⟩,F.slot_dict_valueiterator_next.lookup,?_⟩);simpa[cw]using hQ
def agM(cV:s.heap.IsValIter it d i n ep)(ie:s.heap.get? d=some od)(nA:od.data=.dict es ep)
  (hsz:es.size=n)(hx:es[i]?=some en)(hQ: ∀h',h'.IsValIter it d (i+1) n ep->jM it s.heap h'->Q (some en.val) {s with heap:=h'}):wpAny (model prog w) A (j5 (.ref it)) Q E s:=by
 obtain⟨o,ho,hc,hd⟩:=id cV;refine ah (nZ (mL (name:=kH "__next__") cV.typeIs Qh (jg Qh cV.typeIs aqt ?body (aqp _))))
 case body=>
  refine ah (az (ah (ah ?a)))
  case a=>
   first|refine ah (Qk cV.typeIs (az ?b))|refine ah (wpAny_typeNameOf_valiter cV.typeIs (az ?b))
   case b=>
    refine ah (tH ho hd ?_);simp only[show xa "dict_valueiterator" =false from by room,kE,if_false];show wpAny _ _ (if(dA d==im)=true then _ else _) _ _ s;rw[if_neg (show ¬((dA d==im)=true)from ik)];refine ah (az (ah (rN ie nA ?_)));rw[if_neg (by rw[hsz];simp)];refine ah (az (ah (u_ ie nA ?_)));rw[if_neg (by simp)];refine az ?_;obtain⟨sB,qK⟩:=aaZ.mp hx;simp only[show ¬((i:Int)<0)from by lia,if_false,jf,qj sB];refine ah ?_;first|refine ah (Qk cV.typeIs (az ?c))|refine ah (wpAny_typeNameOf_valiter cV.typeIs (az ?c))
    case c=>
     refine ah (abq cV.typeIs ?_);show wpAny _ _ (FV (.ref it) 1 (cw ((i:Int)+1))>>=_) _ _ s;refine ah (rP ho hd (by simp) ?_);have ox:(s.heap.update it (va (·.setIfInBounds 1 (cw ((i:Int)+1))))).IsValIter it d (i+1) n ep:=
      ⟨_,o5 _ ho (FF (qk hd _)),(J5 ..).trans hc,by rw[qk hd];simp[cw]⟩
     refine ah (kG ?_);refine ah (abq (s:={s with heap:=s.heap.update it (va (·.setIfInBounds 1 (cw ((i:Int)+1))))}) ox.typeIs ?_);refine ah (abq (s:={s with heap:=s.heap.update it (va (·.setIfInBounds 1 (cw ((i:Int)+1))))}) ox.typeIs ?_);rw[qK];exact az (az ⟨_,rfl,az (hQ _ ox (lz ..))⟩)
def agN(hh:A.handled=none)(cV:s.heap.IsValIter it d i n ep)(ie:s.heap.get? d=some od)(nA:od.data=.dict es ep)
  (hsz:es.size=n)(mq:n<=i)(hQ: ∀h',Kj it s.heap h'->Q none {s with heap:=h'}):wpAny (model prog w) A (j5 (.ref it)) Q E s:=by
 obtain⟨o,ho,hc,hd⟩:=id cV;refine ah (nZ (mL (name:=kH "__next__") cV.typeIs Qh (jg Qh cV.typeIs aqt ?body (aqp _))))
 case body=>
  refine ah (az (ah (ah ?a)))
  case a=>
   first|refine ah (Qk cV.typeIs (az ?b))|refine ah (wpAny_typeNameOf_valiter cV.typeIs (az ?b))
   case b=>
    refine ah (tH ho hd ?_);simp only[show xa "dict_valueiterator" =false from by room,kE,if_false];show wpAny _ _ (if(dA d==im)=true then _ else _) _ _ s;rw[if_neg (show ¬((dA d==im)=true)from ik)];refine ah (az (ah (rN ie nA ?_)));rw[if_neg (by rw[hsz];simp)];refine ah (az (ah (u_ ie nA ?_)));rw[if_neg (by simp)];refine az ?_;have MB:es.size<=i:=by rw[hsz];exact mq
    simp only[by omega,if_false,jf,JT MB];refine ah ?_;first|refine ah (Qk cV.typeIs (az ?c))|refine ah (wpAny_typeNameOf_valiter cV.typeIs (az ?c))
    case c=>
     show wpAny _ _ (FV (.ref it) 0 .none>>=_) _ _ s;refine ah (rP ho hd (by simp) ?_);refine ah ?_;simp only[As,Kw];refine ah (j4 ?_ (by size_fits));refine ah (m:=tJ _ _) (FT (a:=im) (by first|rfl|(simp only[tJ];rfl)) ?_);refine j4 ?_ (by size_fits);simp only[Kv];refine ah (Kh ?_);rw[hh];refine ah (az (Kp ?_));refine ah (u7 (T:="StopIteration") (b:=true) ⟨_,cJ _ rfl,rfl⟩ Ae ?_);exact az (hQ _ (((lz ..).extBut.push _).push _))
end
def yA(h:Heap)(d:ag)(es:Array n9)(ep:Nat):Prop:= ∃o,h.get? d=some o/\o.ExactDict/\o.data=.dict es ep
def agO:art prog w "dict_values" r d es.size (λi v=> ∃en,es[i]?=some en/\en.val=v) (λh=>h.IsValuesView r d/\yA h d es ep) where
 type:=λ_ hm=>hm.1.typeIs;there:=λ_ hm=>by
  obtain⟨⟨_,ho,_⟩,_,hd,_⟩:=hm;exact⟨bO ho,bO hd⟩
 keep:=λ_ _ hm hk=>by
  obtain⟨⟨o,ho,x⟩,o2,hd,y⟩:=hm;exact⟨⟨o,hk r (.inl rfl) o ho,x⟩,o2,hk d (.inr rfl) o2 hd,y⟩
 notList:=by room
 notTuple:=by room
 hint:=λ_ _ _ _ hm hq=>PySem.W.kdl_hint_values hm.1.typeIs hq;iter:=λA s hh hm=>by
  obtain⟨hv,o,ho,hc,iP⟩:=hm;have hne:=d7 (bO ho);refine⟨_,λi h=>h.IsValIter s.heap.objs.size d i es.size ep/\yA h d es ep,λE Q hq=>agL hv ho iP hq,?_,⟨_,cJ _ rfl,rfl,rfl⟩,o,bH _ ho,hc,iP⟩;refine⟨λb hb=>by lk,λ_ _ _ st hk=>?_,λi s2 Q E hi st hQ=>?_,λs2 Q E st hQ=>?_,λ_ _ _ _ st hQ=>wpAny_pyIter_valiter st.1 hQ⟩
  ·obtain⟨pX,o2,h2,r2⟩:=st;exact⟨pX.at λo e=>hk _ (by simp) o e,o2,hk d (by simp) o2 h2,r2⟩
  ·obtain⟨pX,o2,h2,c2,d2⟩:=st;refine agM pX h2 d2 rfl (qj hi) λh' ox l8=>?_;exact hQ _ h' s2.toks ⟨_,qj hi,rfl⟩ ⟨ox,o2,(l8.2 d hne).trans h2,c2,d2⟩ λb o hb e=>(l8.2 b (λz=>hb (by simp[z]))).trans e
  ·obtain⟨pX,o2,h2,c2,d2⟩:=st;exact agN hh pX h2 d2 rfl (aW _) λh' uk=>hQ h' s2.toks λb o hb e=>uk b o (λz=>hb (by simp[z])) e
section
variable{X:Cx}
inductive agPI(Q:VK)(x:V)(H1:Hp):Prop|mk:∀d kvs,x=.ref d->H1 d=some (.dT kvs)->(∀l,H1 l=none->Q (.ref l) (aa H1 l (.af (kvs.map (·.2)))))->agPI Q x H1
def agP(te:TE):TE:=fun σ H Q=>te σ H (agPI Q)
def agQ{prog:bj}{w:a_}(d:ag)(hd:(d==i0)=false):
  Ri prog w (Builtin.«dict.values» ⟨[.ref d],[]⟩) (λ_ R s=>s.TypeIs (.ref d) "dict" /\R (.ok (.ret (.ref s.heap.objs.size))) {s with heap:=s.heap.push {cls:=.type "dict_values",data:=.fields #[.ref d]}}):=
 .of_wp λA R s⟨hT,h⟩=>by
  refine ah ?first
  case first=>
   refine ah (Qu hT ?_);refine az ?_;unfold Qp;rw[if_neg (by lk)];exact ah (az (ah (j4 (az ⟨_,rfl,h⟩))))
def agR{e:Expr}{te:TE}{p fT fU pos:Pos}(hc:X.jS=true)(hg:Gl X "list")(hm:X.mg "list" =none)(he:PE X e te)
  (vP:autoParam (xr e "values" X.ai (eval e X.ai)=eval e X.ai) zA._auto_1)(sy:autoParam ((fT.endLine==fU.line)=true) zA._auto_1)
  (jV:autoParam (bV [.Call (.Attribute e "values" fT) [] [] fU] X.ai=[(false,eval (.Call (.Attribute e "values" fT) [] [] fU) X.ai)]) zA._auto_1):
  PE X (.Call (.Name "list" p) [.Call (.Attribute e "values" fT) [] [] fU] [] pos) (agP te):=by
 intro ae s σ H Q I h;refine nW (jv I hg hm JQ ?_);refine nV ?_ jV rfl;rw[jV];refine uZ ?_;refine J7 (T:="dict") (id:="dict.values") vP rfl sy JX aqx PySem.F.type_dict_values (aQ (he ae s σ H _ I h) λu s1⟨x,H1,I1,rx,d,kvs,ex,hd,q⟩=>?_);subst ex;obtain rfl:u=dA d:=rx;obtain⟨zz,lo,xs,cU,o,es,ep,ho,qN,iP,UV,dL⟩:=I1.aG d _ hd;have hT:s1.TypeIs (.ref d) "dict" :=⟨o,ho,qN.1⟩
 refine⟨hT,λb z=>by cases z;exact⟨o,ho,qN.2.1⟩,?_⟩;have hsz:es.size=kvs.length:=by
  have e1:es.toList.length=xs.length:=by lk
  rw[<-kC,e1,mQ cU]
 have I2:aq X ae σ H1 {s1 with heap:=s1.heap.push {cls:=.type "dict_values",data:=.fields #[.ref d]}}:=I1.dX (t':=s1.toks) λb ob z=>bH _ z;refine abZ aqx PySem.F.entry_dict_values rfl (abh ⟨rfl,hT,PySem.F.args_dict_values_1 _,_,agQ d lo,hT,?_⟩);refine zY ?_;refine aq6 (s:={s1 with heap:=s1.heap.push {cls:=.type "dict_values",data:=.fields #[.ref d]}}) (agO (es:=es) (ep:=ep)) (I.ok.hd hc) ⟨⟨_,cJ _ rfl,rfl,rfl⟩,o,bH _ ho,qN,iP⟩ (by rw[hsz];exact zz) λh' tk ap c hk hS mw=>?_;have hv:bd (kvs.map (·.2)) ap.toList:=by
  have el:ap.toList.length=kvs.length:=by
   have:=mw.1;lk
  refine we (by lk) λi y v hy Hx=>?_;obtain⟨en,e1,e2⟩:=mw.2 i v (by lk);rw[gP]at hy
  cases e3:kvs[i]? with
  |none=>rw[e3]at hy;cases hy
  |some kv=>
   rw[e3]at hy;cases hy;obtain⟨b,MQ,qO⟩:=Hi cU e3;have e4:es.toList[i]?=some (Q8 (ve (fC X.prog X.w)) b):=by lk
   rw[aqS,e1]at e4
   cases e4;rw[<-e2];exact qO.2.2
 exact⟨.ref _,_,I2.laid hk (aW _) (show dN X.prog X.w _ _ _ (.af _)from⟨by lk,ap.toList,c,hv,by omega⟩),rfl,q _ (I2.aG.fresh (aW _))⟩
def BS(K:aP)(a b c:ag):It:=
 ⟨λi H=> ∃xs ys zs x y z,aJ K H a xs/\aJ K H b ys/\aJ K H c zs/\xs[i]?=some x/\ys[i]?=some y/\zs[i]?=some z,λi H v H'=> ∃T x y z,v=.ref T/\H T=none/\H'=aa H T (.aE [x,y,z])/\(∀xs,aJ K H a xs->xs[i]?=some x)/\(∀ys,aJ K H b ys->ys[i]?=some y)/\ ∀zs,aJ K H c zs->zs[i]?=some z,λi H=> ∃xs:List V,aJ K H a xs/\xs.length<=i/\(∃ys,aJ K H b ys)/\ ∃zs,aJ K H c zs⟩
end
def agS{P:bj}{w:a_}{K:aP}{elts:List Expr}{kk:Nat}{fE:Pos}{a b c z TI TO i1 i2 i3:ag}(D:yt z TI TO i1 i2 i3 a b c):
  md P w K (.Tuple elts kk fE) (BS K a b c) [z,TI,TO,i1,i2,i3] z (λi h=>IsZip h z TI TO .none/\i_ h TI (.ref i1) (.ref i2) (.ref i3)/\(∃x y u,i_ h TO x y u)/\h.IsListIter i1 a i/\h.IsListIter i2 b i/\h.IsListIter i3 c i) where
 mem:=by simp
 obj:=λi h st e he=>by
  obtain⟨hz,dh,⟨x,y,u,dC⟩,⟨o1,e1,_,d1⟩,⟨o2,e2,_,d2⟩,⟨o3,e3,_,d3⟩⟩:=st;have e':e=z\/e=TI\/e=TO\/e=i1\/e=i2\/e=i3:=by simpa using he
  rcases e' with q|q|q|q|q|q
  ·rw[q];exact⟨_,hz,λv q=>nomatch q⟩
  ·rw[q];exact⟨_,dh,λv q=>nomatch q⟩
  ·rw[q];exact⟨_,dC,λv q=>nomatch q⟩
  ·lk
  ·lk
  ·lk
 keep:=λi h h' st k=>by
  obtain⟨hz,dh,⟨x,y,u,dC⟩,h1,h2,h3⟩:=st;exact⟨k z (by simp) _ hz,k TI (by simp) _ dh,⟨x,y,u,k TO (by simp) _ dC⟩,h1.at λo q=>k i1 (by simp) o q,h2.at λo q=>k i2 (by simp) o q,h3.at λo q=>k i3 (by simp) o q⟩
 item:=by
  intro X hP hw hK hc i ae s σ H E I hf st hg;subst hP hw hK;obtain⟨hz,dh,⟨x0,y0,u0,dC⟩,h1,h2,h3⟩:=st;obtain⟨xs,ys,zs,x,y,zz,i9,jU,Hy,hx,hy,UW⟩:=hg;obtain⟨its,rv,p,_⟩:=I.list i9;obtain⟨kc,oA,p2,_⟩:=I.list jU;obtain⟨agT,UX,p3,_⟩:=I.list Hy;obtain⟨u,hu,ru⟩:=rv.get hx;obtain⟨u2,BE,BF⟩:=oA.get hy;obtain⟨u3,hu3,ru3⟩:=UX.get UW;have BG:=bO hz;refine wpAny_pyNext_zip3_item D hz dh dC h1 h2 h3 p.isList p2.isList p3.isList (x:=u) (y:=u2) (u:=u3) (by simpa using hu) (by simpa using BE) (by simpa using hu3) λh' z' BH vo BI h3' hT hsz hk=>⟨_,rfl,aqV (s:={s with heap:=h'}) z' λlM MF sb=>?_⟩
  have kg:=(sb.2 _ (kI BG)).trans hT;have new:dN X.prog X.w (aa H s.heap.objs.size (.aE [x,y,zz])) lM s.heap.objs.size (.aE [x,y,zz]):=
   ⟨by show 3<=bh;decide,[u,u2,u3],.cons ru (.cons BF (.cons ru3 .nil)),⟨_,kg,rfl,_,rfl⟩⟩
  have I1:aq X ae σ (aa H s.heap.objs.size (.aE [x,y,zz])) {s with heap:=lM}:=
   I.yp (t':=s.toks) (ch:=[z,TI,TO,i1,i2,i3]) (λc o hb q=>(sb.2 c (λq'=>hb (by simp[q']))).trans (hk c o (λq'=>hb (by simp[q'])) (λq'=>hb (by simp[q'])) (λq'=>hb (by simp[q'])) (λq'=>hb (by simp[q'])) (λq'=>hb (by simp[q'])) q)) hf (aW _) new
  refine⟨.ref s.heap.objs.size,_,I1,rfl,⟨_,x,y,zz,rfl,I.aG.fresh (aW _),rfl,λl hl=>by rw[I.sj hl i9];exact hx,λl hl=>by rw[I.sj hl jU];exact hy,λl hl=>by rw[I.sj hl Hy];exact UW⟩,⟨MF,?_,⟨u,u2,u3,?_⟩,?_,?_,?_⟩,λc kh=>?_⟩
  ·exact(sb.2 _ D.TIz).trans (hk _ _ D.TIz D.TITO D.TIi1 D.TIi2 D.agk dh)
  ·exact(sb.2 _ D.TOz).trans BH
  ·exact vo.at λo q=>(sb.2 _ D.i1z).trans q
  ·exact BI.at λo q=>(sb.2 _ D.i2z).trans q
  ·exact h3'.at λo q=>(sb.2 _ D.Hl).trans q
  ·have a9:c<s.heap.objs.size:=by
    have e':c=z\/c=TI\/c=TO\/c=i1\/c=i2\/c=i3:=by simpa using kh
    rcases e' with q|q|q|q|q|q
    ·rw[q];exact BG
    ·rw[q];exact bO dh
    ·rw[q];exact bO dC
    ·rw[q];obtain⟨_,e1,_⟩:=h1;exact bO e1
    ·rw[q];obtain⟨_,e2,_⟩:=h2;exact bO e2
    ·rw[q];obtain⟨_,e3,_⟩:=h3;exact bO e3
   rw[aw (d7 a9)];exact(hf c kh).1
 done:=by
  intro X hP hw hK hc i ae s σ H E I hf st hg;subst hP hw hK;obtain⟨hz,dh,⟨x0,y0,u0,dC⟩,h1,h2,h3⟩:=st;obtain⟨xs,i9,BJ,_,_⟩:=hg;obtain⟨its,rv,p,_⟩:=I.list i9;have l1:=rv.length;have he:its.toArray[i]?=none:=by simp;lia
  exact wpAny_pyNext_zip3_end (I.ok.hd hc) D hz dh dC h1 p.isList he λh' hk=>⟨rfl,I.Mx (t':=s.toks) (ch:=[z,TI,TO,i1,i2,i3]) (λc o hb q=>
   hk c o (λq'=>hb (by simp[q'])) (λq'=>hb (by simp[q'])) (λq'=>hb (by simp[q'])) (λq'=>hb (by simp[q'])) (λq'=>hb (by simp[q'])) q) hf⟩
 self:=λA i s Q E st h=>Kb st.1 h
def agU{n a b c:Nat}(ha:a<n)(hb:b<n)(hc:c<n):yt (n+5) (n+3) (n+4) n (n+1) (n+2) a b c:=by
 constructor<;>exact λh=>absurd (show(_:Nat)=_ from h) (by lia)
inductive agVI(K:aP)(R:It->Hp->Prop)(vs:List V)(H1:Hp):Prop|mk:∀a b c xs ys zs,vs=[.ref a,.ref b,.ref c]->aJ K H1 a xs->aJ K H1 b ys->aJ K H1 c zs->R (BS K a b c) H1->agVI K R vs H1
def agV(K:aP)(ta:TA):TI:=fun σ H R=>ta σ H (agVI K R)
def agW{X:Cx}{e e2 e3:Expr}{ta:TA}{p pos fE:Pos}{elts:List Expr}{kk:Nat}(hg:Gl X "zip")(hm:X.mg "zip" =none)(ha:PA X [e,e2,e3] ta)
  (hs:autoParam (bV [e,e2,e3] X.ai=(false,eval e X.ai)::bV [e2,e3] X.ai) zA._auto_1)(dH:autoParam ((gp pos (bV [e2,e3] X.ai)).any (·.1)=false) zA._auto_1):
  PI X (.Tuple elts kk fE) (.Call (.Name "zip" p) [e,e2,e3] [] pos) (agV X.K ta):=by
 intro ae s σ H R I h;refine Call_ (jv I hg hm ME (nV (aQ (ha pos ae s σ H _ I h) λus s1⟨vs,H1,I1,r1,q1⟩=>?_) hs dH));obtain⟨a,b,c,xs,ys,zs,ex,i9,jU,Hy,q⟩:=q1;subst ex
 cases r1 with
 |cons r rr=>
  cases rr with
  |cons r' rr=>
   cases rr with
   |cons ui rr=>
    cases rr
    cases r
    cases r'
    cases ui;obtain⟨its,rv,p1,_⟩:=I1.list i9;obtain⟨kc,oA,p2,_⟩:=I1.list jU;obtain⟨agT,UX,p3,_⟩:=I1.list Hy;have la:=p1.lt;have lb:=p2.lt;have lc:=p3.lt;refine agA p1.isList p2.isList p3.isList λh' hz dh dC h1 h2 h3 hsz hk=>Kb hz ?_;have I2:=I1.dX (t':=s1.toks) hk;refine⟨s1.heap.objs.size+5,[s1.heap.objs.size+5,s1.heap.objs.size+3,s1.heap.objs.size+4,s1.heap.objs.size,s1.heap.objs.size+1,s1.heap.objs.size+2],_,_,H1,rfl,I2,agS (agU la lb lc),⟨hz,dh,⟨_,_,_,dC⟩,h1,h2,h3⟩,λc kh=>?_,q⟩;have dJ:s1.heap.objs.size<=c:=by
     fin2
    exact I1.sn dJ (I1.aG.fresh dJ)
def agX{K:aP}{g:TG}{tb:TS}{D:sg}(hy:ys.length=xs.length)(hz:zs.length=xs.length)(Pv:Nat->St->Hp->Prop)(h0:Pv 0 σ H)
  (hl: ∀i σ H,i<=xs.length->Pv i σ H->aJ K H a xs/\aJ K H b ys/\aJ K H c zs)
  (hs: ∀i x y z T σ H,xs[i]?=some x->ys[i]?=some y->zs[i]?=some z->Pv i σ H->H T=none->g (.ref T) σ (aa H T (.aE [x,y,z])) fun be H2=>tb {D with nx:=Pv (i+1),ct:=Pv (i+1),bk:=D.nx} be H2)(hd: ∀σ H,Pv xs.length σ H->D.nx σ H):
  aeGI g tb D σ (BS K a b c) H:=by
 exists λi m σ H=>m=xs.length-i/\i<=xs.length/\Pv i σ H,⟨xs.length,by simp,cX _,h0⟩;rintro i m σ H ⟨rfl,hi,p⟩;obtain⟨q1,q2,q3⟩:=hl i σ H hi p;by_cases a9:i<xs.length
 ·refine .inr ⟨⟨xs,ys,zs,xs[i],ys[i],zs[i],q1,q2,q3,by simp[a9],by simp,by simp⟩,Pv (i+1),fun aL H' p'=>⟨xs.length-(i+1),by lia,rfl,a9,p'⟩,λv H' y=>?_⟩;obtain⟨T,x,y,z,rfl,hT,rfl,e1,e2,e3⟩:=y
  exact hs i x y z T σ H (e1 xs q1) (e2 ys q2) (e3 zs q3) p hT
 ·have e:i=xs.length:=by lia
  subst e;exact .inl ⟨⟨xs,q1,aW _,⟨_,q2⟩,⟨_,q3⟩⟩,hd σ H p⟩
def uq{K:aP}{g:TG}{tb:TS}{D:sg}(Pv:Nat->St->Hp->Prop)(h0:Pv 0 σ H)(hl: ∀i σ H,i<=xs.length->Pv i σ H->aJ K H a xs)
  (hs: ∀i x T σ H,xs[i]?=some x->Pv i σ H->H T=none->g (.ref T) σ (aa H T (.aE [.int (i:Nat),x])) fun be H2=>tb {D with nx:=Pv (i+1),ct:=Pv (i+1),bk:=D.nx} be H2)(hd: ∀σ H,Pv xs.length σ H->D.nx σ H):
  aeGI g tb D σ (ul K a) H:=by
 exists λi m σ H=>m=xs.length-i/\i<=xs.length/\Pv i σ H,⟨xs.length,by simp,cX _,h0⟩;rintro i m σ H ⟨rfl,hi,p⟩;have q:=hl i σ H hi p;by_cases a9:i<xs.length
 ·refine .inr ⟨⟨xs,xs[i],q,by simp[a9]⟩,Pv (i+1),fun aL H' p'=>⟨xs.length-(i+1),by omega,rfl,a9,p'⟩,λv H' y=>?_⟩;obtain⟨T,x,rfl,hT,rfl,e1⟩:=y
  exact hs i x T σ H (e1 xs q) p hT
 ·have e:i=xs.length:=by lia
  subst e;exact .inl ⟨⟨xs,q,aW _⟩,hd σ H p⟩
def UY{K:aP}{g:TG}{tt:TT}{te:TE}{H1:Hp}{D:ag}{Qd:Hp->Prop}(Pv:Nat->Hp->Prop)(h0:Pv 0 (aa H1 D (.af [])))(hl: ∀i H,i<=xs.length->Pv i H->aJ K H a xs)
  (hs: ∀i x T H,xs[i]?=some x->Pv i H->H T=none->LcS g tt te vs σ D (Pv (i+1)) (.ref T) (aa H T (.aE [.int (i:Nat),x])))(hd: ∀H,Pv xs.length H->Qd H):
  MgI g tt te vs σ Qd (ul K a) D H1:=by
 exists λi m H=>m=xs.length-i/\i<=xs.length/\Pv i H,⟨xs.length,by simp,cX _,h0⟩;rintro i m H ⟨rfl,hi,p⟩;have q:=hl i H hi p;by_cases a9:i<xs.length
 ·refine .inr ⟨⟨xs,xs[i],q,by simp[a9]⟩,Pv (i+1),λH' p'=>⟨xs.length-(i+1),by omega,rfl,a9,p'⟩,λv H' y=>?_⟩;obtain⟨T,x,rfl,hT,rfl,e1⟩:=y
  exact hs i x T H (e1 xs q) p hT
 ·have e:i=xs.length:=by lia
  subst e;exact .inl ⟨⟨xs,q,aW _⟩,hd H p⟩
def UZ{K:aP}{g:TG}{tt:TT}{te:TE}{H1:Hp}{D:ag}{Qd:Hp->Prop}(hy:ys.length=xs.length)(Pv:Nat->Hp->Prop)(h0:Pv 0 (aa H1 D (.af [])))(hl: ∀i H,i<=xs.length->Pv i H->aJ K H a xs/\aJ K H b ys)
  (hs: ∀i x y T H,xs[i]?=some x->ys[i]?=some y->Pv i H->H T=none->LcS g tt te vs σ D (Pv (i+1)) (.ref T) (aa H T (.aE [x,y])))(hd: ∀H,Pv xs.length H->Qd H):
  MgI g tt te vs σ Qd (sD K a b) D H1:=by
 exists λi m H=>m=xs.length-i/\i<=xs.length/\Pv i H,⟨xs.length,by simp,cX _,h0⟩;rintro i m H ⟨rfl,hi,p⟩;obtain⟨q1,q2⟩:=hl i H hi p;by_cases a9:i<xs.length
 ·refine .inr ⟨⟨xs,ys,xs[i],ys[i],q1,q2,by simp[a9],by simp⟩,Pv (i+1),λH' p'=>⟨xs.length-(i+1),by omega,rfl,a9,p'⟩,λv H' y=>?_⟩;obtain⟨T,x,y,rfl,hT,rfl,e1,e2⟩:=y
  exact hs i x y T H (e1 xs q1) (e2 ys q2) p hT
 ·have e:i=xs.length:=by lia
  subst e;exact .inl ⟨⟨xs,ys,q1,q2,.inl (aW _)⟩,hd H p⟩
section
variable{X:Cx}
def nE(K:aP)(hK:autoParam (X.K=K) zA._auto_1):G8 X (L3 K):=by subst hK;exact bY
def MR(K:aP)(he:PE X e ta)(hb:xr e f X.ai (eval e X.ai)=eval e X.ai)(hK:autoParam (X.K=K) zA._auto_1):PE X (.Attribute e f pos) (Tw K ta f):=by subst hK;exact aV he hb
def U0(K:aP)(hK:autoParam (X.K=K) zA._auto_1):qH X (.builtin "len") (agY K):=by subst hK;exact eX
def yB(K:aP){k:Nat}{pos:Pos}(hc:X.jS=true)(h:A9 X es t)
  (hn:autoParam ((xt es X.ai).length=n) zA._auto_1)(bW:autoParam ((xt es X.ai).findIdx? (·.1)=none) zA._auto_1)(hK:autoParam (X.K=K) zA._auto_1):PG X (.Tuple es k pos) (S9 K n t):=by subst hK;exact nh hc h hn bW
def ja{A B:Hp->Prop}(h:A H):T8 σ H (λb H3=>if b=true then A H3 else B H3):=by
 assumption
def agZ(t:TT)(i j:Int):TE:=fun σ H Q=>t σ H λk H1=>Q (.int (if k=true then i else j)) H1
def U1(hc:PT X c tA):PE X (.IfExp c (.Constant (.int i) a p1) (.Constant (.int j) b p2) pos) (agZ tA i j):=by
 intro ae s σ H Q I h;have e:(λk H1=>Q (.int (if k=true then i else j)) H1)=(λc H1=>if c=true then tC (.int i) σ H1 Q else tC (.int j) σ H1 Q):=by
  funext k H1
  cases k
  ·rw[if_neg (by room),if_neg (by room)];rfl
  ·rw[if_pos rfl,if_pos rfl];rfl
 refine aej hc bm bm ae s σ H Q I ?_;unfold S8;rw[<-e];exact h
end
def ag0{g:TG}{tb:TS}{D:sg}(Pv:Nat->St->Hp->Prop)(h0:Pv 0 σ H)(hl: ∀i σ H,i<=kvs.length->Pv i σ H->H d=some (.bu o (.dK kvs)))
  (hs: ∀i k v σ H,kvs[i]?=some (k,v)->Pv i σ H->g (kV k) σ H fun be H2=>tb {D with nx:=Pv (i+1),ct:=Pv (i+1),bk:=D.nx} be H2)(hd: ∀σ H,Pv kvs.length σ H->D.nx σ H):
  aeGI g tb D σ (BC d o kvs) H:=by
 exists λi m σ H=>m=kvs.length-i/\i<=kvs.length/\Pv i σ H,⟨kvs.length,by simp,cX _,h0⟩;rintro i m σ H ⟨rfl,hi,p⟩;have q:=hl i σ H hi p;by_cases a9:i<kvs.length
 ·refine .inr ⟨⟨q,a9⟩,Pv (i+1),fun aL H' p'=>⟨kvs.length-(i+1),by omega,rfl,a9,p'⟩,λv H' y=>?_⟩;obtain⟨rfl,k,v',e,rfl⟩:=y;exact hs i k v' σ _ e p
 ·have e:i=kvs.length:=by lia
  subst e;exact .inl ⟨⟨q,aW _⟩,hd σ H p⟩
def ag1{g:TG}{tb:TS}{D:sg}(Pv:Nat->St->Hp->Prop)(h0:Pv 0 σ H)(hl: ∀i σ H,i<=kvs.length->Pv i σ H->H d=some (.bu o (.dK kvs)))
  (hs: ∀i k v T σ H,kvs[i]?=some (k,v)->Pv i σ H->H T=none->g (.ref T) σ (aa H T (.aE [kV k,v])) fun be H2=>tb {D with nx:=Pv (i+1),ct:=Pv (i+1),bk:=D.nx} be H2)(hd: ∀σ H,Pv kvs.length σ H->D.nx σ H):
  aeGI g tb D σ (BD d o kvs) H:=by
 exists λi m σ H=>m=kvs.length-i/\i<=kvs.length/\Pv i σ H,⟨kvs.length,by simp,cX _,h0⟩;rintro i m σ H ⟨rfl,hi,p⟩;have q:=hl i σ H hi p;by_cases a9:i<kvs.length
 ·refine .inr ⟨⟨q,a9⟩,Pv (i+1),fun aL H' p'=>⟨kvs.length-(i+1),by omega,rfl,a9,p'⟩,λv H' y=>?_⟩;obtain⟨T,k,v',e,rfl,hT,rfl⟩:=y
  exact hs i k v' T σ H e p hT
 ·have e:i=kvs.length:=by lia
  subst e;exact .inl ⟨⟨q,aW _⟩,hd σ H p⟩
theorem MS{κ:Type}[DecidableEq κ]{k:κ}{v:V}: ∀{kvs:List (κ×V)},(kvs.map (·.1)).Nodup->(k,v)∈kvs->cI kvs k=some v
 |[],_,h=>by cases h
 |p::r,hn,h=>by
  have eV:=jL.mp hn;rcases cO.mp h with e|h2
  ·rw[<-e];exact kf rfl
  ·rw[i8 (λe=>eV.1 (cQ.mpr ⟨_,h2,e.symm⟩))];exact MS eV.2 h2
theorem MT{κ:Type}[DecidableEq κ]{k:κ}: ∀{kvs:List (κ×V)},k∉kvs.map (·.1)->cI kvs k=none
 |[],_=>rfl
 |p::r,h=>by
  rw[gF,cO,not_or]at h;rw[i8 (λe=>h.1 e.symm)];exact MT h.2
end L2
namespace k6
open PySem
def Up(xs:Array Nat):Prop:=xs.toList.Pairwise (·< ·)
structure G(t:Ap):Prop where
 led:t.led=true
 up:Up t.place
structure At(xs:Array Nat)(j r:Nat):Prop where
 le:r<=xs.size
 low: ∀i(h:i<xs.size),i<r->xs[i]<j
 high: ∀i(h:i<xs.size),r<=i->j<=xs[i]
def BU(u:Up xs){i k:Nat}(hk:k<xs.size)(h:i<k):xs[i]<xs[k]:=by
 have:=Fz.mp u i k (by rw[kC];omega) (by omega) h;simpa using this
theorem MU{xs:Array Nat}{j:Nat}(u:Up xs): ∀k9 lo hi,hi-lo<=k9->lo<=hi->hi<=xs.size->(∀i h,i<lo->xs[i]<j)->(∀i h,hi<=i->j<=xs[i])->At xs j (aqw xs j k9 lo hi)
 |0,lo,hi,hf,hlh,hs,h1,h2=>by
  have:hi=lo:=by lia
  subst this;exact⟨hs,h1,h2⟩
 |k9+1,lo,hi,hf,hlh,hs,h1,h2=>by
  unfold aqw;by_cases a9:lo<hi
  ·rw[if_pos a9];have hm:(lo+hi)/2<xs.size:=by omega
   have eg:xs.getD ((lo+hi)/2) j=xs[(lo+hi)/2]:=by lk
   dsimp only;rw[eg];by_cases hc:xs[(lo+hi)/2]<j
   ·rw[if_pos hc];refine MU u k9 _ _ (by omega) (by omega) hs (λi h h_=>?_) h2;by_cases e:i=(lo+hi)/2
    ·subst e;exact hc
    ·have:=BU u hm (show i<(lo+hi)/2 by omega);omega
   ·rw[if_neg hc];refine MU u k9 _ _ (by omega) (by omega) (by lia) h1 (λi h h_=>?_);by_cases e:i=(lo+hi)/2
    ·subst e;omega
    ·have:=BU u h (show(lo+hi)/2<i by omega);omega
  ·rw[if_neg a9];have:hi=lo:=by lia
   subst this;exact⟨hs,h1,h2⟩
def MV(u:Up xs)(j:Nat):At xs j (lX xs j):=
 MU u _ _ _ (by lia) (cX _) (aW _) (λ_ _ h=>absurd h (by lia)) λi h h'=>absurd h' (by lia)
def ag2{α:Type}(xs:Array α)(p:Nat)(x:α)(hp:p<=xs.size):(abn xs p x).toList=xs.toList.take p++x::xs.toList.drop p:=by
 unfold abn;simp[Array.toList_extract,List.extract_eq_take_drop];rw[aa5 (by simp)]
def ag3(u:Up xs)(hj:j∉xs.toList):Up (abn xs (lX xs j) j):=by
 have a:=MV u j;unfold Up;rw[ag2 _ _ _ a.le,FG];have u':=u;have atj: ∀x∈xs.toList.take (lX xs j),x<j:=λx hx=>by
  obtain⟨i,hi,rfl⟩:=kD hx;rw[il,kC]at hi;have:=a.low i (by omega) (by omega);simpa using this
 have ag4: ∀x∈xs.toList.drop (lX xs j),j<x:=λx hx=>by
  obtain⟨i,hi,rfl⟩:=kD hx;rw[abB,kC]at hi;have h1:=a.high (lX xs j+i) (by omega) (by lia);fin2
 refine⟨u'.sublist (arz _ _),?_,λx hx y hy=>?_⟩
 ·rw[rM];exact⟨ag4,u'.sublist (List.drop_sublist _ _)⟩
 ·fin2
def ag5(n:Nat):Up (Array.range n):=by
 unfold Up;rw[Array.toList_range];exact aqP
def Hz(h:G t)(n:Nat):G (t.standIn n):=⟨h.led,ag5 n⟩
def ag6(h:G t)(hj:j∉t.place.toList):G (t.put j).1:=⟨h.led,ag3 h.up hj⟩
def U2(h:G t)(hj:j∈t.place.toList): ∃i,t.slot j=.live i:=by
 obtain⟨i,hi,e⟩:=kD hj;rw[kC]at hi;have a:=MV h.up j;have e':t.place[i]=j:=by simpa using e
 have hb:lX t.place j=i:=by
  by_cases h1:i<lX t.place j
  ·have:=a.low i hi h1;lia
  ·by_cases h2:lX t.place j=i
   ·exact h2
   ·have h3:=a.high (lX t.place j) (by lia) (aW _);have h4:=BU h.up hi (show lX t.place j<i by lia);lia
 exists i;unfold SetTable.slot;lk
theorem MW{t:Ap}(h:G t){ha:Nat->Int}{hh:Int}{j:Nat}{d:Option Nat}: ∀k9 p,(∀x,p.dummy=some x->x∉t.place.toList)->aa4 t ha hh k9 p=some (.empty j d)->j∉t.place.toList/\ ∀x,d=some x->x∉t.place.toList
 |0,p,_,e=>by simp[aa4]at e
 |k9+1,p,hp,e=>by
  unfold aa4 at e;have adv:(t.advance p).dummy=p.dummy:=by
   unfold aqY;split<;>rfl
  cases q:t.slot p.j with
  |empty=>
   rw[q]at e;simp at e;obtain⟨rfl,rfl⟩:=e;exact⟨λz=>(by obtain⟨i,hi⟩:=U2 h z;lk),hp⟩
  |dummy=>
   rw[q]at e;refine MW h k9 _ (λx hx=>?_) e;have ag7:(t.advance {p with dummy:=some p.j}).dummy=some p.j:=by
    unfold aqY;split<;>rfl
   rw[ag7]at hx
   cases hx;exact λz=>by obtain⟨i,hi⟩:=U2 h z;lk
  |live i=>
   rw[q]at e;dsimp only at e;split at e
   ·cases e
   ·exact MW h k9 _ (by rw[adv];exact hp) e
def ag8(h:G t)(e:t.freeSlot hh=some (j,b)):j∉t.place.toList:=by
 unfold SetTable.freeSlot at e
 cases q:t.probe (λ_=>hh+1) hh (t.probeStart hh)with
 |none=>rw[q]at e;cases e
 |some m=>
  rw[q]at e
  cases m with
  |candidate=>cases e
  |empty j' d=>
   have:=MW h _ _ (λx hx=>by cases hx) q
   cases e
   cases d with
   |none=>exact this.1
   |some x=>exact this.2 x rfl
def ag9(h:G t)(es:Array (Int×au))(hh:Int)(x:au):G (Rl t es hh x).2.1:=by
 unfold Rl
 cases q:t.freeSlot hh with
 |none=>exact Hz h _
 |some m=>
  obtain⟨j,b⟩:=m;have hp:=ag6 h (ag8 h q);dsimp only;unfold SetTable.orStandIn;split
  ·exact hp
  ·exact Hz hp _
def ag_{plain:Bool}(e:aru mask finger moves true plain hs=some (t',order)):G t':=by
 unfold aru at e
 cases q:SetTable.layClean mask hs with
 |none=>rw[q]at e;cases e
 |some owner=>
  rw[q]at e;simp at e;obtain⟨rfl,_⟩:=e;exists rfl;unfold Up;have key: ∀(l:aj),l.Pairwise (·< ·)->((l.filterMap λj=>(owner.getD j none).map (j, ·)).map (·.1)).Pairwise (·< ·):=λl hl=>by
   have MN:((l.filterMap λj=>(owner.getD j none).map (j, ·)).map (·.1)).Sublist l:=by
    clear hl;induction l with
    |nil=>exact auo
    |cons a l ih=>
     rw[abp]
     cases owner.getD a none with
     |none=>exact ih.cons _
     |some k=>exact ih.cons₂ _
   exact hl.sublist MN
  have:=key _ (aqP (n:=mask+1));simpa using this
def aha(h:G t)(es:Array (Int×au))(n:Nat):G (Ao t es n).2.1:=by
 unfold Ao
 cases q:t.relaid (es.map (·.1)) n with
 |none=>exact Hz h _
 |some m=>
  obtain⟨t',order⟩:=m;unfold SetTable.relaid at q;rw[h.led]at q;dsimp only;split
  ·exact ag_ q
  ·exact Hz h _
def ahb(f m:Nat):G (SetTable.fresh f m true):=⟨rfl,aqF⟩
section
variable{prog:bj}{w:a_}{A:eJ}{E:au->aR->Prop}{s:aR}
def k_:au->Int
 |.int k _=>k
 |_=>0
def U3(h:(n_ prog w).is k v=true):k_ v=k:=by
 obtain⟨t,rfl⟩:=abw (k:=k) (v:=v) h;rfl
def fV(prog:bj)(w:a_)(h:Heap)(a:ag)(led:Bool)(L:List Int):Prop:=
 ∃o es ep t,h.get? a=some o/\o.ExactSet/\o.data=.set es ep t/\acw (n_ prog w) es.toList/\(es.toList.map λe=>k_ e.2).Perm L/\L.Nodup/\es.size<mS/\t.fits es.size=true/\(led=true->G t)
def fV.keep(x:fV prog w h a led L)(k: ∀o,h.get? a=some o->h'.get? a=some o):fV prog w h' a led L:=by
 obtain⟨o,es,ep,t,ho,r⟩:=x;exact⟨o,es,ep,t,k o ho,r⟩
def stored{h:Heap}(ho:h.get? a=some o)(hx:o.ExactSet)(hd:o.data=.set es ep t)
  (oy:acw (n_ prog w) gX.toList)(hp:(gX.toList.map λe=>k_ e.2).Perm L)(hn:L.Nodup)(hb:gX.size<mS)(hf:t'.fits gX.size=true)(hg:led=true->G t'):
  ∃o',(h.update a (Kr gX t')).get? a=some o'/\o'.ExactSet/\o'.data=.set gX (ep+1) t'/\fV prog w (h.update a (Kr gX t')) a led L:=by
 have e:=putSet_of gX t' hd;have q:(h.update a (Kr gX t')).get? a=some (Kr gX t' o):=o5 _ ho (by rw[e];rfl);rw[e]at q;exact⟨_,q,hx,rfl,_,gX,ep+1,t',q,hx,rfl,oy,hp,hn,hb,hf,hg⟩
def ahc{a:ag}{led:Bool}{L:List Int}{k:Int}{f_:Tok}{Q:Bool->aR->Prop}(hS:fV prog w s.heap a led L)(room:L.length+1<mS)
  (h: ∀b h',jM a s.heap h'->fV prog w h' a led (if k∈L then L else k::L)->Q b {s with heap:=h'}):wpAny (model prog w) A (as1 a (.int k f_) ((n_ prog w).hash k)) Q E s:=by
 obtain⟨o,es,ep,t,ho,hx,hd,oy,hp,hn,hb,hf,hg⟩:=hS;have key:(n_ prog w).is k (.int k f_)=true:=intKind_is _ _ _ _;have cS:es.size=L.length:=by rw[<-kC,<-ax (f:=λe:Int×au=>k_ e.2),hp.length_eq]
 have ahd:k∈L↔ ∃e∈es.toList,(n_ prog w).is k e.2=true:=by
  rw[<-hp.mem_iff,cQ];constructor
  ·rintro⟨e,he,rfl⟩;obtain⟨⟨k',kP,_⟩,_⟩:=oy e he;exact⟨e,he,by rw[U3 kP];exact kP⟩
  ·rintro⟨e,he,q⟩;exact⟨e,he,U3 q⟩
 unfold as1 setAddHashedIn;apply kG;apply ah;refine FJ ho hd hf ?_;show wpAny _ _ (if byScan (.int k f_) es=true then _ else _) _ _ _;rw[if_pos (byScan_of rfl hb oy)];apply ah;unfold setAddByScan;apply ah;apply tP;apply ah;refine wpAny_setScan_of key ho hd hf oy ?_
 cases hr:List.findIdx? (λe=>(n_ prog w).is k e.2) es.toList with
 |some j=>
  obtain⟨hj,MX,_⟩:=List.findIdx?_eq_some_iff_getElem.mp hr;have hk:=ahd.mpr ⟨_,nY hj,MX⟩;have q:=h false s.heap (aqH a s.heap) (by rw[if_pos hk];exact⟨o,es,ep,t,ho,hx,hd,oy,hp,hn,hb,hf,hg⟩);refine az (az ?_);exact q
 |none=>
  have hk:k∉L:=λz=>by
   fin2
  rw[if_neg hk]at h;have p1:=layNew_perm t es ((n_ prog w).hash k) (.int k f_);have f1:=layNew_fits t es ((n_ prog w).hash k) (.int k f_);have g1:led=true->G (Rl t es ((n_ prog w).hash k) (.int k f_)).2.1:=λz=>ag9 (hg z) _ _ _;dsimp only;generalize Rl t es ((n_ prog w).hash k) (.int k f_)=R1 at p1 f1 g1⊢;obtain⟨iT,t1,U4,ahe⟩:=R1;dsimp only at p1 f1 g1⊢;rw[aro]at p1;have U5:acw (n_ prog w) iT.toList:=(oy.push key rfl).perm p1;have yC:(iT.toList.map λe=>k_ e.2).Perm (k::L):=by
   refine(p1.map _).trans ?_;rw[bI];exact List.perm_append_comm.trans (are k hp)
  have U6:(k::L).Nodup:=jL.mpr ⟨hk,hn⟩;have yD:iT.size=L.length+1:=by rw[<-kC,p1.length_eq,dS,kC,cS];rfl
  have b1:iT.size<mS:=by rw[yD];exact room
  obtain⟨o1,HD,wg,mx,S1⟩:=stored (prog:=prog) (w:=w) ho hx hd U5 yC U6 b1 f1 g1;have U7:=lz s.heap a (Kr iT t1);apply ah;have go: ∀m Q',(m=rule "set.scan.the-table-gave-way" \/m=pure ())->Q' () s->wpAny (model prog w) A m Q' E s:=λm Q' e q=>by
   rcases e with rfl|rfl
   ·exact tP q
   ·exact az q
  refine go _ _ (by cases ahe;exact .inr rfl;exact .inl rfl) ?_;have bM: ∀(g:Bool->Sem Unit) R,(∀b s1 Q',Q' () s1->wpAny (model prog w) A (g b) Q' E s1)->(∀h':Heap,jM a s.heap h'->fV prog w h' a led (k::L)->R (some true) {s with heap:=h'})->wpAny (model prog w) A (storeSet a iT t1>>=λ_=>if(!U4&&t1.tooFull)=true then(g (Ao t1 iT (z_ iT.size)).2.2>>=λ_=>
     storeSet a (Ao t1 iT (z_ iT.size)).1 (Ao t1 iT (z_ iT.size)).2.1>>=λ_=>pure (some true))else pure (some true)) R E s:=λg R hgo hR=>by
   apply ah;refine asl ho hd ?_ (QH b1)
   by_cases jA:(!U4&&t1.tooFull)=true
   ·rw[if_pos jA]
    have p2:=relayAll_perm t1 iT (z_ iT.size)
    have f2:=relayAll_fits t1 iT (z_ iT.size)
    have g2:led=true->G (Ao t1 iT (z_ iT.size)).2.1:=λz=>aha (g1 z) _ _
    generalize Ao t1 iT (z_ iT.size)=R2 at p2 f2 g2⊢
    have sz2:R2.1.size=iT.size:=by rw[<-kC,p2.length_eq,kC]
    have b2:R2.1.size<mS:=by rw[sz2];exact b1
    obtain⟨o2,MY,tT,jW,S2⟩:=stored (prog:=prog) (w:=w) (led:=led) (L:=k::L) HD wg mx (U5.perm p2) ((p2.map _).trans yC) U6 b2 f2 g2
    apply ah
    refine hgo _ _ _ ?_
    apply ah
    refine asl HD mx ?_ (QH b2)
    exact az (hR _ (U7.trans (lz _ a _)) S2)
   ·rw[if_neg jA]
    exact az (hR _ U7 S1)
  have U8: ∀b s1 Q',Q' () s1->wpAny (model prog w) A (match b with|true=>rule "set.scan.the-table-gave-way" |false=>pure ()) Q' E s1:=λb s1 Q' q=>by
   cases b
   ·exact az q
   ·exact tP q
  have out: ∀h':Heap,jM a s.heap h'->fV prog w h' a led (k::L)->wpAny (model prog w) A (pure true:Sem Bool) Q E {s with heap:=h'}:=λh' q1 q2=>az (h true h' q1 q2)
  by_cases dH:t1.plain=true
  ·rw[if_pos dH,hashByValue_scannable 8 rfl]
   apply ah
   apply az
   have ek:plainKind (kK k f_)=true:=rfl
   simp only[ek,if_true]
   exact bM _ _ U8 out
  ·rw[if_neg dH]
   apply ah
   apply az
   simp only[if_true]
   exact bM _ _ U8 out
end
end k6
namespace k6
open PySem PyProof.Rows
section
variable{prog:bj}{w:a_}{A:eJ}{R:Kz->aR->Prop}{I:ag}{fp wr:bp}{Gs:Array acq->Array acq->Prop}{n:Nat}{P:Nat->au->Prop}{St:Nat->aR->Prop}
def qP(val:Nat->Int)(i:Nat)(L:List Int):Prop:=L.length<=i/\ ∀x,x∈L↔ ∃j,j<i/\val j=x
def qP.step(h:qP val i L):qP val (i+1) (if val i∈L then L else val i::L):=by
 have split: ∀x,(∃j,j<i+1/\val j=x)↔(∃j,j<i/\val j=x)\/val i=x:=λx=>by
  fin2
 by_cases q:val i∈L
 ·rw[if_pos q];refine⟨by have:=h.1;lia,λx=>?_⟩;rw[split x,<-h.2 x]
  exact⟨.inl,fun z=>z.elim id fun e=>e▸q⟩
 ·rw[if_neg q];refine⟨by rw[nX];have:=h.1;lia,λx=>?_⟩;rw[split x,<-h.2 x,cO];fin2
theorem MZ{led:Bool}(Wk:WalksS prog w A.in1 I fp wr Gs n P St)(S:ag)(sG:S∉fp)(val:Nat->Int)(wj: ∀i v,P i v-> ∃t,v=.int (val i) t)(hb:n+1<mS):
  ∀(k i:Nat)(s:aR)(L:List Int),n-i=k->i<=n->St i s->fV prog w s.heap S led L->qP val i L->(∀s' L',Moved (S::wr) Gs s s'->fV prog w s'.heap S led L'->qP val n L'->R (.ok (.ret .none)) s')->ph (model prog w) A (.builtin "set.update.loop" ⟨[.ref S,.ref I],[]⟩) R s
 |0,i,s,L,hk,hi,st,hS,hc,out=>by
  obtain rfl:i=n:=by lia
  have nw:S∉wr:=λq=>sG (Wk.sub _ q);apply Ab aq2;rw[JY aa9 _];show wpAny _ A.in1 (j5 (.ref I)>>=_) _ _ s;apply ah;refine Wk.done s _ _ st λs' mv=>?_;refine az ?_;exact out s' L (mv.mono λb hb=>e5 _ hb) (hS.keep λo e=>mv.heap S o nw e) hc
 |k+1,i,s,L,hk,hi,st,hS,hc,out=>by
  have nw:S∉wr:=λq=>sG (Wk.sub _ q);have lt:i<n:=by omega
  apply Ab aq2;rw[JY aa9 _];show wpAny _ A.in1 (j5 (.ref I)>>=_) _ _ s;apply ah;refine Wk.item i s _ _ lt st λv s' hP jw mv=>?_;obtain⟨t,rfl⟩:=wj i v hP;have yy:=hS.keep (h':=s'.heap) λo e=>mv.heap S o nw e;show wpAny _ A.in1 (xy [kK (val i) t] (setAdd S (.int (val i) t))>>=_) _ _ s';apply ah;apply kG;unfold setAdd;apply kG;apply ah;refine(n_ prog w).pyHash (k:=val i) (intKind_is _ _ _ _) ?_;refine ahc (s:={s' with toks:=s'.toks+1}) yy (by have:=hc.1;lia) λb h' sb S2=>?_;have AD: ∀(c:ag)(o:Obj),c≠S->s'.heap.get? c=some o->h'.get? c=some o:=λc o hne e=>by rw[sb.2 c hne];exact e
  refine az ⟨FS aa9 _,MZ Wk S sG val wj hb k (i+1) _ _ (by omega) lt (Wk.frame _ s' _ _ jw (Km _) λc fQ o e=>AD c o (λq=>sG (q▸fQ)) e) S2 hc.step λs2 L2 pC S3 c3=>out s2 L2 ?_ S3 c3⟩;exact Moved.trans Wk.gtrans ((mv.mono λc fQ=>e5 _ fQ).then_heap (Km _) λc o fQ e=>AD c o (λq=>fQ (q▸eG ..)) e) pC
end
section
variable{prog:bj}{w:a_}{A:eJ}{E:au->aR->Prop}{s:aR}
def my(w:a_):Bool:=!(w.params.followText "set-order")
def jB(w:a_):Obj:={cls:=.type "set",dict:=none,data:=.set #[] 0 (.fresh 0 0 (my w))}
def U9(a:au)(h:Q (.ref s.heap.objs.size) {s with heap:=s.heap.push (jB w)}):
  ph (model prog w) A (.call (.builtin "set.__new__") ⟨[.type "set",a],[]⟩) (wants Q E) s:=by
 apply abS;apply ah;refine FT (F.newCall_set_1 a) (az ⟨FS asw _,?_⟩);apply Ab F.entry_set_new;rw[JY asw _];unfold Builtin.«set.__new__» atQ;have MN:=sub_set_self;obtain⟨hp,g,d,tk,os⟩:=s;wp_walk;apply abJ;apply az;simp only[newObj];apply ah;apply wpAny_alloc;apply az;exact az h
def fV.fresh(h:Heap)(o:Obj)(a:ag)(e:h.get? a=some (jB w)):fV prog w h a (my w) []:=
 ⟨jB w,#[],0,.fresh 0 0 (my w),e,⟨rfl,rfl,rfl⟩,rfl,λx hx=>by simp at hx,ard _,Ac,by room,rfl,λz=>by rw[z];exact ahb 0 0⟩
def ahf(hh:A.handled=none)(hl:s.heap.IsList l items)(hi:FZ items.toList ns)(hb:items.size+1<mS)
  (h: ∀(h':Heap)(tk:Nat)(L:List Int),fV prog w h' s.heap.objs.size (my w) L->qP (λi=>ns.getD i 0) items.size L->(∀b o,b<s.heap.objs.size->s.heap.get? b=some o->h'.get? b=some o)->Q (.ref s.heap.objs.size) {s with heap:=h',toks:=tk}):
  wpAny (model prog w) A (call (.type "set") [.ref l]) Q E s:=by
 obtain⟨c,tl,ahg⟩:=F.called_set.mro;have made:=F.called_set.made;have ahh:=F.called_set.sub;apply Q6;apply abS;show wpAny _ _ (callAny (.type "set") _) _ _ _;refine az ⟨ari _ (by x_go),?_⟩;apply Ab ar5;rw[aq1 (arG "set" [.ref l] []) rfl];have t1:=F.called_set.notType;have t2:=F.called_set.canCreate;have t3:=asd (.ref l);repeat (any_goals(first|assumption|wp_step))
 refine vb (U9 (.ref l) (E:=E) (Q:=λv s1=>v=.ref s.heap.objs.size/\s1={s with heap:=s.heap.push (jB w)}) ⟨rfl,rfl⟩) λr s1 x=>?_
 cases r with
 |error e=>exact x
 |ok f=>
  cases f with
  |ret v=>
   obtain⟨rfl,rfl⟩:=x;have BV:(s.heap.push (jB w)).get? s.heap.objs.size=some (jB w):=cJ _ rfl
   have ty:QN {s with heap:=s.heap.push (jB w)} (.ref s.heap.objs.size) "set" :=⟨_,BV,rfl⟩
   have i1:=F.called_set.init.lookup
   have i2:=F.called_set.init.bind (.ref s.heap.objs.size)
   repeat (any_goals(first|assumption|wp_step))
   refine vb (arQ (R:=wants (λv s2=>v=.none/\ ∃(h':Heap)(tk:Nat)(L:List Int),s2={s with heap:=h',toks:=tk}/\fV prog w h' s.heap.objs.size (my w) L/\qP (λi=>ns.getD i 0) items.size L/\∀b o,b<s.heap.objs.size->s.heap.get? b=some o->h'.get? b=some o) E) F.called_set.init.plain asf (asF ty ?_)) λr2 s2 y=>?_
   ·obtain⟨ol,sH,gg,nl,qQ⟩:=hl
    obtain⟨oc,od,oda,pQ⟩:=ol
    simp only at gg qQ
    subst gg
    subst qQ
    have M0:(s.heap.push (jB w)).get? l=some {cls:=.type "list",dict:=od,data:=.seq items nl,slots:=pQ}:=bH _ sH
    have u1:=F.sub_list_set
    have u2:=F.sub_list_frozenset
    have u3:(kJ "list" ==kJ "dict")=false:=by room
    have BW:(s.heap.push (jB w)).IsList l items:=⟨_,M0,rfl,nl,rfl⟩
    unfold Builtin.«set.__init__» noKeywords aqi
    generalize yE:qt=PI
    wp_walk
    subst yE
    refine J6 BW ?_
    apply ah
    apply abY
    have ll:l<s.heap.objs.size:=bO sH
    have yD:(s.heap.push (jB w)).objs.size=s.heap.objs.size+1:=jh ..
    have hv: ∀(i:Nat)(v:au),items[i]?=some v-> ∃t,v=.int ((λi=>ns.getD i 0) i) t:=λi v e=>ary hi i v (by lk)
    refine MZ (led:=my w) (Walks.list (by simp[hh]) _ l (by fin2) items).toS s.heap.objs.size (by fin2) (λi=>ns.getD i 0) hv hb (items.size-0) 0 _ [] rfl (cX _) ⟨⟨_,cJ _ rfl,rfl,rfl⟩,BW.push _⟩
     (fV.fresh _ (jB w) _ (bH _ BV)) ⟨cX _,λx=>by simp⟩ λs' L mv S' C'=>?_
    obtain⟨h',g',d',M3,Bl⟩:=s'
    obtain rfl:g'=s.gens:=mv.gens
    obtain rfl:d'=s.drawn:=mv.drawn
    obtain rfl:Bl=s.os:=mv.os
    show wpAny _ _ _ _ _ _
    apply az
    show wpAny _ _ (ret im) _ _ _
    refine az ⟨rfl,h',M3,L,rfl,S',C',λb o lb e=>?_⟩
    refine mv.heap b o (λq=>?_) (bH _ (bH _ e))
    fin2
   ·cases r2 with
    |error e=>exact y
    |ok f2=>
     cases f2 with
     |ret v2=>
      obtain⟨rfl,h',tk,L,rfl,S',C',kp⟩:=y
      repeat (any_goals(first|assumption|wp_step))
      exact h _ _ L S' C' kp
     |_=>exact y.elim
  |_=>exact x.elim
end
def U_{α:Type}{l:List α}{x:α}(h:l[i]?=some x):(x::l.eraseIdx i).Perm l:=by
 obtain⟨hi,rfl⟩:=gm.mp h;rw[List.eraseIdx_eq_take_drop_succ];have e:l=l.take i++l[i]::l.drop (i+1):=by simp
 conv=>rhs;rw[e]
 exact List.perm_middle.symm
theorem U'{α:Type}(next:Nat->Nat): ∀k9 k left(out:Array α),left.length<=k9->(abI next k9 k left out).toList.Perm (out.toList++left)
 |0,k,left,out,h=>by
  have:left=[]:=Fy (by lia);subst this;unfold abI;rw[lE]
 |k9+1,k,left,out,h=>by
  unfold abI
  cases q:left[next k%left.length]? with
  |none=>
   have:left=[]:=by
    cases left with
    |nil=>rfl
    |cons a l=>
     have h1:next k%(a::l).length<(a::l).length:=ab9 _ (by simp);fin2
   lk
  |some x=>
   have hi:=(gm.mp q).1;have h1:(left.eraseIdx (next k%left.length)).length<=k9:=by rw[List.length_eraseIdx_of_lt hi];lia
   refine(U' next k9 (k+1) _ (out.push x) h1).trans ?_;rw[aro,z7];exact auA _ (U_ q)
def M4{α:Type}(next:Nat->Nat)(xs:Array α):(tQ next xs).toList.Perm xs.toList:=by
 have:=U' next xs.size 0 xs.toList #[] (by simp);simpa[tQ]using this
section
variable{prog:bj}{w:a_}{A:eJ}{E:au->aR->Prop}
def ahi(hn:0<n)(h: ∀i d,i<n->Q i {s with drawn:=d}):wpAny (model prog w) A (choose bZ n) Q E s:=fun Γ p hΓ=>by
 unfold choose;rw[Sem.wp_choose];refine⟨by lia,?_⟩;rw[Sem.wp_pure];exact h _ _ (ab9 _ hn)
theorem Va{α:Type}: ∀n xs s(Q:List α->aR->Prop),xs.length=n->(∀ys d,ys.Perm xs->Q ys {s with drawn:=d})->wpAny (model prog w) A (drawOrder n xs) Q E s
 |0,xs,s,Q,hl,h=>by
  have:=Fy hl;subst this;exact az (h [] s.drawn (ard _))
 |n+1,xs,s,Q,hl,h=>by
  cases xs with
  |nil=>simp at hl
  |cons a l=>
   unfold drawOrder;apply ah;refine ahi (by simp) λi d hi=>?_
   cases q:(a::l)[i]? with
   |none=>rw[eh hi]at q;cases q
   |some x=>
    apply ah;refine Va n _ _ _ (by rw[List.length_eraseIdx_of_lt hi];lia) fun ys d' hp=>az (h (x::ys) d' ?_);exact(are x hp).trans (U_ q)
end
def ahj:acn table "set.__iter__" =some Builtin.«frozenset.__iter__» :=asS (id':="frozenset.__iter__") (by kernel_rfl) rfl (by x_go) (by kernel_rfl)
def pY:Slot "set_iterator" "__next__" "set_iterator.__next__" :=
 .of (owner:="set_iterator") (n:="__next__") (by rw[QR,Qv];kernel_rfl) (by x_go) (by x_go) (by x_go) (by first|exact .inl (by x_go)|exact .inr (by x_go)) (by rw[FQ];kernel_rfl)
def HE:acn table "set_iterator.__next__" =some Builtin.«set_iterator.__next__» :=entryFor_of_tree (by kernel_rfl)
def Vb:Manifest.owners.lookup (String.ofList ['r','o','t','a','r','e','t','i','_','t','e','s'].reverse)=some Manifest.sig_set_iterator:=by kernel_rfl
def HF(a:au):F0 "set_iterator.__next__" ⟨[a],[]⟩:=by
 unfold F0;rw[ab6 (id:="set_iterator.__next__") (n:=['_','_','t','x','e','n','_','_']) (o:=['r','o','t','a','r','e','t','i','_','t','e','s']) (by kernel_rfl) Vb];kernel_rfl
def jC(h:Heap)(I a:ag)(first:au)(i n ep:Nat):Prop:= ∃o,h.get? I=some o/\o.cls=.type "set_iterator" /\o.data=.fields #[first,.int i 0,.ref a,.int n 0,.int ep 0]
def jC.ty{s:aR}{I a:ag}{f:au}{i n ep:Nat}(x:jC s.heap I a f i n ep):s.TypeIs (.ref I) "set_iterator" :=let⟨o,ho,hc,_⟩:=x;⟨o,ho,hc⟩
def lf(h:Heap)(a:ag)(es:Array (Int×au))(ep:Nat)(t:Ap):Prop:= ∃o,h.get? a=some o/\o.data=.set es ep t
section
variable{prog:bj}{w:a_}{A:eJ}{E:au->aR->Prop}{s:aR}{I a:ag}{i n ep:Nat}{es:Array (Int×au)}{t:Ap}
def Vc{slot nx:Nat}(it:jC s.heap I a (.int slot 0) i n ep)(st:lf s.heap a es ep t)(hf:t.fits es.size=true)(hn:es.size=n)
  (hN: ∀A' Q' E',Q' (some (x,nx)) s->wpAny (model prog w) A' (Rf a slot i ep) Q' E' s)
  (h: ∀h',jC h' I a (.int nx 0) (i+1) n ep->jM I s.heap h'->Q (some x) {s with heap:=h'}):wpAny (model prog w) A (j5 (.ref I)) Q E s:=by
 obtain⟨o,ho,hc,hd⟩:=id it;obtain⟨os,ur,ut⟩:=st;apply ah;apply nZ;refine mL (name:=kH "__next__") it.ty pY ?_;refine jg pY it.ty HE ?_ (HF _);apply ah;apply az;apply ah;refine tH ho hd ?_;apply ah;refine J3 ur ut hf ?_;have ne:((es.size:Int) !=(n:Int))=false:=by lk
 rw[ne];simp only[kE,if_false,jf];apply ah;refine hN _ _ _ ?_;apply ah;refine rP ho hd (by simp) ?_;have g1:=o5 (va (·.setIfInBounds 0 (cw (nx:Int)))) ho (FF (qk hd _));have d1:=qk hd (λvs=>vs.setIfInBounds 0 (cw (nx:Int)));apply ah;refine rP g1 d1 (by simp) ?_;have g2:=o5 (va (·.setIfInBounds 1 (cw ((i:Int)+1)))) g1 (FF (qk d1 _));have d2:=qk d1 (λvs=>vs.setIfInBounds 1 (cw ((i:Int)+1)));refine az ⟨_,rfl,az ?_⟩;refine h _ ⟨_,g2,(J5 ..).trans ((J5 ..).trans hc),?_⟩ ((lz ..).trans (lz ..));rw[d2];simp[cw]
def Vd{slot:Nat}(hh:A.handled=none)(it:jC s.heap I a (.int slot 0) i n ep)(st:lf s.heap a es ep t)(hf:t.fits es.size=true)(hn:es.size=n)
  (hN: ∀A' Q' E',Q' none s->wpAny (model prog w) A' (Rf a slot i ep) Q' E' s)
  (h: ∀h',Kj I s.heap h'->Q none {s with heap:=h'}):wpAny (model prog w) A (j5 (.ref I)) Q E s:=by
 obtain⟨o,ho,hc,hd⟩:=id it;obtain⟨os,ur,ut⟩:=st;apply ah;apply nZ;refine mL (name:=kH "__next__") it.ty pY ?_;refine jg pY it.ty HE ?_ (HF _);apply ah;apply az;apply ah;refine tH ho hd ?_;apply ah;refine J3 ur ut hf ?_;have ne:((es.size:Int) !=(n:Int))=false:=by lk
 rw[ne];simp only[kE,if_false,jf];apply ah;refine hN _ _ _ ?_
 apply ah
 refine rP ho hd (by simp) ?_
 apply ah
 simp only[As,Kw]
 apply ah
 refine j4 ?_ (by size_fits)
 apply ah (m:=tJ _ _)
 refine FT (a:=im) (by first|rfl|(simp only[tJ];rfl)) ?_
 refine j4 ?_ (by size_fits)
 simp only[Kv]
 apply ah
 apply Kh
 rw[hh]
 refine ah (az (Kp ?_))
 apply ah
 refine u7 (T:="StopIteration") (b:=true) ⟨_,cJ _ rfl,rfl⟩ Ae ?_
 exact az (h _ (((lz ..).extBut.push _).push _))
def HG(h:Q (w.params.followText "set-order") s):wpAny (model prog w) A setsByText Q E s:=by
 apply ah;apply abJ;exact az h
def Ve(hT:w.params.followText "set-order" =true)(st:lf s.heap a es ep t)(hf:t.fits es.size=true)
  (h:Q (((tQ (w.params.setOrder a ep) es)[i]?).map λe=>(e.2,slot)) s):wpAny (model prog w) A (Rf a slot i ep) Q E s:=by
 obtain⟨o,ho,hd⟩:=st;apply ah;refine FJ ho hd hf ?_;apply ah;refine HG ?_;rw[hT];simp only[if_true,bne_self_eq_false,kE,if_false];apply ah;apply ah;refine FJ ho hd hf ?_;apply ah;refine HG ?_;rw[hT];simp only[if_true];apply ah;apply abJ;apply az;exact az h
def Vf{slot:Nat}{Q:Option (au×Nat)->aR->Prop}(hT:w.params.followText "set-order" =false)(hl:t.led=true)(hp:t.plain=true\/es.size<=1)(st:lf s.heap a es ep t)(hf:t.fits es.size=true)
  (h:Q (match es[lX t.place slot]?,t.place[lX t.place slot]? with|some (_,x),some j=>some (x,j+1)|_,_=>none) s):wpAny (model prog w) A (Rf a slot i ep) Q E s:=by
 obtain⟨o,ho,hd⟩:=st;apply ah;refine FJ ho hd hf ?_;apply ah;refine HG ?_;rw[hT];simp only[kE,if_false];have nd:(!t.plain&&decide (es.size>1))=false:=by
  lia
 have nl:(!t.led&&!es.isEmpty)=false:=by rw[hl];rfl
 refine xn (λz=>absurd (nd.symm.trans z) ik) λ_=>?_;apply ah;show wpAny _ _ (if(!t.led&&!es.isEmpty)=true then _ else _) _ _ _;rw[if_neg (by lk)];apply az;exact az h
end
def Vg:Slot "set_iterator" "__iter__" "set_iterator.__iter__" :=
 .of (owner:="set_iterator") (n:="__iter__") (by rw[QR,Qv];kernel_rfl) (by x_go) (by x_go) (by x_go) (by first|exact .inl (by x_go)|exact .inr (by x_go)) (by rw[FQ];kernel_rfl)
def ahk:acn table "set_iterator.__iter__" =some Builtin.«dict_keyiterator.__iter__» :=asS (id':="dict_keyiterator.__iter__") (by kernel_rfl) rfl (by x_go) (by kernel_rfl)
def ahl(a:au):F0 "set_iterator.__iter__" ⟨[a],[]⟩:=by
 unfold F0;rw[ab6 (id:="set_iterator.__iter__") (n:=['_','_','r','e','t','i','_','_']) (o:=['r','o','t','a','r','e','t','i','_','t','e','s']) (by kernel_rfl) Vb];kernel_rfl
section
variable{prog:bj}{w:a_}{A:eJ}{E:au->aR->Prop}{s:aR}{I a:ag}{i n ep:Nat}{es:Array (Int×au)}{t:Ap}
def M5(it:jC s.heap I a first i n ep)(h:Q (.ref I) s):wpAny (model prog w) A (qt (.ref I)) Q E s:=by
 refine z8 it.ty Vg (jg Vg it.ty ahk ?_ (ahl _));exact az ⟨_,rfl,"set_iterator",_,it.ty,pY.lookup,h⟩
def jC.keep{h h':Heap}{first:au}(x:jC h I a first i n ep)(k: ∀o,h.get? I=some o->h'.get? I=some o):jC h' I a first i n ep:=let⟨o,ho,r⟩:=x;⟨o,k o ho,r⟩
def lf.keep{h h':Heap}(x:lf h a es ep t)(k: ∀o,h.get? a=some o->h'.get? a=some o):lf h' a es ep t:=let⟨o,ho,r⟩:=x;⟨o,k o ho,r⟩
def ahm(hh:A.handled=none)(hT:w.params.followText "set-order" =true)(hne:a≠I)(hf:t.fits es.size=true):
  Walks prog w A I [I,a] [I] es.size (λi v=>((tQ (w.params.setOrder a ep) es)[i]?).map (·.2)=some v) (λi h=>(∃slot:Nat,jC h I a (.int slot 0) i es.size ep)/\lf h a es ep t) where
 sub:=λb hb=>by lk
 frame:=λi h h' st k=>⟨let⟨sl,x⟩:=st.1;⟨sl,x.keep λo e=>k I (by simp) o e⟩,st.2.keep λo e=>k a (by simp) o e⟩
 item:=λi s Q E hi st hQ=>by
  obtain⟨⟨sl,it⟩,se⟩:=st;have hsz:(tQ (w.params.setOrder a ep) es).size=es.size:=by rw[<-kC,(M4 _ es).length_eq,kC]
  have h_:i<(tQ (w.params.setOrder a ep) es).size:=by rw[hsz];exact hi
  refine Vc (x:=(tQ (w.params.setOrder a ep) es)[i].2) (nx:=sl) it se hf rfl (λA' Q' E' q=>Ve hT se hf (by lk)) λh' BX sb=>?_;refine hQ _ h' s.toks (by lk) ⟨⟨sl,BX⟩,se.keep λo e=>by rw[sb.2 a hne];exact e⟩ λb o hb e=>?_;rw[sb.2 b (λq=>hb (by lk))];exact e
 done:=λs Q E st hQ=>by
  obtain⟨⟨sl,it⟩,se⟩:=st;have hsz:(tQ (w.params.setOrder a ep) es).size=es.size:=by rw[<-kC,(M4 _ es).length_eq,kC]
  refine Vd hh it se hf rfl (λA' Q' E' q=>Ve hT se hf (by lk)) λh' ex=>?_;exact hQ h' s.toks λb o hb e=>ex b o (λq=>hb (by lk)) e
 self:=λi s Q E st hQ=>let⟨⟨_,it⟩,_⟩:=st;M5 it hQ
def oB(t:Ap)(i:Nat):Nat:=if i=0 then 0 else t.place.getD (i-1) 0+1
def Vh(g:G t)(hi:i<=t.place.size):lX t.place (oB t i)=i:=by
 have b:=MV g.up (oB t i);have key: ∀k hk,t.place[k]<oB t i↔k<i:=λk hk=>by
  unfold oB;by_cases z:i=0
  ·rw[if_pos z];lia
  ·rw[if_neg z];have h1:i-1<t.place.size:=by lia
   have e:t.place.getD (i-1) 0=t.place[i-1]:=by lk
   rw[e];constructor
   ·intro q;by_cases c:k<i
    ·exact c
    ·have:=BU g.up hk (show i-1<k by lia);omega
   ·intro q;by_cases c:k=i-1
    ·subst c;lia
    ·have:=BU g.up h1 (show k<i-1 by lia);omega
 by_cases c:lX t.place (oB t i)<i
 ·have h1:lX t.place (oB t i)<t.place.size:=by lia
  have:=b.high _ h1 (aW _)
  have:=(key _ h1).mpr c
  lia
 ·by_cases c2:i<lX t.place (oB t i)
  ·have h1:i<t.place.size:=by have:=b.le;lia
   have:=b.low i h1 c2;lk
  ·lia
def ahn(hh:A.handled=none)(hT:w.params.followText "set-order" =false)(g:G t)(hp:t.plain=true\/es.size<=1)(hne:a≠I)(hf:t.fits es.size=true):
  Walks prog w A I [I,a] [I] es.size (λi v=>(es[i]?).map (·.2)=some v) (λi h=>jC h I a (.int (oB t i:Nat) 0) i es.size ep/\lf h a es ep t) where
 sub:=λb hb=>by lk
 frame:=λi h h' st k=>⟨st.1.keep λo e=>k I (by simp) o e,st.2.keep λo e=>k a (by simp) o e⟩
 item:=λi s Q E hi st hQ=>by
  obtain⟨it,se⟩:=st;have dH:t.place.size=es.size:=by
   simp only[arv,eA,beq_iff_eq]at hf;exact hf.1
  have h_:i<t.place.size:=by rw[dH];exact hi
  have enx:oB t (i+1)=t.place[i]+1:=by
   unfold oB;lk
  refine Vc (x:=es[i].2) (nx:=oB t (i+1)) it se hf rfl (λA' Q' E' q=>Vf hT g.led hp se hf (by rw[Vh g (by lia),qj hi,qj h_];lk)) λh' BX sb=>?_;refine hQ _ h' s.toks (by lk) ⟨BX,se.keep λo e=>by rw[sb.2 a hne];exact e⟩ λb o hb e=>?_;rw[sb.2 b (λq=>hb (by lk))];exact e
 done:=λs Q E st hQ=>by
  obtain⟨it,se⟩:=st;have dH:t.place.size=es.size:=by
   simp only[arv,eA,beq_iff_eq]at hf;exact hf.1
  refine Vd hh it se hf rfl (λA' Q' E' q=>Vf hT g.led hp se hf (by rw[Vh g (by lia),JT (aW _)];exact q)) λh' ex=>?_;exact hQ h' s.toks λb o hb e=>ex b o (λq=>hb (by lk)) e
 self:=λi s Q E st hQ=>M5 st.1 hQ
end
def wk(h:Heap)(tp:ag)(order:aj):Prop:= ∃o c,h.get? tp=some o/\o.data=.seq (order.map λ(i:Nat)=>cw i).toArray c
section
variable{prog:bj}{w:a_}{A:eJ}{E:au->aR->Prop}{s:aR}{I a tp:ag}{i n ep:Nat}{es:Array (Int×au)}{t:Ap}{order:aj}
def wk.keep{h h':Heap}(x:wk h tp order)(k: ∀o,h.get? tp=some o->h'.get? tp=some o):wk h' tp order:=let⟨o,c,ho,r⟩:=x;⟨o,c,k o ho,r⟩
def aho(h:order[i]?=some j):(order.map λ(i:Nat)=>cw i).toArray[i]?=some (.int (j:Int) 0):=by
 rw[aqU,gP,h];rfl
def ahp(it:jC s.heap I a (.ref tp) i n ep)(st:lf s.heap a es ep t)(tu:wk s.heap tp order)(hf:t.fits es.size=true)(hn:es.size=n)
  (hj:order[i]?=some j)(hx:es[j]?=some x)
  (h: ∀h',jC h' I a (.ref tp) (i+1) n ep->jM I s.heap h'->Q (some x.2) {s with heap:=h'}):wpAny (model prog w) A (j5 (.ref I)) Q E s:=by
 obtain⟨o,ho,hc,hd⟩:=id it;obtain⟨os,ur,ut⟩:=st;obtain⟨ot,ct,M6,dj⟩:=tu;apply ah;apply nZ;refine mL (name:=kH "__next__") it.ty pY ?_;refine jg pY it.ty HE ?_ (HF _);apply ah;apply az;apply ah;refine tH ho hd ?_;apply ah;refine J3 ur ut hf ?_;have ne:((es.size:Int) !=(n:Int))=false:=by lk
 rw[ne];simp only[kE,if_false,jf];apply ah
 refine mP M6 dj ?_
 dsimp only
 rw[aho hj]
 apply ah
 apply ah
 refine FJ ur ut hf ?_
 simp only[bne_self_eq_false,kE,if_false,jf,hx]
 apply az
 apply ah
 refine rP ho hd (by simp) ?_
 have g2:=o5 (va (·.setIfInBounds 1 (cw ((i:Int)+1)))) ho (FF (qk hd _))
 have d2:=qk hd (λvs=>vs.setIfInBounds 1 (cw ((i:Int)+1)))
 refine az ⟨_,rfl,az ?_⟩
 refine h _ ⟨_,g2,(J5 ..).trans hc,?_⟩ (lz ..)
 rw[d2]
 simp[cw]
def ahq(hh:A.handled=none)(it:jC s.heap I a (.ref tp) i n ep)(st:lf s.heap a es ep t)(tu:wk s.heap tp order)(hf:t.fits es.size=true)(hn:es.size=n)
  (hj:order[i]?=none)(h: ∀h',Kj I s.heap h'->Q none {s with heap:=h'}):wpAny (model prog w) A (j5 (.ref I)) Q E s:=by
 obtain⟨o,ho,hc,hd⟩:=id it;obtain⟨os,ur,ut⟩:=st;obtain⟨ot,ct,M6,dj⟩:=tu;apply ah;apply nZ;refine mL (name:=kH "__next__") it.ty pY ?_;refine jg pY it.ty HE ?_ (HF _);apply ah;apply az;apply ah;refine tH ho hd ?_;apply ah;refine J3 ur ut hf ?_;have ne:((es.size:Int) !=(n:Int))=false:=by lk
 rw[ne];simp only[kE,if_false,jf];apply ah;refine mP M6 dj ?_;dsimp only;have e0:(order.map λ(i:Nat)=>cw i).toArray[i]?=none:=by lk
 rw[e0];apply ah;refine rP ho hd (by simp) ?_;have g1:=o5 (va (·.setIfInBounds 0 (cw 0))) ho (FF (qk hd _));have d1:=qk hd (λvs=>vs.setIfInBounds 0 (cw 0));apply ah;refine rP g1 d1 (by simp) ?_;apply ah;simp only[As,Kw];apply ah;refine j4 ?_ (by size_fits);apply ah (m:=tJ _ _);refine FT (a:=im) (by first|rfl|(simp only[tJ];rfl)) ?_;refine j4 ?_ (by size_fits);simp only[Kv];apply ah;apply Kh;rw[hh];refine ah (az (Kp ?_));apply ah;refine u7 (T:="StopIteration") (b:=true) ⟨_,cJ _ rfl,rfl⟩ Ae ?_;exact az (h _ ((((lz ..).trans (lz ..)).extBut.push _).push _))
def ahr(hh:A.handled=none)(hne:a≠I)(HH:tp≠I)(hf:t.fits es.size=true)(ho:order.Perm (aU es.size)):
  Walks prog w A I [I,a,tp] [I] es.size (λi v=>(order[i]?).bind (λj=>(es[j]?).map (·.2))=some v) (λi h=>jC h I a (.ref tp) i es.size ep/\lf h a es ep t/\wk h tp order) where
 sub:=λb hb=>by lk
 frame:=λi h h' st k=>⟨st.1.keep λo e=>k I (by simp) o e,st.2.1.keep λo e=>k a (by simp) o e,st.2.2.keep λo e=>k tp (by simp) o e⟩
 item:=λi s Q E hi st hQ=>by
  obtain⟨it,se,tu⟩:=st;have h_:i<order.length:=by rw[ho.length_eq,iX];exact hi
  have hj:=lF.mp (ho.mem_iff.mp (nY h_));refine ahp (x:=es[order[i]]) it se tu hf rfl (eh h_) (qj hj) λh' BX sb=>?_;refine hQ _ h' s.toks (by lk) ⟨BX,se.keep λo e=>by rw[sb.2 a hne];exact e,tu.keep λo e=>by rw[sb.2 tp HH];exact e⟩ λb o hb e=>?_;rw[sb.2 b (λq=>hb (by lk))];exact e
 done:=λs Q E st hQ=>by
  obtain⟨it,se,tu⟩:=st;refine ahq hh it se tu hf rfl (JW (by rw[ho.length_eq,iX];exact aW _)) fun h' ex=>?_;exact hQ h' s.toks λb o hb e=>ex b o (λq=>hb (by lk)) e
 self:=λi s Q E st hQ=>M5 st.1 hQ
end
section
variable{prog:bj}{w:a_}{A:eJ}{E:au->aR->Prop}{s:aR}{a:ag}{L:List Int}
def ahs(ho:s.heap.get? a=some o)(hd:o.data=.set es ep t)(hf:t.fits es.size=true)
  (h:Q (!(w.params.followText "set-order")&&(!t.plain&&decide (es.size>1))) s):wpAny (model prog w) A (setDrawn a) Q E s:=by
 apply ah;refine FJ ho hd hf ?_;apply ah;refine HG ?_;exact az h
structure kW(prog:bj)(w:a_)(L:List Int)(I:ag)(h':Heap)(vs:List au)(fp:bp)(P:Nat->au->Prop)(St:Nat->Heap->Prop):Prop where
 fh: ∀A':eJ,A'.handled=none->Walks prog w A' I fp [I] vs.length P St
 st:St 0 h'
 d8: ∀b∈fp,b<h'.objs.size
 at_: ∀i v,P i v->vs[i]?=some v
 perm:(vs.map k_).Perm L
 HI: ∀v∈vs,∃k t,v=kK k t
def aht(hS:fV prog w s.heap a (my w) L)
  (h: ∀(I:ag) h' d vs fp P St,(∀b o,s.heap.get? b=some o->h'.get? b=some o)->s.heap.objs.size<=I->(∀b∈fp,b=a\/s.heap.objs.size<=b)->kW prog w L I h' vs fp P St->Q (.ref I) {s with heap:=h',drawn:=d}):
  wpAny (model prog w) A (qt (.ref a)) Q E s:=by
 obtain⟨o,es,ep,t,ho,hx,hd,oy,hp,hn,hb,hf,hg⟩:=hS;have ty:s.TypeIs (.ref a) "set" :=⟨o,ho,hx.1⟩
 have la:a<s.heap.objs.size:=bO ho;have isI: ∀e∈es.toList,∃k t,e.2=kK k t:=λe he=>by
  obtain⟨⟨k,hk,_⟩,_⟩:=oy e he;obtain⟨t,q⟩:=abw (k:=k) (v:=e.2) hk;exact⟨k,t,q⟩
 refine z8 ty ass (jg ass ty ahj ?_ (F.args_set_iter_1 _));unfold Builtin.«frozenset.__iter__»;apply ah;unfold atO;apply ah;apply az;show wpAny _ _ (pure a) _ _ _;apply az;apply ah;unfold atP;apply ah;refine J3 ho hd hf ?_;apply az;apply ah;refine ahs ho hd hf ?_;have szs:=QH hb;by_cases dr:(!(w.params.followText "set-order")&&(!t.plain&&decide (es.size>1)))=true
 ·dsimp only;rw[if_pos dr];apply ah;refine Va es.size (aU es.size) s _ iX λys d hy=>?_;apply ah;refine Ke ?_ (by rw[ax,hy.length_eq,iX];exact szs);apply ah;have HD:=bH {cls:=.type "tuple",data:=.seq (ys.map λ(i:Nat)=>cw i).toArray} ho;refine asm HD hd hf ?_;apply ah;unfold newFields;refine j4 ?_;refine az ⟨_,rfl,"set_iterator",_,⟨_,cJ _ rfl,rfl⟩,pY.lookup,?_⟩;have Vi: ∀b u,s.heap.get? b=some u->((s.heap.push {cls:=.type "tuple",data:=.seq (ys.map λ(i:Nat)=>cw i).toArray}).push {cls:=.type "set_iterator",data:=.fields [.ref s.heap.objs.size,cw 0,.ref a,cw es.size,cw ep].toArray}).get? b=some u:=λb u e=>bH _ (bH _ e);have yD:(s.heap.push {cls:=.type "tuple",data:=.seq (ys.map λ(i:Nat)=>cw i).toArray}).objs.size=s.heap.objs.size+1:=jh ..;refine h _ _ d (ys.map λj=>((es[j]?).map (·.2)).getD .none) [(s.heap.push {cls:=.type "tuple",data:=.seq (ys.map λ(i:Nat)=>cw i).toArray}).objs.size,a,s.heap.objs.size] (λi v=>(ys[i]?).bind (λj=>(es[j]?).map (·.2))=some v)
   (λi h=>jC h (s.heap.push {cls:=.type "tuple",data:=.seq (ys.map λ(i:Nat)=>cw i).toArray}).objs.size a (.ref s.heap.objs.size) i es.size ep/\lf h a es ep t/\wk h s.heap.objs.size ys)
   Vi (by simp) (λb hb=>?_) {fh:=λA' hh=>?_,st:=⟨⟨_,cJ _ rfl,rfl,rfl⟩,⟨o,Vi _ _ ho,hd⟩,⟨_,_,bH _ (cJ _ rfl),rfl⟩⟩,d8:=λb hb=>?_,at_:=λi v q=>?_,perm:=?_,HI:=λv hv=>?_}
  ·fin2
  ·have:=ahr (prog:=prog) (w:=w) (ep:=ep) (I:=(s.heap.push {cls:=.type "tuple",data:=.seq (ys.map λ(i:Nat)=>cw i).toArray}).objs.size) (tp:=s.heap.objs.size) hh (by rw[yD];exact d7 (arK la)) (by simp) hf hy
   rw[ax,hy.length_eq,iX]
   exact this
  ·rw[jh,yD]
   fin2
  ·rw[gP]
   cases z:ys[i]? with
   |none=>rw[z]at q;cases q
   |some j=>
    rw[z,Option.bind_some]at q
    rw[J9,q];rfl
  ·have e:(aU es.size).map (λj=>k_ (((es[j]?).map (·.2)).getD .none))=es.toList.map λe=>k_ e.2:=by
    apply lC
    ·simp
    ·lk
   rw[dy]
   refine(hy.map _).trans ?_
   show((aU es.size).map fun j=>k_ (((es[j]?).map (·.2)).getD .none)).Perm L
   rw[e];exact hp
  ·obtain⟨j,hj,rfl⟩:=cQ.mp hv
   have lj:j<es.size:=lF.mp (hy.mem_iff.mp hj)
   rw[qj lj]
   exact isI es[j] (Array.getElem_mem_toList lj)
 ·dsimp only
  rw[if_neg dr]
  apply ah
  apply az
  apply ah
  refine asm ho hd hf ?_
  apply ah
  unfold newFields
  refine j4 ?_
  refine az ⟨_,rfl,"set_iterator",_,⟨_,cJ _ rfl,rfl⟩,pY.lookup,?_⟩
  have Vj:jC (s.heap.push {cls:=.type "set_iterator",data:=.fields [cw 0,cw 0,.ref a,cw es.size,cw ep].toArray}) s.heap.objs.size a (.int (0:Nat) 0) 0 es.size ep:=⟨_,cJ _ rfl,rfl,rfl⟩
  have Vk:lf (s.heap.push {cls:=.type "set_iterator",data:=.fields [cw 0,cw 0,.ref a,cw es.size,cw ep].toArray}) a es ep t:=⟨o,bH _ ho,hd⟩
  have hne:a≠s.heap.objs.size:=d7 la
  have gI: ∀b∈[s.heap.objs.size,a],b<(s.heap.push {cls:=.type "set_iterator",data:=.fields [cw 0,cw 0,.ref a,cw es.size,cw ep].toArray}).objs.size:=λb hb=>by
   rw[jh]
   fin2
  have M7: ∀b∈[s.heap.objs.size,a],b=a\/s.heap.objs.size<=b:=λb hb=>by
   fin2
  by_cases bt:w.params.followText "set-order" =true
  ·have pk:=M4 (w.params.setOrder a ep) es
   refine h _ _ s.drawn ((tQ (w.params.setOrder a ep) es).toList.map (·.2)) _ (λi v=>((tQ (w.params.setOrder a ep) es)[i]?).map (·.2)=some v) (λi h=>(∃slot:Nat,jC h s.heap.objs.size a (.int slot 0) i es.size ep)/\lf h a es ep t)
    (λb u e=>bH _ e) (aW _) M7 {fh:=λA' hh=>?_,st:=⟨⟨0,Vj⟩,Vk⟩,d8:=gI,at_:=λi v q=>?_,perm:=?_,HI:=λv hv=>?_}
   ·have:=ahm (prog:=prog) (ep:=ep) hh bt hne hf
    rw[ax,pk.length_eq,kC]
    exact this
   ·rw[gP,aqS];exact q
   ·rw[dy];exact(pk.map _).trans hp
   ·obtain⟨e,he,rfl⟩:=cQ.mp hv
    exact isI e (pk.mem_iff.mp he)
  ·have bf:w.params.followText "set-order" =false:=arD.mpr bt
   have gt:=hg (by unfold my;rw[bf];rfl)
   have pl:t.plain=true\/es.size<=1:=by
    rw[bf]at dr
    cases q:t.plain with
    |true=>exact .inl rfl
    |false=>
     lk
   refine h _ _ s.drawn (es.toList.map (·.2)) _ (λi v=>(es[i]?).map (·.2)=some v) (λi h=>jC h s.heap.objs.size a (.int (oB t i:Nat) 0) i es.size ep/\lf h a es ep t)
    (λb u e=>bH _ e) (aW _) M7 {fh:=λA' hh=>?_,st:=⟨Vj,Vk⟩,d8:=gI,at_:=λi v q=>?_,perm:=?_,HI:=λv hv=>?_}
   ·have:=ahn (prog:=prog) (ep:=ep) hh bf gt pl hne hf
    lk
   ·lk
   ·rw[dy];exact hp
   ·fin2
end
end k6
namespace k6
open PySem PySem.Calls PyProof.Rows PyProof.V PySem.Spec
section
variable{prog:bj}{w:a_}{A:eJ}{E:au->aR->Prop}{s:aR}{a:ag}{L:List Int}
def ahu(ty:s.TypeIs (.ref a) "set")(h:Q false s):wpAny (model prog w) A (aqk (.ref a)) Q E s:=by
 apply ah;refine QP ty PySem.F.slot_set_len.lookup ?_;generalize BY:("set.__len__" :String)=M8;wp_delta;rw[show splitId M8=some ("set","__len__")from by subst BY;x_go];subst BY;apply ah;refine u7 (T:="set") (b:=true) ty (by rw[FQ];kernel_rfl) ?_;refine xn (λz=>absurd z (by room)) λ_=>xn (λ_=>?_) λz=>absurd (by x_go) z;apply ah;refine ab8 ty ?_;exact az h
def fV.ty(e:s.heap=h)(x:fV prog w h a led L):s.TypeIs (.ref a) "set" :=by
 obtain⟨o,es,ep,t,ho,hx,_⟩:=x;exact⟨o,by rw[e];exact ho,hx.1⟩
def fV.lt(x:fV prog w h a led L):a<h.objs.size:=by
 obtain⟨o,es,ep,t,ho,_⟩:=x;exact bO ho
def fV.cT(x:fV prog w h a led L):L.length<=bh:=by
 obtain⟨o,es,ep,t,ho,hx,hd,oy,hp,hn,hb,_⟩:=x;have:es.size=L.length:=by rw[<-kC,<-ax (f:=λe:Int×au=>k_ e.2),hp.length_eq]
 rw[<-this];exact QH hb
def HJ(L:List Int)(vs:List au):Prop:=(vs.map k_).Perm L/\ ∀v∈vs,∃k t,v=kK k t
def ahv{R:Kz->aR->Prop}(hh:A.handled=none)(hS:fV prog w s.heap a (my w) L)(S:ag)(hSa:S≠a)(sI:au)(hl:s.heap.get? S=some {cls:=.type "list",data:=.seq #[] 0})
  (out: ∀h' d tk vs c,(∀b o,b≠S->s.heap.get? b=some o->h'.get? b=some o)->h'.get? S=some {cls:=.type "list",dict:=none,data:=.seq vs.toArray c,slots:=#[]}->HJ L vs->R (.ok (.ret sI)) {s with heap:=h',drawn:=d,toks:=tk}):
  wpAny (model prog w) A.in1 (aaT (.ref S) (.ref a) sI) (λbM s'=>match bM with|.done f=>R (.ok f) s'|.again c'=>c'.quiet=true/\ph (model prog w) A c' R s') (λe s'=>R (.error e) s') s:=by
 have lS:=bO hl;apply ah;refine ab8 (T:="set") (hS.ty rfl) ?_;have h1:Qn (.ref S) (.ref a)=false:=by simp[Qn,hSa]
 have h2:(kJ "set" ==kJ "list")=false:=by room
 have h3:(kJ "set" ==kJ "tuple")=false:=by room
 simp only[h1,h2,h3,asj,kE,if_false];apply ah;refine aht hS λI h1 d vs fp P St kp hI Br W=>?_;have sG:S∉fp:=λq=>by
  fin2
 have bM: ∀h2 c tk,St 0 h2->(∀b o,b≠S->s.heap.get? b=some o->h2.get? b=some o)->h2.get? S=some {cls:=.type "list",data:=.seq #[] c}->ph (model prog w) A (.builtin "list.extend.loop" ⟨[.ref S,.ref I,sI],[]⟩) R {s with heap:=h2,drawn:=d,toks:=tk}:=λh2 c tk xZ k2 ed=>by
  have hn:vs.length<=bh:=by rw[<-ax (f:=k_),W.perm.length_eq];exact hS.cT
  refine arP (W.fh _ (by simp[hh])).toS hn S sG sI vs.length 0 _ #[] c rfl (cX _) xZ ed (ar1 _) λs' ap c' mv sf it=>?_;have ea:ap=vs.toArray:=by
   apply Array.ext_getElem?;intro j;by_cases q:j<ap.size
   ·have:=W.at_ j _ (it.2 j ap[j] (qj q));lk
   ·rw[JT (by lia),aqU,JW (by have:=it.1;lia)]
  subst ea;rw[ar0 mv];refine out s'.heap d s'.toks vs c' (λb o hb e=>mv.heap b o (λq=>?_) (k2 b o hb e)) sf ⟨W.perm,W.HI⟩;rcases cO.mp q with z|z
  ·exact hb z
  ·rw[hZ.mp z]at e;exact absurd (bO e) (Nat.not_lt.mpr hI)
 have eY:=kp _ _ hl;apply ah;apply kG;refine ahu ((hS.keep (kp a)).ty rfl) ?_;refine xn (λ_=>?_) λ_=>az ⟨FS aaY _,bM _ 0 _ W.st (λb o _ e=>kp b o e) eY⟩;apply ah;apply tP;apply ah;show wpAny _ _ (aci S (·.push .none)>>=λ_=>aci S (·.pop)) _ _ _;apply ah;refine QO eY rfl ?_;have ed:=o5 (qm (·.push im)) eY rfl;refine QO (hz:=by seq_fits) ed rfl ?_;have iS:=o5 (qm (·.pop)) ed rfl;have yF: ∀b o,b≠S->h1.get? b=some o->((h1.update S (qm (·.push im))).update S (qm (·.pop))).get? b=some o:=λb o hb e=>
  (JU _ _ (qr hb)).trans ((JU _ _ (qr hb)).trans e)
 refine az ⟨FS aaY _,bM _ _ _ ?_ (λb o hb e=>yF b o hb (kp b o e)) iS⟩;exact(W.fh A.in1 hh).frame 0 _ _ W.st λb hb o e=>yF b o (λq=>sG (q▸hb)) e
def ahw(hh:A.handled=none)(hS:fV prog w s.heap a (my w) L)
  (out: ∀h' d tk vs,(∀b o,s.heap.get? b=some o->h'.get? b=some o)->HJ L vs->R vs {s with heap:=h',drawn:=d,toks:=tk}):wpAny (model prog w) A (collect (.ref a)) R E s:=by
 unfold collect;apply ah;apply abY;apply Ab entry_proto_collect';rw[JY PySem.F.plain_proto_collect _];show wpAny _ A.in1 (newList []>>=λl=>again (.builtin "list.__iadd__" ⟨[l,.ref a],[]⟩)) _ _ s;apply ah;refine j4 ?_;refine az ⟨FS aqB _,?_⟩;apply Ab entry_list_iadd';rw[JY aqB _];have new:(s.heap.push {cls:=.type "list",data:=.seq ([]:List au).toArray}).get? s.heap.objs.size=some {cls:=.type "list",data:=.seq #[]}:=cJ _ rfl;show wpAny _ A.in1 (aaT (.ref s.heap.objs.size) (.ref a) (.ref s.heap.objs.size)) _ _ _;have key:=ahv (A:=A) (s:={s with heap:=s.heap.push {cls:=.type "list",data:=.seq ([]:List au).toArray}})
  (R:=λq s'=> ∃(h':Heap)(d:Drawn)(tk:Nat)(vs:List au)(c:Nat),q=.ok (.ret (.ref s.heap.objs.size))/\s'={s with heap:=h',drawn:=d,toks:=tk}/\(∀b o,s.heap.get? b=some o->h'.get? b=some o)/\h'.get? s.heap.objs.size=some {cls:=.type "list",dict:=none,data:=.seq vs.toArray c,slots:=#[]}/\HJ L vs)
  hh (hS.keep λo e=>bH _ e) s.heap.objs.size (kI hS.lt) (.ref s.heap.objs.size) new
  (λh' d tk vs c kp hl g=>⟨h',d,tk,vs,c,rfl,rfl,λb o e=>kp b o (d7 (bO e)) (bH _ e),hl,g⟩)
 refine mR key (λbM s' x=>?_) λe s' x=>?_
 ·cases bM with
  |done f=>
   obtain⟨h',d,tk,vs,c,e,rfl,kp,hl,g⟩:=x
   cases e;show wpAny _ A (load s.heap.objs.size>>=_) _ _ _;apply ah;refine acd hl ?_
   exact az (by fin2)
  |again c1=>
   refine⟨x.1,vb x.2 λq s2 y=>?_⟩
   obtain⟨h',d,tk,vs,c,rfl,rfl,kp,hl,g⟩:=y
   show wpAny _ A (load s.heap.objs.size>>=_) _ _ _
   apply ah
   refine acd hl ?_
   exact az (by fin2)
 ·lk
def Vl(hh:A.handled=none)(Fm:Fr h0 Lc s.heap m)(N:News h0 Lc s.heap Vm)(hS:fV prog w s.heap a (my w) L)
  (out: ∀D h' d tk vs,Fr h0 Lc h' m->News h0 Lc h' ((D,PySem.W.listOf vs.toArray 0)::Vm)->(∀q∈Vm,q.1<D)->HJ L vs->wpAny (model prog w) A.in1 (call (.builtin "list.sort") [.ref D]) (λ_ s'=>Q (.ref D) s') E {s with heap:=h',drawn:=d,toks:=tk}):wpAny (model prog w) A (call (.builtin "sorted") [.ref a]) Q E s:=by
 refine call_function_entry kind_sorted plain_sorted entry_sorted (args_sorted1 _) ?_;apply ah (m:=checkCount "sorted" 1 1 _);apply az;apply ah;refine ahw (A:=A.in1) hh hS λh' d tk vs kp g=>?_;have hl:vs.length=L.length:=by rw[<-ax (f:=k_),g.1.length_eq]
 apply ah;refine wpAny_newList ?_ (by rw[hl];exact hS.cT);have q:=out h'.objs.size (h'.push {cls:=.type "list",data:=.seq vs.toArray}) d tk vs ((Fm.keeps kp).push _) (News.push (Fm.keeps kp) (λp hp=>⟨kp _ _ (N p hp).1,(N p hp).2⟩) _ rfl) (λp hp=>bO (kp _ _ (N p hp).1)) g;apply ah;apply kG;refine mR q (λ_ s' x=>?_) λ_ _ e=>e;exact az ⟨_,rfl,x⟩
end
end k6
namespace L2
open PySem PySem.Spec PyProof.Rows
section
variable{X:Cx}{ae:List (ag×Obj)}{σ:St}{H:Hp}{s:aR}
def aq.Vn(I:aq X ae σ H s)(d:Drawn):aq X ae σ H {s with drawn:=d}:=
 ⟨I.ok,I.os,I.gV,I.base,I.jt,I.cell,I.free,I.l_,I.lK,I.aG,I.len⟩
inductive ahxI(K:aP)(Q:VK)(x:V)(H1:Hp):Prop|mk:∀(a:ag)(ns:List Int),x=.ref a->aJ K H1 a (ns.map V.int)->ns.length+1<mS->(∀(cK:List Int) p,cK.Nodup->cK.Pairwise (·<= ·)->(∀x,x∈cK↔x∈ns)->H1 p=none->Q (.ref p) (aa H1 p (.af (cK.map V.int))))->ahxI K Q x H1
def ahx(K:aP)(te:TE):TE:=fun σ H Q=>te σ H (ahxI K Q)
def Vo{ns L:List Int}(h:k6.qP (λi=>ns.getD i 0) ns.length L): ∀x,x∈L↔x∈ns:=λx=>by
 rw[h.2 x];constructor
 ·fin2
 ·intro hx;obtain⟨j,hj,e⟩:=kD hx;exists j,hj;lk
def Vp{L:List Int}(h: ∀v∈vs,∃k t,v=kK k t):FZ vs (vs.map k6.k_):=by
 have:bd ((vs.map k6.k_).map V.int) vs:=by
  refine we (by simp) λi x u hx hu=>?_;rw[gP,gP,hu]at hx
  cases hx;obtain⟨k,t,rfl⟩:=h u (eF hu);exact⟨t,rfl⟩
 exact this.ints
def Vq{e:Expr}{te:TE}{p p1 pos jD:Pos}(hc:X.jS=true)(hg:Gl X "sorted")(hm:X.mg "sorted" =none)(M9:Gl X "set")(M_:X.mg "set" =none)(he:PE X e te)
  (jV:autoParam (bV [e] X.ai=(false,eval e X.ai)::bV [] X.ai) zA._auto_1)(di:autoParam ((gp jD (bV [] X.ai)).any (·.1)=false) zA._auto_1)
  (gL:autoParam (bV [.Call (.Name "set" p1) [e] [] jD] X.ai=(false,eval (.Call (.Name "set" p1) [e] [] jD) X.ai)::bV [] X.ai) zA._auto_1)(cC:autoParam ((gp pos (bV [] X.ai)).any (·.1)=false) zA._auto_1):
  PE X (.Call (.Name "sorted" p) [.Call (.Name "set" p1) [e] [] jD] [] pos) (ahx X.K te):=by
 intro ae s σ H Q I h;refine nW (jv I hg hm Q4 ?_);refine aaS ?_ gL cC;rw[gL];show wpAny _ _ (acr ((false,eval (.Call (.Name "set" p1) [e] [] jD) X.ai)::gp pos (bV [] X.ai))) _ _ s;refine uZ ?_;refine nW (jv I M9 M_ aqq ?_);refine nV (aQ ((ak he ay jV) jD ae s σ H (λvs H1=>match vs with
  |[x]=>ahxI X.K Q x H1
  |_=>False) I h) λus s1⟨vs,H1,I1,r,q⟩=>?_) jV di
 match vs,q with
 |[x],q=>
  obtain⟨a,ns,rfl,hs,hb,q⟩:=q;rw[bd.vQ r];obtain⟨its,rv,hl,hz⟩:=I1.list hs;have hi:=rv.ints;have hsz:its.toArray.size=ns.length:=by rw[FH,hi.length]
  refine k6.ahf (I.ok.hd hc) hl.isList (by simpa using hi) (by rw[hsz];exact hb) λh' tk L hS hC kp=>?_;rw[hsz]at hC;have I2:aq X ae σ H1 {s1 with heap:=h',toks:=tk}:=I1.dX λb o e=>kp b o (bO e) e;refine zY ?_;obtain⟨m,F⟩:=I2.fr;have Na:=F.ns;refine k6.Vl (I.ok.hd hc) F GL hS λD h2 d Nb ws F2 N2 lt g=>?_;have uu:=Vp (L:=L) g.2;have hD: ∀p∈pJ X.base h' X.ai.locals,p.1≠D:=λp hp z=>by have:=lt p hp;rw[z]at this;exact xp _ this
  have sx:=hS.cT;have cS:=g.1.length_eq;refine aa8 (A:=X.A.in1) (D:=D) (its:=ws.toArray) (n:=0) (vs:=ws) (ns:=ws.map k6.k_) (news':=λo=>(D,o)::pJ X.base h' X.ai.locals) F2 N2 (λo=>.head λp hp=>hD p hp) (by simp) uu (by rw[cS];exact sx) fun BR cK c h3 F3 N3 i3 _ p3 s3 _=>?_;have new:dN X.prog X.w (aa H1 D (.af (cK.map V.int))) h3 D (.af (cK.map V.int)):=
   ⟨by lk,BR,c,G' i3,(N3 (D,_) (eG ..)).1⟩
  obtain⟨vS,I'⟩:=(I2.Vn d).Hv (t':=Nb) Na F3 N3 lt new;have pL:=p3.trans g.1;obtain⟨_,_,_,_,_,_,_,_,_,oC,_⟩:=hS;exact⟨.ref D,_,I',rfl,q cK D (pL.nodup_iff.mpr oC) s3 (λx=>by rw[pL.mem_iff,Vo hC x]) vS⟩
end
section
variable{X:Cx}{a b c d:Expr}{ta tb tc td:TE}{pos:Pos}
def Nc(h1:PE X e t1)(h2:PE X e t2):PE X e (fun σ H Q=>t1 σ H Q\/t2 σ H Q):=λae s σ H Q I h=>by
 rcases h with h|h
 ·exact h1 ae s σ H Q I h
 ·exact h2 ae s σ H Q I h
inductive ahyI(r':R2)(ui:R2)(tc:TE)(td:TE)(σ:St)(Q:VK)(y:V)(z:V)(H3:Hp):Prop|mk:∀k,z=.bl k->(if k=true then tc σ H3 λw' H4=>r' y w' H4 λz2 H5=> ∃k2,z2=.bl k2/\(if k2=true then td σ H5 λu' H6=>ui w' u' H6 Q else Q (.bl false) H5)else Q (.bl false) H3)->ahyI r' ui tc td σ Q y z H3
def ahy(r r' ui:R2)(ta tb tc td:TE):TE:=fun σ H Q=>ta σ H λx H1=>tb σ H1 λy H2=>r x y H2 (ahyI r' ui tc td σ Q y)
def ahz{op pP Nd:CmpOp}{r r' ui:R2}(ho:eB X (lH op) r)(ju:eB X (lH pP) r')(ahA:eB X (lH Nd) ui)(ha:PE X a ta)(hb:PE X b tb)(hc:PE X c tc)(hd:PE X d td)
  (hm:ack [op,pP,Nd] [b,c,d]=false:=by with_unfolding_all rfl):PT X (.Compare a [op,pP,Nd] [b,c,d] pos) (LP (ahy r r' ui ta tb tc td)):=by
 intro ae s σ H Q I h;refine as3 (aQ (ha ae s σ H _ I h) λv s1⟨x,H1,I1,r1,q1⟩=>acl (aQ (hb ae s1 σ H1 _ I1 q1) λu s2⟨y,H2,I2,r2,q2⟩=>
  aQ (ho ae s2 σ H2 x y v u _ I2 r1 r2 q2) λd s3⟨z,H3,I3,r3,k,e,q3⟩=>?_)) hm
 subst e
 cases r3;refine u5 ?_
 cases k with
 |false=>
  obtain⟨k',e',q'⟩:=q3
  cases e';exact Ro ⟨H3,I3,q'⟩
 |true=>
  refine Rm (acl (aQ (hc ae s3 σ H3 _ I3 q3) λw' s4⟨z',H4,I4,r4,q4⟩=>aQ (ju ae s4 σ H4 y z' u w' _ I4 r2 r4 q4) λd' s5⟨z2,H5,I5,r5,k2,e2,q5⟩=>?_));subst e2
  cases r5;refine u5 ?_
  cases k2 with
  |false=>
   obtain⟨k',e',q'⟩:=q5
   cases e';exact Ro ⟨H5,I5,q'⟩
  |true=>
   refine Rm (test_last (aQ (hd ae s5 σ H5 _ I5 q5) λw2 s6⟨z3,H6,I6,r6,q6⟩=>aQ (ahA ae s6 σ H6 z' z3 w' w2 _ I6 r4 r6 q6) λd2 s7⟨z4,H7,I7,r7,k4,e4,q7⟩=>?_));subst e4
   cases r7;exact u5 ⟨H7,I7,q7⟩
def ahB:eB X (qp .FloorDiv) (rI (λ_ j=>0<j/\j<2^100) λi j=>.int (i/j)):=Bh λi j _ _ _ _ _ hc q=>by
 have h1:=hc.1;have h2:=hc.2;refine floordiv_int (by lia) (by rw[Int.fdiv_eq_ediv_of_nonneg i (by lia)];exact q) (.inl (PyProof.noPylong_of_log2 ?_));have h3:j.natAbs<2^100:=by omega
 have:=(Nat.log2_lt (n:=j.natAbs) (k:=100) (by omega)).mpr h3;lia
def ahC{lo c:Int}{g:TG}{tt:TT}{te:TE}{D:ag}{Qd:Hp->Prop}(Pv:Nat->Hp->Prop)(h0:Pv 0 (aa H1 D (.af [])))
  (hs: ∀i H,i<n->Pv i H->LcS g tt te vs σ D (Pv (i+1)) (.int (lo+(i:Nat)*c)) H)(hd: ∀H,Pv n H->Qd H):
  MgI g tt te vs σ Qd (BB lo c n) D H1:=by
 exists λi m H=>m=n-i/\i<=n/\Pv i H,⟨n,by simp,cX _,h0⟩;rintro i m H ⟨rfl,hi,p⟩;by_cases a9:i<n
 ·refine .inr ⟨a9,Pv (i+1),λH' p'=>⟨n-(i+1),by omega,rfl,a9,p'⟩,λv H' y=>?_⟩;obtain⟨e,y⟩:=y;lk
 ·have e:i=n:=by lia
  subst e;exact .inl ⟨aW _,hd H p⟩
structure BZ(K:aP)(mg:Str->Option au)(x:Str)(kvs:List (Int×Int)):Prop where
 at_: ∃a o es ep,mg x=some (.ref a)/\K.lookup a=some o/\o.ExactDict/\o.data=.dict es ep/\qu (λ(e:n9)(p:Int×Int)=>e.hash=Rh p.1/\(∃t,e.key=kK p.1 t)/\ ∃t,e.val=kK p.2 t) es.toList kvs
 nd:(kvs.map (·.1)).Nodup
theorem Vr{P:bj}{w:a_}: ∀{es:List n9}{kvs:List (Int×Int)},qu (λe p=>e.hash=Rh p.1/\(∃t,e.key=kK p.1 t)/\ ∃t,e.val=kK p.2 t) es kvs->∃vs:List (bR×au),KV (kvs.map λp=>((bQ p.1:bR),V.int p.2)) vs/\Pairs (fC P w) es vs/\(vs.map (·.1))=kvs.map (λp=>(bQ p.1:bR))/\ ∀e∈es,∃k,(fC P w).is k e.key=true/\e.hash=(fC P w).hash k
 |_,_,.nil=>⟨[],.nil,.nil,rfl,λe he=>by cases he⟩
 |e::es,p::kvs,.cons ⟨h1,⟨t,h2⟩,t',h3⟩ r=>by
  obtain⟨vs,a1,a2,a3,a4⟩:=Vr (P:=P) (w:=w) r;have hk:tZ (bQ p.1) e.key=true:=by rw[h2];show QY p.1 (kK p.1 t)=true;simp[QY]
  refine⟨(bQ p.1,e.val)::vs,.cons ⟨rfl,?_⟩ a1,.cons hk rfl a2,by lk,λe' he=>?_⟩
  ·rw[h3];exact⟨t',rfl⟩
  ·rcases cO.mp he with rfl|he
   ·exact⟨bQ p.1,hk,h1⟩
   ·exact a4 e' he
theorem Vs{n v:Int}: ∀{kvs:List (Int×Int)},kvs.lookup n=some v->cI (kvs.map λp=>((bQ p.1:bR),V.int p.2)) (bQ n)=some (V.int v)
 |[],h=>by cases h
 |p::kvs,h=>by
  rw[gF];by_cases e:n=p.1
  ·subst e;rw[FK,beq_self_eq_true]at h;rw[kf rfl];lk
  ·rw[FK,beq_false_of_ne e]at h;rw[i8 (λz=>e (abP z).symm)];exact Vs h
def ahD{x:Str}{i:Expr}{ty:TE}{kvs:List (Int×Int)}{p pos:Pos}(hg:Gl X x)(D:BZ X.K X.mg x kvs)(hi:PE X i ty)(hs:Mo i)(nv:autoParam ((x==("__debug__" :Str))=false) zB._auto_1):
  PE X (.Subscript (.Name x p) i pos) (fun σ H Q=>ty σ H λy H2=> ∃n v,y=.int n/\kvs.lookup n=some v/\Q (.int v) H2):=by
 obtain⟨⟨a,o,es,ep,hm,hk,qN,iP,jX⟩,nd⟩:=D;intro ae s σ H Q I h;refine Us PySem.F.slot_dict_getitem.lookup hs (aQ ((S7 (v:=.ref a) hg hm rfl nv) ae s σ H (λx H1=>x=.ref a/\ty σ H1 λy H2=> ∃n v,y=.int n/\kvs.lookup n=some v/\Q (.int v) H2) I ⟨rfl,h⟩) λu s1⟨x,H1,I1,rx,ex,q1⟩=>aQ (hi ae s1 σ H1 _ I1 q1) λiv s2⟨y,H2,I2,ry,n,v,ey,hl,q2⟩=>?_)
 subst ex ey;obtain rfl:u=dA a:=rx;have Nf:=I2.kZ a o hk;obtain⟨vs,kv,pr,ks,ahE⟩:=Vr (P:=X.prog) (w:=X.w) jX;have dd:s2.heap.DictOf (fC X.prog X.w) a vs:=⟨o,es,ep,Nf,qN,iP,λe he=>ahE e (by simpa using he),pr,by
  rw[ks];have e:(kvs.map λp=>(bQ p.1:bR))=(kvs.map (·.1)).map bQ:=by rw[dy];rfl
  rw[e];exact Qz.mpr (nd.imp λh z=>h (abP z))⟩
 obtain⟨w',hw,kb⟩:=jq.G4 (v:=V.int v) (o:=xx vs (bQ n)) (by rw[<-Vs hl];exact kv.val (bQ n));exact⟨dd.typeIs,asC (ug (k:=bQ n) ry) dd.mapOf hw ⟨_,H2,I2.f_ _,kb,q2⟩⟩
end
def ahF{prog:bj}{w:a_}{d:ag}{es:Array n9}{ep:Nat}(lo:(d==i0)=false):art prog w "dict" d d es.size (λi v=> ∃en,es[i]?=some en/\en.key=v) (λh=>yA h d es ep) where
 type:=λ_ hm=>let⟨o,ho,hx,_⟩:=hm;⟨o,ho,hx.1⟩;there:=λ_ hm=>by
  obtain⟨_,hd,_⟩:=hm;exact⟨bO hd,bO hd⟩
 keep:=λ_ _ hm hk=>by
  obtain⟨o2,hd,y⟩:=hm;exact⟨o2,hk d (.inr rfl) o2 hd,y⟩
 notList:=by room
 notTuple:=by room
 hint:=λ_ _ _ _ hm hq=>by
  obtain⟨o,ho,hx,_⟩:=hm;exact PySem.W.kdl_hint_dict ⟨o,ho,hx.1⟩ hq
 iter:=λA s hh hm=>by
  obtain⟨o,ho,hc,iP⟩:=hm;have hne:=d7 (bO ho);refine⟨_,λi h=>h.IsKeyIter s.heap.objs.size d i es.size ep/\yA h d es ep,λE Q hq=>My lo ho hc iP hq,?_,⟨_,cJ _ rfl,rfl,rfl⟩,o,bH _ ho,hc,iP⟩;refine⟨λb hb=>by lk,λ_ _ _ st hk=>?_,λi s2 Q E hi st hQ=>?_,λs2 Q E st hQ=>?_,λ_ _ _ _ st hQ=>?_⟩
  ·obtain⟨pX,o2,h2,r2⟩:=st;exact⟨pX.at λo e=>hk _ (by simp) o e,o2,hk d (by simp) o2 h2,r2⟩
  ·obtain⟨pX,o2,h2,c2,d2⟩:=st;refine UB pX h2 d2 rfl (qj hi) λh' ox l8=>?_;exact hQ _ h' s2.toks ⟨_,qj hi,rfl⟩ ⟨ox,o2,(l8.2 d hne).trans h2,c2,d2⟩ λb o hb e=>(l8.2 b (λz=>hb (by simp[z]))).trans e
  ·obtain⟨pX,o2,h2,c2,d2⟩:=st;exact MA hh pX h2 d2 rfl (aW _) λh' uk=>hQ h' s2.toks λb o hb e=>uk b o (λz=>hb (by simp[z])) e
  ·exact arN st.1 hQ
section
variable{X:Cx}
inductive ahGI(Q:VK)(x:V)(H1:Hp):Prop|mk:∀d kvs,x=.ref d->H1 d=some (.dT kvs)->(∀l(ts:bp),H1 l=none->ts.length=kvs.length->(∀(i:Nat) t kv,ts[i]?=some t->kvs[i]?=some kv->H1 t=some (.aE (kv.1.map kV)))->Q (.ref l) (aa H1 l (.af (ts.map V.ref))))->ahGI Q x H1
def ahG(te:TE):TE:=fun σ H Q=>te σ H (ahGI Q)
def ahH{e:Expr}{te:TE}{p pos:Pos}(hc:X.jS=true)(hg:Gl X "list")(hm:X.mg "list" =none)(he:PE X e te)
  (jV:autoParam (bV [e] X.ai=(false,eval e X.ai)::bV [] X.ai) zA._auto_1)(di:autoParam ((gp pos (bV [] X.ai)).any (·.1)=false) zA._auto_1):
  PE X (.Call (.Name "list" p) [e] [] pos) (ahG te):=by
 intro ae s σ H Q I h;refine nW (jv I hg hm JQ ?_);refine nV (aQ ((ak he ay jV) pos ae s σ H (λvs H1=>match vs with
  |[x]=>ahGI Q x H1
  |_=>False) I h) λus s1⟨vs,H1,I1,r,q⟩=>?_) jV di
 match vs,q with
 |[x],q=>
  obtain⟨d,kvs,rfl,hd,q⟩:=q;rw[bd.vQ r];obtain⟨zz,lo,xs,cU,o,es,ep,ho,qN,iP,UV,dL⟩:=I1.aG d _ hd;have hsz:es.size=kvs.length:=by
   have e1:es.toList.length=xs.length:=by fin2
   rw[<-kC,e1,mQ cU]
  refine aq6 (ahF (es:=es) (ep:=ep) lo) (I.ok.hd hc) ⟨o,ho,qN,iP⟩ (by rw[hsz];exact zz) λh' tk ap c hk hS mw=>?_;have el:ap.toList.length=kvs.length:=by
   have:=mw.1;fin2
  have hx: ∀i(kv:List bR×V),kvs[i]?=some kv-> ∃q:List bR×ag×au,xs[i]?=some q/\ap.toList[i]?=some (dA q.2.1)/\H1 q.2.1=some (.aE (kv.1.map kV)):=λi kv hi=>by
   obtain⟨b,MQ,qO⟩:=Hi cU hi;have a9:i<ap.toList.length:=by fin2
   obtain⟨en,e1,e2⟩:=mw.2 i ap.toList[i] (by simp);have e4:es.toList[i]?=some (Q8 (ve (fC X.prog X.w)) b):=by fin2
   rw[aqS,e1]at e4
   cases e4;refine⟨b,MQ,?_,qO.2.1⟩;rw[eh a9,<-e2];rfl
  have qz:=(mQ cU).symm;have hv:bd ((xs.map λq=>q.2.1).map V.ref) ap.toList:=by
   refine we (by fin2) λi y v hy Hx=>?_;have a9:i<kvs.length:=by fin2
   obtain⟨q',h1,h2,_⟩:=hx i _ (eh a9);rw[gP,gP,h1]at hy
   cases hy;rw[h2]at Hx
   cases Hx;rfl
  refine⟨.ref _,_,I1.laid hk (aW _) (show dN X.prog X.w _ _ _ (.af _)from⟨by fin2,ap.toList,c,hv,by omega⟩),rfl,q _ _ (I1.aG.fresh (aW _)) (by fin2) λi t kv ht gM=>?_⟩;fin2
end
def ahI:Q7 (.type "list_reverseiterator") "__len__" =pure none:=by rw[QR,Qv];kernel_rfl
def ahJ:Q7 (.type "list_reverseiterator") "__length_hint__" =pure (some (.builtin "list_reverseiterator.__length_hint__")):=by rw[QR,Qv];kernel_rfl
section
variable{prog:bj}{w:a_}{A:eJ}{E:au->aR->Prop}{s:aR}
def ahK(hT:s.TypeIs (.ref r) "list_reverseiterator")(h:Q false s):wpAny (model prog w) A (aqk (.ref r)) Q E s:=by
 refine ah (QP hT ahI ?_);wp_delta;refine ah (QP hT ahJ ?_);generalize BY:("list_reverseiterator.__length_hint__" :String)=M8;wp_delta;rw[show splitId M8=some ("list_reverseiterator","__length_hint__")from by subst BY;x_go];subst BY;refine ah (u7 (T:="list_reverseiterator") (b:=true) hT (by rw[FQ];kernel_rfl) ?_);refine xn (λgU=>absurd gU (by room)) (λ_=>xn (λ_=>?_) (λgU=>absurd (by x_go) gU));exact xn (λgU=>absurd gU (by x_go)) (λ_=>az h)
def ahL{R:Kz->aR->Prop}{r d:ag}{items:Array au}(hh:A.handled=none)(cV:s.heap.IsRevIter r d ((items.size:Int)-1))(hl:s.heap.IsList d items)(hne:d≠r)(S:ag)(hSr:S≠r)(hSd:S≠d)(sI:au)(Vt:Nat)(hS:s.heap.get? S=some {cls:=.type "list",data:=.seq #[] Vt})
  (hR: ∀h' tk pW c',(∀b o,b≠S->b≠r->s.heap.get? b=some o->h'.get? b=some o)->h'.get? S=some {cls:=.type "list",dict:=none,data:=.seq pW c',slots:=#[]}->acv (λi v=>items[items.size-1-i]?=some v) pW items.size->R (.ok (.ret sI)) {s with heap:=h',toks:=tk})(hn:items.size<=bh):
  wpAny (model prog w) A.in1 (aaT (.ref S) (.ref r) sI)
   (λbM s'=>match bM with|.done f=>R (.ok f) s'|.again c'=>c'.quiet=true/\ph (model prog w) A c' R s') (λe s'=>R (.error e) s') s:=by
 have sG:S∉[r,d]:=by lk
 have W:=Walks.listRev (prog:=prog) (w:=w) (A:=A.in1) hh r d hne items;have st:(λi h=>i<=items.size/\ar3 h r d ((items.size:Int)-1-((i:Nat):Int))/\h.IsList d items) 0 s.heap:=⟨cX _,by simpa using cV,hl⟩
 have key: ∀h Ng tk,(λi h=>i<=items.size/\ar3 h r d ((items.size:Int)-1-((i:Nat):Int))/\h.IsList d items) 0 h->(∀b o,b≠S->s.heap.get? b=some o->h.get? b=some o)->h.get? S=some {cls:=.type "list",data:=.seq #[] Ng}->ph (model prog w) A (.builtin "list.extend.loop" ⟨[.ref S,.ref r,sI],[]⟩) R {s with heap:=h,toks:=tk}:=by
  intro h Ng tk bW hk ahM;refine arP W.toS hn S sG sI items.size 0 _ #[] Ng rfl (cX _) bW ahM (ar1 _) λs' pW c' hm yy mw=>?_;rw[ar0 hm];refine hR s'.heap s'.toks pW c' (λb o hb hbr e=>hm.heap b o (λqx=>?_) (hk b o hb e)) yy mw;lk
 refine ah (ab8 (T:="list_reverseiterator") cV.typeIs ?_);have h1:Qn (.ref S) (.ref r)=false:=by simp[Qn,hSr]
 have h2:(kJ "list_reverseiterator" ==kJ "list")=false:=by room
 have h3:(kJ "list_reverseiterator" ==kJ "tuple")=false:=by room
 simp only[h1,h2,h3,asj,kE,if_false];refine ah (wpAny_pyIter_revIter cV ?_);refine ah (kG (ahK cV.typeIs ?_));refine xn (λgU=>absurd gU (by room)) (λ_=>az ⟨FS aaY _,key _ Vt _ st (λb o _ e=>e) hS⟩)
def ahN(hh:A.handled=none)(cV:s.heap.IsRevIter r d ((items.size:Int)-1))(hl:s.heap.IsList d items)(hne:d≠r)(hn:items.size<=bh)
  (hQ: ∀h' tk pW c',(∀b o,b≠r->s.heap.get? b=some o->h'.get? b=some o)->h'.get? s.heap.objs.size=some {cls:=.type "list",dict:=none,data:=.seq pW c',slots:=#[]}->acv (λi v=>items[items.size-1-i]?=some v) pW items.size->Q (.ref s.heap.objs.size) {s with heap:=h',toks:=tk}):
  wpAny (model prog w) A (call (.type "list") [.ref r]) Q E s:=by
 refine callType_codes (Q₁:=λobj c7=>obj=.ref s.heap.objs.size/\c7={s with heap:=s.heap.push {cls:=.type "list",data:=.seq #[]}}) PySem.F.called_list (PySem.F.typeCall_list_1 _) PySem.F.entry_list_init
  (code_list_new _ ⟨rfl,rfl⟩) λobj c7 h₁=>?_
 obtain⟨rfl,rfl⟩:=h₁;have hS:(s.heap.push {cls:=.type "list",data:=.seq #[]}).get? s.heap.objs.size=some {cls:=.type "list",data:=.seq #[]}:=cJ _ rfl;have hr:r<s.heap.objs.size:=by obtain⟨o,ho,_⟩:=cV;exact bO ho
 have hd:d<s.heap.objs.size:=by obtain⟨o,ho,_⟩:=hl;exact bO ho
 exists⟨_,hS,rfl⟩,PySem.F.args_list_init_2 _ _;refine ah ?_;refine ah (mP hS rfl (az ?_));refine ah (QO hS rfl ?_);have ahO:=o5 (qm (λ_=>(#[]:Array au))) hS rfl;have yF: ∀b o,s.heap.get? b=some o->((s.heap.push {cls:=.type "list",data:=.seq #[]}).update s.heap.objs.size (qm (λ_=>(#[]:Array au)))).get? b=some o:=
  λb o e=>(JU _ _ (kI (bO e))).trans (bH _ e)
 refine ah (vd ?_);refine ahL (A:=A.in1) (items:=items) hh (cV.at λo e=>yF _ o e) (hl.at λo e=>yF _ o e) hne _ (kI hr) (kI hd) .none _ ahO (λh' tk pW c' hk yy mw=>?_) hn;exact⟨rfl,hQ h' tk pW c' (λb o hb e=>hk b o (d7 (bO e)) hb (yF b o e)) yy mw⟩
end
section
variable{X:Cx}
inductive ahPI(K:aP)(Q:VK)(x:V)(H1:Hp):Prop|mk:∀a xs,x=.ref a->aJ K H1 a xs->(∀l,H1 l=none->Q (.ref l) (aa H1 l (.af xs.reverse)))->ahPI K Q x H1
def ahP(K:aP)(te:TE):TE:=fun σ H Q=>te σ H (ahPI K Q)
def ahQ{e:Expr}{te:TE}{p p1 pos jD:Pos}(hc:X.jS=true)(hg:Gl X "list")(hm:X.mg "list" =none)(hgR:Gl X "reversed")(hmR:X.mg "reversed" =none)(he:PE X e te)
  (jV:autoParam (bV [e] X.ai=(false,eval e X.ai)::bV [] X.ai) zA._auto_1)(di:autoParam ((gp jD (bV [] X.ai)).any (·.1)=false) zA._auto_1)
  (gL:autoParam (bV [.Call (.Name "reversed" p1) [e] [] jD] X.ai=(false,eval (.Call (.Name "reversed" p1) [e] [] jD) X.ai)::bV [] X.ai) zA._auto_1)(cC:autoParam ((gp pos (bV [] X.ai)).any (·.1)=false) zA._auto_1):
  PE X (.Call (.Name "list" p) [.Call (.Name "reversed" p1) [e] [] jD] [] pos) (ahP X.K te):=by
 intro ae s σ H Q I h;refine nW (jv I hg hm JQ ?_);refine nV ?_ gL cC;rw[gL];refine uZ ?_;refine nW (jv I hgR hmR afV ?_);refine nV (aQ ((ak he ay jV) jD ae s σ H (λvs H1=>match vs with
  |[x]=>ahPI X.K Q x H1
  |_=>False) I h) λus s1⟨vs,H1,I1,r,q⟩=>?_) jV di
 match vs,q with
 |[x],q=>
  obtain⟨a,xs,rfl,hs,q⟩:=q;rw[bd.vQ r];obtain⟨its,rv,hl,hz⟩:=I1.list hs;have cS:=rv.length;refine call_reversed_list hl.isList ?_;refine zY ?_;have ha:a<s1.heap.objs.size:=by obtain⟨o,_,ho,_⟩:=hl;exact bO ho
  have ed:(s1.heap.push (revObj a ((its.toArray.size:Int)-1))).IsList a its.toArray:=hl.isList.at λo e=>bH _ e;have hn:its.toArray.size<=bh:=by lk
  refine ahN (s:={s1 with heap:=s1.heap.push (revObj a ((its.toArray.size:Int)-1))}) (r:=s1.heap.objs.size) (d:=a) (items:=its.toArray) (I.ok.hd hc) ⟨_,cJ _ rfl,rfl,rfl⟩ ed (d7 ha) hn λh' tk ap c hk hS mw=>?_;have hv:bd xs.reverse ap.toList:=by
   have uv:ap.toList.length=xs.length:=by
    have:=mw.1;lk
   refine we (by lk) λi y v hy Hx=>?_;have hi:i<xs.length:=by fin2
   have e1:=mw.2 i v (by lk);rw[List.getElem?_reverse hi]at hy;obtain⟨u,hu,ru⟩:=rv.get hy;lk
  have kp:=λb o e=>hk b o (d7 (bO e)) (bH _ e);have esz:(s1.heap.push (revObj a ((its.toArray.size:Int)-1))).objs.size=s1.heap.objs.size+1:=jh ..;rw[esz]at hS⊢;exact⟨.ref _,_,I1.laid (t':=tk) kp (Km _) (show dN X.prog X.w _ _ _ (.af _)from⟨by lk,ap.toList,c,hv,by omega⟩),rfl,q _ (I1.aG.fresh (Km _))⟩
end
end L2
namespace PySem
section
variable{prog:bj}{w:a_}{A:eJ}{E:au->aR->Prop}{s:aR}
abbrev Zr(h:Heap)(z TI TO:ag)(f0:au)(f:Bool):Prop:=
 h.get? z=some {cls:=.type "zip",dict:=none,data:=.fields #[f0,.bool f,.bool false,.ref TI,.ref TO],slots:=#[]}
def ahR(h:Q (s.heap.get? a) s):wpAny (model prog w) A (loadIfAlive a) Q E s:=λ_ _ _=>h
def Vu(hz:Zr s.heap z TI TO f0 f)(hf:f0=.none\/ ∃a:ag,f0=cw a)(h1:Q true s)(h2: ∀h',Zr h' z TI TO f0 true->jM z s.heap h'->Q false {s with heap:=h'}):
  wpAny (model prog w) A (JN (.ref z)) Q E s:=by
 refine ah (ji hz rfl (x:=f0) rfl ?_);rcases hf with rfl|⟨a,rfl⟩
 ·exact az h1
 ·show wpAny _ _ (loadIfAlive ((a:Int).toNat)>>=_) _ _ _;rw[jf];refine ah (ahR ?_)
  cases s.heap.get? a with
  |none=>exact az h1
  |some o=>
   simp only[Option.isNone_some,kE,if_false];refine ah (ji hz rfl (x:=.bool f) rfl ?_)
   cases f with
   |true=>
    rw[if_neg (show ¬((Kn true !=Kn true)=true)from ik)];exact az (h2 _ hz (aqH _ _))
   |false=>
    rw[if_pos (show(Kn false !=Kn true)=true from rfl)];exact ah (lB hz (by simp) λh3 e3 s3=>az (h2 h3 e3 s3))
def ahS{Q:au->aR->Prop}(D:Rb z TI TO i1 i2 l1 l2)
  (rz:Zr s.heap z TI TO f0 f)(rf:f0=.none\/ ∃a:ag,f0=cw a)(tI:pi s.heap TI (.ref i1) (.ref i2))(tO:pi s.heap TO a b)
  (h1:s.heap.IsListIter i1 l1 k1)(h2:s.heap.IsListIter i2 l2 k2)(wn:s.heap.IsList l1 xs)(B0:s.heap.IsList l2 ys)(ex:xs[k1]?=some x)(ey:ys[k2]?=some y)
  (kQ: ∀h' B_ f',Zr h' z TI TO B_ f'->(B_=.none\/ ∃a:ag,B_=cw a)->(∃a b,pi h' TO a b)->h'.IsListIter i1 l1 (k1+1)->h'.IsListIter i2 l2 (k2+1)->pi h' s.heap.objs.size x y->h'.objs.size=s.heap.objs.size+1->(∀c o,c≠z->c≠TO->c≠i1->c≠i2->s.heap.get? c=some o->h'.get? c=some o)->Q (.ref s.heap.objs.size) {s with heap:=h'}):
  wpAny (model prog w) A (Builtin.«zip.__next__» ⟨[.ref z],[]⟩) (λbM s'=> ∃v,bM=.done (.ret v)/\Q v s') E s:=by
 show wpAny _ _ (field (.ref z) 2>>=_) _ _ _;refine ah (ji rz rfl (x:=.bool false) rfl ?_);show wpAny _ _ (field (.ref z) 3>>=_) _ _ _;refine ah (ji rz rfl (x:=.ref TI) rfl ?_);refine ah (mP tI rfl ?_);show wpAny _ _ (JN (.ref z)>>=_) _ _ _;refine ah (Vu rz rf ?_ λg0 Vv lP=>?_)
 ·simp only[if_true]
  refine ah (tP ?_)
  refine ah (ji rz rfl (x:=.ref TO) rfl ?_)
  refine ah (lB rz (by simp) λfF nF ig=>?_)
  replace nF:Zr fF z TI TO .ellipsis f:=nF
  refine ah ?_
  simp only[List.zipIdx_cons,List.zipIdx_nil,z9,xo]
  refine ah (ah (xq ?_))
  show wpAny _ _ (rJ (.ref i1)>>=_) _ _ _
  refine ah (uY (h1.extBut ig.extBut D.i1z) (wn.extBut ig.extBut D.l1z) ex λgB Vw lQ=>az ?_)
  have B':=lQ.extBut _ _ D.TOi1 (ig.extBut _ _ D.TOz tO)
  refine ah (mP B' rfl ?_)
  refine ah (abu B' λgN HK jb=>?_)
  replace HK:pi gN TO x b:=HK
  refine ah (vd (az ?_))
  refine ah (ah (xq ?_))
  show wpAny _ _ (rJ (.ref i2)>>=_) _ _ _
  refine ah (uY (((h2.extBut ig.extBut D.i2z).extBut lQ.extBut D.i12.symm).extBut jb.extBut D.TOi2.symm) (((B0.extBut ig.extBut D.l2z).extBut lQ.extBut D.l2i1).extBut jb.extBut D.l2TO) ey λqR ahT mz=>az ?_)
  have Vx:=mz.extBut _ _ D.TOi2 HK
  refine ah (mP Vx rfl ?_)
  refine ah (abu Vx λfW Ca mB=>?_)
  replace Ca:pi fW TO x y:=Ca
  refine ah (vd (az (az ?_)))
  refine ah (mP Ca rfl ?_)
  refine ah (Ke ?_)
  have hsz:fW.objs.size=s.heap.objs.size:=by rw[mB.1,mz.1,jb.1,lQ.1,ig.1]
  have Vy:=mB.extBut _ _ D.TOz.symm (mz.extBut _ _ D.i2z.symm (jb.extBut _ _ D.TOz.symm (lQ.extBut _ _ D.i1z.symm nF)))
  have ahU: ∀c o,c≠z->c≠TO->c≠i1->c≠i2->s.heap.get? c=some o->fW.get? c=some o:=λc o c1 c2 c3 c4 e=>
   mB.extBut _ _ c2 (mz.extBut _ _ c4 (jb.extBut _ _ c2 (lQ.extBut _ _ c3 (ig.extBut _ _ c1 e))))
  have Vz:=((Vw.extBut jb.extBut D.TOi1.symm).extBut mz.extBut D.i12).extBut mB.extBut D.TOi1.symm
  have VA:=ahT.extBut mB.extBut D.TOi2.symm
  have BK:=bO Vy
  have atk:=bO Ca
  have atl:i1<fW.objs.size:=by obtain⟨_,e,_⟩:=Vz;exact bO e
  have atm:i2<fW.objs.size:=by obtain⟨_,e,_⟩:=VA;exact bO e
  show wpAny _ _ (Qg (.ref z) (.ref fW.objs.size)>>=_) _ _ _
  refine ah ?_
  unfold Qg
  have ahV:Zr (fW.push {cls:=.type "tuple",data:=.seq #[x,y]}) z TI TO .ellipsis f:=bH _ Vy
  refine ah (lB ahV (by simp) λyG Nh Ni=>?_)
  replace Nh:Zr yG z TI TO (cw fW.objs.size) f:=Nh
  refine lB Nh (by simp) λpZ HL Nj=>?_
  replace HL:Zr pZ z TI TO (cw fW.objs.size) false:=HL
  have up: ∀c o,c≠z->fW.get? c=some o->pZ.get? c=some o:=λc o c1 e=>Nj.extBut _ _ c1 (Ni.extBut _ _ c1 (bH _ e))
  have VB:=Nj.extBut _ _ (kI BK) (Ni.extBut _ _ (kI BK) (cJ _ rfl))
  have VC:pZ.objs.size=fW.objs.size+1:=by rw[Nj.1,Ni.1,jh]
  rw[hsz]at HL VB VC
  refine az ⟨_,rfl,?_⟩
  show Q (.ref fW.objs.size) _
  rw[hsz]
  exact kQ pZ _ _ HL (.inr ⟨_,rfl⟩) ⟨_,_,up _ _ D.TOz Ca⟩ (Vz.at λo e=>up _ o D.i1z e) (VA.at λo e=>up _ o D.i2z e) VB VC λc o c1 c2 c3 c4 e=>up c o c1 (ahU c o c1 c2 c3 c4 e)
 ·simp only[kE,if_false]
  rw[<-arf]
  simp only[z9,xo]
  refine ah (ah (ah (kG ?_)))
  show wpAny _ _ (rJ (.ref i1)>>=_) _ _ _
  refine ah (uY (h1.extBut lP.extBut D.i1z) (wn.extBut lP.extBut D.l1z) ex λg2 VD p5=>az (az ?_))
  refine ah (ah (kG ?_))
  show wpAny _ _ (rJ (.ref i2)>>=_) _ _ _
  refine ah (uY ((h2.extBut lP.extBut D.i2z).extBut p5.extBut D.i12.symm) ((B0.extBut lP.extBut D.l2z).extBut p5.extBut D.l2i1) ey λg4 h24 yH=>az (az ?_))
  refine az ?_
  refine ah (Ke (hsz:=by show 2<=bh;decide) ?_)
  have hsz:g4.objs.size=s.heap.objs.size:=by rw[yH.1,p5.1,lP.1]
  have up: ∀c o,c≠z->c≠i1->c≠i2->s.heap.get? c=some o->(g4.push {cls:=.type "tuple",data:=.seq #[x,y]}).get? c=some o:=λc o c1 c3 c4 e=>
   bH _ (yH.extBut _ _ c4 (p5.extBut _ _ c3 (lP.extBut _ _ c1 e)))
  have hz4:Zr (g4.push {cls:=.type "tuple",data:=.seq #[x,y]}) z TI TO f0 true:=bH _ (yH.extBut _ _ D.i2z.symm (p5.extBut _ _ D.i1z.symm Vv))
  have h14:(g4.push {cls:=.type "tuple",data:=.seq #[x,y]}).IsListIter i1 l1 (k1+1):=(VD.extBut yH.extBut D.i12).at λo e=>bH _ e
  have ahW:(g4.push {cls:=.type "tuple",data:=.seq #[x,y]}).IsListIter i2 l2 (k2+1):=h24.at λo e=>bH _ e
  have hT:pi (g4.push {cls:=.type "tuple",data:=.seq #[x,y]}) g4.objs.size x y:=cJ _ rfl
  refine az ⟨_,rfl,?_⟩
  rw[hsz]at hT
  show Q (.ref g4.objs.size) _
  rw[hsz]
  exact kQ _ _ _ hz4 rf ⟨a,b,up _ _ D.TOz D.TOi1 D.TOi2 tO⟩ h14 ahW hT (by rw[jh,hsz]) λc o c1 _ c3 c4 e=>up c o c1 c3 c4 e
def ahX(hh:A.handled=none)(D:Rb z TI TO i1 i2 l1 l2)
  (rz:Zr s.heap z TI TO f0 f)(rf:f0=.none\/ ∃a:ag,f0=cw a)(tI:pi s.heap TI (.ref i1) (.ref i2))(tO:pi s.heap TO a b)
  (h1:s.heap.IsListIter i1 l1 k1)(h2:s.heap.IsListIter i2 l2 k2)(wn:s.heap.IsList l1 xs)(B0:s.heap.IsList l2 ys)(BJ:xs[k1]?=none\/ys[k2]?=none)
  (hE: ∀h' e,(∀c o,c≠z->c≠TO->c≠i1->c≠i2->s.heap.get? c=some o->h'.get? c=some o)->(∃o,h'.get? e=some o/\o.cls=.type "StopIteration")->E (.ref e) {s with heap:=h'}):
  wpAny (model prog w) A (Builtin.«zip.__next__» ⟨[.ref z],[]⟩) Q E s:=by
 show wpAny _ _ (field (.ref z) 2>>=_) _ _ _;refine ah (ji rz rfl (x:=.bool false) rfl ?_);show wpAny _ _ (field (.ref z) 3>>=_) _ _ _;refine ah (ji rz rfl (x:=.ref TI) rfl ?_);refine ah (mP tI rfl ?_);show wpAny _ _ (JN (.ref z)>>=_) _ _ _;refine ah (Vu rz rf ?_ λg0 Vv lP=>?_)
 ·simp only[if_true];refine ah (tP ?_);refine ah (ji rz rfl (x:=.ref TO) rfl ?_);refine ah (lB rz (by simp) λfF nF ig=>?_);replace nF:Zr fF z TI TO .ellipsis f:=nF;refine ah ?_;simp only[List.zipIdx_cons,List.zipIdx_nil,z9,xo];refine ah (ah (xq ?_));show wpAny _ _ (rJ (.ref i1)>>=_) _ _ _
  cases ex:xs[k1]? with
  |none=>
   refine ah (JZ hh (h1.extBut ig.extBut D.i1z) (wn.extBut ig.extBut D.l1z) ex λgB e lQ he=>?_);obtain⟨oe,BL,vT⟩:=he;have Nk:=lQ _ _ D.i1z.symm nF
   have BN:e≠z:=λx=>by fin2
   refine lB Nk (by simp) λgN _ jb=>hE gN e (λc o c1 _ c3 _ x=>jb.extBut _ _ c1 (lQ _ _ c3 (ig.extBut _ _ c1 x))) ⟨oe,jb.extBut _ _ BN BL,vT⟩
  |some x=>
   have ey:ys[k2]?=none:=by lk
   refine ah (uY (h1.extBut ig.extBut D.i1z) (wn.extBut ig.extBut D.l1z) ex λgB Vw lQ=>az ?_)
   have B':=lQ.extBut _ _ D.TOi1 (ig.extBut _ _ D.TOz tO)
   refine ah (mP B' rfl ?_)
   refine ah (abu B' λgN HK jb=>?_)
   refine ah (vd (az ?_))
   refine ah (ah (xq ?_))
   show wpAny _ _ (rJ (.ref i2)>>=_) _ _ _
   refine ah (JZ hh (((h2.extBut ig.extBut D.i2z).extBut lQ.extBut D.i12.symm).extBut jb.extBut D.TOi2.symm) (((B0.extBut ig.extBut D.l2z).extBut lQ.extBut D.l2i1).extBut jb.extBut D.l2TO) ey λqR e mz he=>?_)
   obtain⟨oe,BL,vT⟩:=he
   have ahY:=mz _ _ D.i2z.symm (jb.extBut _ _ D.TOz.symm (lQ.extBut _ _ D.i1z.symm nF))
   have BN:e≠z:=λx=>by fin2
   refine lB ahY (by simp) λfW _ mB=>hE fW e (λc o c1 c2 c3 c4 x=>mB.extBut _ _ c1 (mz _ _ c4 (jb.extBut _ _ c2 (lQ.extBut _ _ c3 (ig.extBut _ _ c1 x))))) ⟨oe,mB.extBut _ _ BN BL,vT⟩
 ·simp only[kE,if_false]
  rw[<-arf]
  simp only[z9,xo]
  refine ah (ah (ah (kG ?_)))
  show wpAny _ _ (rJ (.ref i1)>>=_) _ _ _
  cases ex:xs[k1]? with
  |none=>
   exact ah (JZ hh (h1.extBut lP.extBut D.i1z) (wn.extBut lP.extBut D.l1z) ex λg2 e p5 he=>hE g2 e (λc o c1 _ c3 _ x=>p5 _ _ c3 (lP.extBut _ _ c1 x)) he)
  |some x=>
   have ey:ys[k2]?=none:=by lk
   refine ah (uY (h1.extBut lP.extBut D.i1z) (wn.extBut lP.extBut D.l1z) ex λg2 VD p5=>az (az ?_))
   refine ah (ah (kG ?_))
   show wpAny _ _ (rJ (.ref i2)>>=_) _ _ _
   refine ah (JZ hh ((h2.extBut lP.extBut D.i2z).extBut p5.extBut D.i12.symm) ((B0.extBut lP.extBut D.l2z).extBut p5.extBut D.l2i1) ey λg4 e yH he=>?_)
   exact hE g4 e (λc o c1 _ c3 c4 x=>yH _ _ c4 (p5.extBut _ _ c3 (lP.extBut _ _ c1 x))) he
end
end PySem
namespace L2
open PySem PySem.Spec PyProof.Rows
def ahZ{P:bj}{w:a_}{K:aP}{x:Str}{fE:Pos}{a b z TI TO i1 i2:ag}(D:Rb z TI TO i1 i2 a b):
  md P w K (.Name x fE) (sD K a b) [z,TI,TO,i1,i2] z (λi h=>(∃f0 f,Zr h z TI TO f0 f/\(f0=.none\/ ∃a:ag,f0=cw a))/\pi h TI (.ref i1) (.ref i2)/\(∃x y,pi h TO x y)/\h.IsListIter i1 a i/\h.IsListIter i2 b i) where
 mem:=by simp
 obj:=λi h st c hc=>by
  obtain⟨⟨f0,f,hz,_⟩,dh,⟨x,y,dC⟩,⟨o1,e1,_,d1⟩,⟨o2,e2,_,d2⟩⟩:=st;have e':c=z\/c=TI\/c=TO\/c=i1\/c=i2:=by simpa using hc
  rcases e' with q|q|q|q|q
  ·rw[q];exact⟨_,hz,λv q=>nomatch q⟩
  ·rw[q];exact⟨_,dh,λv q=>nomatch q⟩
  ·rw[q];exact⟨_,dC,λv q=>nomatch q⟩
  ·lk
  ·lk
 keep:=λi h h' st k=>by
  obtain⟨⟨f0,f,hz,hf⟩,dh,⟨x,y,dC⟩,h1,h2⟩:=st;exact⟨⟨f0,f,k z (by simp) _ hz,hf⟩,k TI (by simp) _ dh,⟨x,y,k TO (by simp) _ dC⟩,h1.at λo q=>k i1 (by simp) o q,h2.at λo q=>k i2 (by simp) o q⟩
 item:=by
  intro X hP hw hK hc i ae s σ H E I hf st hg;subst hP hw hK;obtain⟨⟨f0,f,hz,wo⟩,dh,⟨x0,y0,dC⟩,h1,h2⟩:=st;obtain⟨xs,ys,x,y,i9,jU,hx,hy⟩:=hg;obtain⟨its,rv,p,_⟩:=I.list i9;obtain⟨kc,oA,p2,_⟩:=I.list jU;obtain⟨u,hu,ru⟩:=rv.get hx;obtain⟨u2,BE,BF⟩:=oA.get hy;have hT:s.TypeIs (.ref z) "zip" :=⟨_,hz,rfl⟩
  refine ah (nZ (mL (name:=kH "__next__") hT xl (jg xl hT QK (ahS D hz wo dh dC h1 h2 p.isList p2.isList (x:=u) (y:=u2) (by simpa using hu) (by simpa using BE) λh' B_ f' z' ah0 BH vo BI hT' hsz hk=>az ?_) (QC _))))
  have new:dN X.prog X.w (aa H s.heap.objs.size (.aE [x,y])) h' s.heap.objs.size (.aE [x,y]):=
   ⟨by show 2<=bh;decide,[u,u2],.cons ru (.cons BF .nil),⟨_,hT',rfl,_,rfl⟩⟩
  have I1:aq X ae σ (aa H s.heap.objs.size (.aE [x,y])) {s with heap:=h'}:=
   I.yp (t':=s.toks) (ch:=[z,TI,TO,i1,i2]) (λc o hb q=>hk c o (λq'=>hb (by simp[q'])) (λq'=>hb (by simp[q'])) (λq'=>hb (by simp[q'])) (λq'=>hb (by simp[q'])) q) hf (aW _) new
  refine⟨_,rfl,az ?_⟩;refine⟨.ref s.heap.objs.size,_,I1,rfl,⟨_,x,y,rfl,I.aG.fresh (aW _),rfl,λl hl=>by rw[I.sj hl i9];exact hx,λl hl=>by rw[I.sj hl jU];exact hy⟩,⟨⟨B_,f',z',ah0⟩,hk _ _ D.TIz D.TITO D.TIi1 D.TIi2 dh,BH,vo,BI⟩,λc kh=>?_⟩;have a9:c<s.heap.objs.size:=by
   have e':c=z\/c=TI\/c=TO\/c=i1\/c=i2:=by simpa using kh
   rcases e' with q|q|q|q|q
   ·rw[q];exact bO hz
   ·rw[q];exact bO dh
   ·rw[q];exact bO dC
   ·rw[q];obtain⟨_,e1,_⟩:=h1;exact bO e1
   ·rw[q];obtain⟨_,e2,_⟩:=h2;exact bO e2
  rw[aw (d7 a9)];exact(hf c kh).1
 done:=by
  intro X hP hw hK hc i ae s σ H E I hf st hg;subst hP hw hK;obtain⟨⟨f0,f,hz,wo⟩,dh,⟨x0,y0,dC⟩,h1,h2⟩:=st;obtain⟨xs,ys,i9,jU,BJ⟩:=hg;obtain⟨its,rv,p,_⟩:=I.list i9;obtain⟨kc,oA,p2,_⟩:=I.list jU;have l1:=rv.length;have l2:=oA.length;have he:its.toArray[i]?=none\/kc.toArray[i]?=none:=by
   lk
  have hT:s.TypeIs (.ref z) "zip" :=⟨_,hz,rfl⟩
  unfold j5;refine ah (nZ (mL (name:=kH "__next__") hT xl (jg xl hT QK (ahX (I.ok.hd hc) D hz wo dh dC h1 h2 p.isList p2.isList he λh' e hk he=>?_) (QC _))))
  obtain⟨o,ho,hco⟩:=he;refine ah (u7 (T:="StopIteration") (b:=true) ⟨o,ho,hco⟩ Ae ?_);exact az ⟨rfl,I.Mx (t':=s.toks) (ch:=[z,TI,TO,i1,i2]) (λc o hb q=>hk c o (λq'=>hb (by simp[q'])) (λq'=>hb (by simp[q'])) (λq'=>hb (by simp[q'])) (λq'=>hb (by simp[q'])) q) hf⟩
 self:=λA i s Q E st h=>by
  obtain⟨⟨f0,f,hz,wo⟩,_⟩:=st;have hT:s.TypeIs (.ref z) "zip" :=⟨_,hz,rfl⟩
  refine z8 hT asr (jg asr hT F.entry_zip_iter ?_ (F.args_zip_iter_1 _));show wpAny _ _ (ret (.ref z)) _ _ s;exact az ⟨_,rfl,"zip",_,hT,F.slot_zip_next.lookup,h⟩
def ah1{X:Cx}{e e2:Expr}{ta:TA}{p pos fE:Pos}{x:Str}(hg:Gl X "zip")(hm:X.mg "zip" =none)(ha:PA X [e,e2] ta)
  (hs:autoParam (bV [e,e2] X.ai=(false,eval e X.ai)::bV [e2] X.ai) zA._auto_1)(dH:autoParam ((gp pos (bV [e2] X.ai)).any (·.1)=false) zA._auto_1):
  PI X (.Name x fE) (.Call (.Name "zip" p) [e,e2] [] pos) (UE X.K ta):=by
 intro ae s σ H R I h;refine Call_ (jv I hg hm ME (nV (aQ (ha pos ae s σ H _ I h) λus s1⟨vs,H1,I1,r1,q1⟩=>?_) hs dH));obtain⟨a,b,xs,ys,ex,i9,jU,q⟩:=q1;subst ex
 cases r1 with
 |cons r rr=>
  cases rr with
  |cons r' rr=>
   cases rr
   cases r
   cases r';obtain⟨its,rv,p1,_⟩:=I1.list i9;obtain⟨kc,oA,p2,_⟩:=I1.list jU;refine call_zip_2 p1.isList p2.isList λh' hz dh dC h1 h2 hsz hk=>Kb hz ?_;refine⟨s1.heap.objs.size+4,[s1.heap.objs.size+4,s1.heap.objs.size+2,s1.heap.objs.size+3,s1.heap.objs.size,s1.heap.objs.size+1],_,_,H1,rfl,I1.dX (t':=s1.toks) hk,ahZ (aqX s1.heap.objs.size a b p1.lt p2.lt),⟨⟨.none,false,hz,.inl rfl⟩,dh,⟨_,_,dC⟩,h1,h2⟩,λc kh=>?_,q⟩;have dJ:s1.heap.objs.size<=c:=by
    fin2
   exact I1.sn dJ (I1.aG.fresh dJ)
def ah2{K:aP}{g:TG}{tb:TS}{D:sg}(hy:ys.length=xs.length)(Pv:Nat->St->Hp->Prop)(h0:Pv 0 σ H)(hl: ∀i σ H,i<=xs.length->Pv i σ H->aJ K H a xs/\aJ K H b ys)
  (hs: ∀i x y T σ H,xs[i]?=some x->ys[i]?=some y->Pv i σ H->H T=none->g (.ref T) σ (aa H T (.aE [x,y])) fun be H2=>tb {D with nx:=Pv (i+1),ct:=Pv (i+1),bk:=D.nx} be H2)(hd: ∀σ H,Pv xs.length σ H->D.nx σ H):
  aeGI g tb D σ (sD K a b) H:=by
 exists λi m σ H=>m=xs.length-i/\i<=xs.length/\Pv i σ H,⟨xs.length,by simp,cX _,h0⟩;rintro i m σ H ⟨rfl,hi,p⟩;obtain⟨q1,q2⟩:=hl i σ H hi p;by_cases a9:i<xs.length
 ·refine .inr ⟨⟨xs,ys,xs[i],ys[i],q1,q2,by simp[a9],by simp⟩,Pv (i+1),fun aL H' p'=>⟨xs.length-(i+1),by omega,rfl,a9,p'⟩,λv H' y=>?_⟩;obtain⟨T,x,y,rfl,hT,rfl,e1,e2⟩:=y
  exact hs i x y T σ H (e1 xs q1) (e2 ys q2) p hT
 ·have e:i=xs.length:=by lia
  subst e;exact .inl ⟨⟨xs,ys,q1,q2,.inl (aW _)⟩,hd σ H p⟩
end L2
namespace PySem
section
variable{prog:bj}{w:a_}{A:eJ}{E:au->aR->Prop}{s:aR}
def ah3(gu:s.heap.IsItemsView v d)(gd:s.heap.get? d=some o)(ge:o.data=.dict es ep)(gs:es.size=n)
  (kQ:Q (.ref s.heap.objs.size) {s with heap:=s.heap.push {cls:=.type "dict_itemiterator",data:=.fields #[.none,.bool false,.ref d,.int 0 0,.int n 0,.int ep 0,.none,.none]}}):
  wpAny (model prog w) A (qt (.ref v)) Q E s:=by
 obtain⟨ov,gv,MP,gx⟩:=id gu;refine z8 gu.typeIs ara (jg ara gu.typeIs F.entry_dict_items_iter ?_ (F.args_dict_items_iter_1 _));refine ah (az ?_);refine ah ?_;refine ah (ji gv gx (x:=.ref d) rfl (az ?_));refine ah ?_;refine ah (rN gd ge ?_);refine ah (u_ gd ge ?_);have gw:xa "dict_itemiterator" =true:=by room
 simp only[gw,if_true];refine j4 (az ⟨_,rfl,"dict_itemiterator",_,⟨_,cJ _ rfl,rfl⟩,F.slot_dict_itemiterator_next.lookup,?_⟩)
  (by simp only[sizeOk,aqg,FH,dS,nX,abH,Kq];lia)
 simpa[cw,gs,aqg]using kQ
def ah4(gi:xu s.heap it d i n ep ok ov)
  (gd:s.heap.get? d=some od)(ge:od.data=.dict es ep)(gs:es.size=n)(hx:es[i]?=some en)
  (kQ: ∀h',ab7 h' it d (i+1) n ep en.key en.val s.heap.objs.size->h'.get? s.heap.objs.size=some {cls:=.type "tuple",data:=.seq #[en.key,en.val]}->h'.objs.size=s.heap.objs.size+1->(∀b o,b≠it->s.heap.get? b=some o->h'.get? b=some o)->Q (some (.ref s.heap.objs.size)) {s with heap:=h'}):
  wpAny (model prog w) A (j5 (.ref it)) Q E s:=by
 obtain⟨g0,g,dr,tk,os⟩:=s;have gT:QN ⟨g0,g,dr,tk,os⟩ (.ref it) "dict_itemiterator" :=⟨_,gi,rfl⟩
 unfold j5;refine ah (nZ (mL (name:=kH "__next__") gT Qj (jg Qj gT aqy ?_ (aqu _))))
 refine ah (az ?_);refine ah ?_;refine ah ?_;first|refine ah (Qi gT (az ?_))|refine ah (wpAny_typeNameOf_itemiter gT (az ?_))
 refine ah (tH gi rfl ?_)
 have gw:xa "dict_itemiterator" =true:=by room
 simp only[gw,if_true]
 show wpAny _ _ (if(dA d==im)=true then _ else _) _ _ _
 rw[if_neg (show ¬((dA d==im)=true)from ik)]
 refine ah (az ?_)
 refine ah (rN gd ge ?_)
 rw[if_neg (by rw[gs];simp)]
 refine ah (az ?_)
 refine ah (u_ gd ge ?_)
 rw[if_neg (by simp)]
 refine az ?_
 obtain⟨sB,qK⟩:=aaZ.mp hx
 simp only[show ¬((i:Int)<0)from by lia,if_false,jf,qj sB]
 refine ah ?_
 first|refine ah (Qi gT (az ?_))|refine ah (wpAny_typeNameOf_itemiter gT (az ?_))
 refine ah (abg gT ?_)
 show wpAny _ _ (FV (.ref it) 3 (cw ((i:Int)+1))>>=_) _ _ ⟨g0,g,dr,tk,os⟩
 refine ah (lB gi (by simp) λfF HM ig=>?_)
 replace ig:jM it g0 fF:=ig
 replace HM:xu fF it d (i+1) n ep ok ov:=by
  assumption
 have Nl:QN ⟨fF,g,dr,tk,os⟩ (.ref it) "dict_itemiterator" :=⟨_,HM,rfl⟩
 refine ah (kG ?_)
 refine ah (abg Nl ?_)
 refine ah (abg Nl ?_)
 show wpAny _ _ (aqh (.ref it) 6 es[i].key es[i].val) _ _ ⟨fF,g,dr,tk,os⟩
 unfold aqh
 refine ah (Ke ?_)
 have Cb:xu (fF.push {cls:=.type "tuple",data:=.seq #[es[i].key,es[i].val]}) it d (i+1) n ep ok ov:=bH _ HM
 generalize HN:fF.push {cls:=.type "tuple",data:=.seq #[es[i].key,es[i].val]}=gB at Cb
 have nF:=ig.1
 have gl:=bO gi
 have ah5:gB.get? g0.objs.size=some {cls:=.type "tuple",data:=.seq #[es[i].key,es[i].val]}:=by rw[<-HN,<-nF];exact cJ _ rfl
 have Nk:gB.objs.size=g0.objs.size+1:=by rw[<-HN,jh,nF]
 have ah6: ∀b o,b≠it->g0.get? b=some o->gB.get? b=some o:=λb o hb e=>by rw[<-HN];exact bH _ (ig.extBut b o hb e)
 show wpAny _ _ (aqf (.ref it)>>=_) _ _ ⟨gB,g,dr,tk,os⟩
 rw[nF]
 clear HN HM ig Nl nF fF
 refine ah ?_
 unfold aqf
 refine ah (ji Cb rfl (x:=.none) rfl (az ?_))
 simp only[if_true]
 refine ah (ji Cb rfl (x:=ok) rfl ?_)
 refine ah (ji Cb rfl (x:=ov) rfl ?_)
 refine ah (lB Cb (by simp) λgN Nm jb=>?_)
 replace jb:jM it gB gN:=jb
 replace Nm:xu gN it d (i+1) n ep es[i].key ov:=Nm
 refine ah (lB Nm (by simp) λqR Nn mz=>?_)
 replace mz:jM it gN qR:=mz
 replace Nn:xu qR it d (i+1) n ep es[i].key es[i].val:=Nn
 refine ah (lB Nn (by simp) λfW No mB=>?_)
 replace mB:jM it qR fW:=mB
 replace No:ab7 fW it d (i+1) n ep es[i].key es[i].val g0.objs.size:=No
 refine ah (lB No (by simp) λsJ Np Cc=>?_)
 replace Cc:jM it fW sJ:=Cc
 replace Np:ab7 sJ it d (i+1) n ep es[i].key es[i].val g0.objs.size:=Np
 refine ah (vd (az (az ⟨_,rfl,az (kQ sJ (qK▸Np) ?_ ?_ ?_)⟩)))
 ·rw[<-qK];exact Cc.extBut _ _ (kI gl) (mB.extBut _ _ (kI gl) (mz.extBut _ _ (kI gl) (jb.extBut _ _ (kI gl) ah5)))
 ·show sJ.objs.size=g0.objs.size+1
  rw[Cc.1,mB.1,mz.1,jb.1,Nk]
 ·exact λb o hb e=>Cc.extBut b o hb (mB.extBut b o hb (mz.extBut b o hb (jb.extBut b o hb (ah6 b o hb e))))
def ah7(hh:A.handled=none)(gi:xu s.heap it d i n ep ok ov)
  (gd:s.heap.get? d=some od)(ge:od.data=.dict es ep)(gs:es.size=n)(hx:n<=i)
  (kQ: ∀h',Kj it s.heap h'->Q none {s with heap:=h'}):wpAny (model prog w) A (j5 (.ref it)) Q E s:=by
 have gT:s.TypeIs (.ref it) "dict_itemiterator" :=⟨_,gi,rfl⟩
 refine ah (nZ (mL (name:=kH "__next__") gT Qj (jg Qj gT aqy ?_ (aqu _))))
 refine ah (az ?_);refine ah ?_;refine ah ?_;first|refine ah (Qi gT (az ?_))|refine ah (wpAny_typeNameOf_itemiter gT (az ?_))
 refine ah (tH gi rfl ?_);have gw:xa "dict_itemiterator" =true:=by room
 simp only[gw,if_true];show wpAny _ _ (if(dA d==im)=true then _ else _) _ _ s;rw[if_neg (show ¬((dA d==im)=true)from ik)];refine ah (az ?_);refine ah (rN gd ge ?_);rw[if_neg (by rw[gs];simp)];refine ah (az ?_);refine ah (u_ gd ge ?_);rw[if_neg (by simp)];refine az ?_;have mq:es.size<=i:=by rw[gs];exact hx
 simp only[by omega,if_false,jf,JT mq];refine ah ?_;first|refine ah (Qi gT (az ?_))|refine ah (wpAny_typeNameOf_itemiter gT (az ?_))
 show wpAny _ _ (FV (.ref it) 2 .none>>=_) _ _ s;refine ah (rP gi rfl (by simp) ?_);show wpAny _ _ (As (.type "StopIteration") []>>=_) _ _ _;refine ah ?_;simp only[As,Kw];refine ah (j4 ?_ (by size_fits));refine ah (m:=tJ _ _) (FT (a:=im) (by first|rfl|(simp only[tJ];rfl)) ?_);refine j4 ?_ (by size_fits);simp only[Kv];refine ah (Kh ?_);rw[hh];refine ah (az (Kp ?_));refine ah (u7 (T:="StopIteration") (b:=true) ⟨_,cJ _ rfl,rfl⟩ Ae ?_);exact az (kQ _ (((lz ..).extBut.push _).push _))
end
end PySem
namespace L2
open PySem PySem.Spec PyProof.Rows
def Cd(d:ag)(o:Obj)(kvs:List (List bR×V)):It:=
 ⟨λi H=>H d=some (.bu o (.dT kvs))/\i<kvs.length,λi H x H'=> ∃T q k v,kvs[i]?=some (k,v)/\x=.ref T/\H T=none/\H q=some (.aE (k.map kV))/\H'=aa H T (.aE [.ref q,v]),λi H=>H d=some (.bu o (.dT kvs))/\kvs.length<=i⟩
def aq.Nq{σ:St}(I:aq X ae σ H s)(h:H d=some (.bu o (.dT kvs))):
  (d==i0)=false/\s.heap.get? d=some o/\o.ExactDict/\ ∃(es:Array n9)(ep:Nat),o.data=.dict es ep/\es.size=kvs.length/\∀(i:Nat) k v,kvs[i]?=some (k,v)-> ∃(en:n9)(q:ag),es[i]?=some en/\en.key=.ref q/\H q=some (.aE (k.map kV))/\bJ v en.val:=by
 obtain⟨hd,z,hs,xs,pr,o',es,ep,ho,hx,dj,he,_⟩:=I.aG d _ h;rw[hd]at ho
 cases ho;refine⟨hs,hd,hx,es,ep,dj,?_,λi k v e=>?_⟩
 ·have l1:=abQ he;have l2:=mQ pr;lia
 ·obtain⟨b,hb,e1,e2,e3⟩:=Hi pr e;have q:=acm he i;rw[hb]at q;exact⟨_,b.2.1,q,rfl,e2,e3⟩
def ah8{P:bj}{w:a_}{K:aP}{d:ag}{o:Obj}{es:Array n9}{ep:Nat}{kvs:List (List bR×V)}{elts:List Expr}{kk:Nat}{fE:Pos}(it:ag)(ie:o.data=.dict es ep):
  md P w K (.Tuple elts kk fE) (Cd d o kvs) [it] it (λi h=> ∃ok ov,xu h it d i kvs.length ep ok ov) where
 mem:=by simp
 obj:=λi h st b hb=>by
  have e:b=it:=by simpa using hb
  subst e;obtain⟨ok,ov,e⟩:=st;exact⟨_,e,λv z=>nomatch z⟩
 keep:=λi h h' st k=>let⟨ok,ov,e⟩:=st;⟨ok,ov,k it (by simp) _ e⟩;item:=by
  intro X hP hw hK hc i ae s σ H E I hf st hg;subst hP hw hK;obtain⟨hd,hi⟩:=hg;obtain⟨hs,iQ,hx,gX,mY,dj,hsz,vY⟩:=I.Nq hd;obtain⟨rfl,rfl⟩:=uj ie dj;obtain⟨⟨k,v⟩,gM⟩: ∃p,kvs[i]?=some p:=⟨kvs[i],eh hi⟩
  obtain⟨en,q,qK,lL,hq,rv⟩:=vY i k v gM;obtain⟨ok,ov,he⟩:=st;have a9:=bO he;refine ah4 he iQ dj hsz qK λh' ho hT hz hk=>⟨_,rfl,aqN (s:={s with heap:=h'}) ho λlM uk sb=>?_⟩
  have kg:=(sb.2 _ (kI a9)).trans hT;have new:dN X.prog X.w (aa H s.heap.objs.size (.aE [.ref q,v])) lM s.heap.objs.size (.aE [.ref q,v]):=
   ⟨by show 2<=bh;decide,[en.key,en.val],.cons lL (.cons rv .nil),⟨_,kg,rfl,_,rfl⟩⟩
  have I1:aq X ae σ (aa H s.heap.objs.size (.aE [.ref q,v])) {s with heap:=lM}:=
   I.yp (t':=s.toks) (ch:=[it]) (λb ob hb e=>(sb.2 b (by simpa using hb)).trans (hk b ob (by simpa using hb) e)) hf (aW _) new
  refine⟨.ref s.heap.objs.size,_,I1,rfl,⟨_,q,k,v,gM,rfl,I.aG.fresh (aW _),hq,rfl⟩,⟨_,_,uk⟩,λb hb=>?_⟩;have e:b=it:=by simpa using hb
  rw[e,aw (d7 a9)];exact(hf it (by simp)).1
 done:=by
  intro X hP hw hK hc i ae s σ H E I hf st hg;subst hP hw hK;obtain⟨hd,hi⟩:=hg;obtain⟨f0,f1,f2,f3,f4,f5⟩:=hf it (by simp);obtain⟨hs,iQ,hx,gX,mY,dj,hsz,vY⟩:=I.Nq hd;obtain⟨rfl,rfl⟩:=uj ie dj;obtain⟨ok,ov,he⟩:=st;exact ah7 (I.ok.hd hc) he iQ dj hsz hi λh' eb=>⟨rfl,I.fg (t':=s.toks) (λb ob hb e=>eb b ob hb e) f0 f1 f3 f4 f5⟩
 self:=λA i s Q E st h=>let⟨_,_,e⟩:=st;aq7 e h
inductive ah9I(R:It->Hp->Prop)(x:V)(H1:Hp):Prop|mk:∀d o kvs,x=.ref d->H1 d=some (.bu o (.dT kvs))->R (Cd d o kvs) H1->ah9I R x H1
def ah9(td:TE):TI:=fun σ H R=>td σ H (ah9I R)
section
variable{X:Cx}{e:Expr}{td:TE}{fT fU:Pos}
def ah_{prog:bj}{w:a_}(d:ag)(hd:(d==i0)=false):
  Ri prog w (Builtin.«dict.items» ⟨[.ref d],[]⟩) (λ_ R s=>s.TypeIs (.ref d) "dict" /\R (.ok (.ret (.ref s.heap.objs.size))) {s with heap:=s.heap.push {cls:=.type "dict_items",data:=.fields #[.ref d]}}):=
 .of_wp λA R s⟨hT,h⟩=>by
  refine ah ?first
  case first=>
   refine ah (Qu hT ?_);refine az ?_;unfold Qp;rw[if_neg (by lk)];exact ah (az (ah (j4 (az ⟨_,rfl,h⟩))))
def aia{elts:List Expr}{kk:Nat}{fE:Pos}(he:PE X e td)(vP:autoParam (xr e "items" X.ai (eval e X.ai)=eval e X.ai) zA._auto_1)(sy:autoParam ((fT.endLine==fU.line)=true) zA._auto_1):
  PI X (.Tuple elts kk fE) (.Call (.Attribute e "items" fT) [] [] fU) (ah9 td):=by
 intro ae s σ H R I h;refine J7 (T:="dict") (id:="dict.items") vP rfl sy JX QB ar4 (aQ (he ae s σ H _ I h) λu s1⟨x,H1,I1,rx,d,o,kvs,ex,hd,q⟩=>?_);subst ex;obtain rfl:u=dA d:=rx;obtain⟨hs,iQ,hx,es,ep,dj,hsz,vY⟩:=I1.Nq hd;have hT:s1.TypeIs (.ref d) "dict" :=⟨o,iQ,hx.1⟩
 refine⟨hT,λb z=>by cases z;exact⟨o,iQ,hx.2.1⟩,?_⟩;have I2:aq X ae σ H1 {s1 with heap:=s1.heap.push {cls:=.type "dict_items",data:=.fields #[.ref d]}}:=I1.dX (t':=s1.toks) λb ob q=>bH _ q;have bM:wpAny (model X.prog X.w) X.A (qt (.ref s1.heap.objs.size)) (Be X ae σ (.Tuple elts kk fE) R) X.xe {s1 with heap:=s1.heap.push {cls:=.type "dict_items",data:=.fields #[.ref d]}}:=
  ah3 (d:=d) ⟨_,cJ _ rfl,rfl,rfl⟩ (bH _ iQ) dj hsz (BA (tk:=s1.toks) I2 _ (ah8 _ dj) ⟨.none,.none,cJ _ rfl⟩ q)
 exact abZ QB arR rfl (abh ⟨rfl,hT,arJ _,_,ah_ d hs,hT,bM⟩)
end
def aib{g:TG}{tt:TT}{te:TE}{D:ag}{Qd:Hp->Prop}(Pv:Nat->Hp->Prop)(h0:Pv 0 (aa H1 D (.af [])))(hl: ∀i H,i<=kvs.length->Pv i H->H d=some (.bu o (.dT kvs)))
  (hs: ∀i k v T q H,kvs[i]?=some (k,v)->Pv i H->H T=none->H q=some (.aE (k.map kV))->LcS g tt te vs σ D (Pv (i+1)) (.ref T) (aa H T (.aE [.ref q,v])))(hd: ∀H,Pv kvs.length H->Qd H):
  MgI g tt te vs σ Qd (Cd d o kvs) D H1:=by
 exists λi m H=>m=kvs.length-i/\i<=kvs.length/\Pv i H,⟨kvs.length,by simp,cX _,h0⟩;rintro i m H ⟨rfl,hi,p⟩;have q:=hl i H hi p;by_cases a9:i<kvs.length
 ·refine .inr ⟨⟨q,a9⟩,Pv (i+1),λH' p'=>⟨kvs.length-(i+1),by omega,rfl,a9,p'⟩,λv H' y=>?_⟩;obtain⟨T,q',k,v',e,rfl,hT,hq,rfl⟩:=y
  exact hs i k v' T q' H e p hT hq
 ·have e:i=kvs.length:=by lia
  subst e;exact .inl ⟨⟨q,aW _⟩,hd H p⟩
end L2
namespace k6
open PySem PyProof.Rows
def aic:isSubtype (.type "tuple") (.type "set")=pure false:=by rw[FQ];kernel_rfl
def aid:isSubtype (.type "tuple") (.type "frozenset")=pure false:=by rw[FQ];kernel_rfl
section
variable{prog:bj}{w:a_}{A:eJ}{E:au->aR->Prop}{s:aR}
def aie(hh:A.handled=none)(hl:IsTup s.heap l items)(hi:FZ items.toList ns)(hb:items.size+1<mS)
  (h: ∀(h':Heap)(tk:Nat)(L:List Int),fV prog w h' s.heap.objs.size (my w) L->qP (λi=>ns.getD i 0) items.size L->(∀b o,b<s.heap.objs.size->s.heap.get? b=some o->h'.get? b=some o)->Q (.ref s.heap.objs.size) {s with heap:=h',toks:=tk}):
  wpAny (model prog w) A (call (.type "set") [.ref l]) Q E s:=by
 obtain⟨c,tl,ahg⟩:=F.called_set.mro;have made:=F.called_set.made;have ahh:=F.called_set.sub;apply Q6;apply abS;show wpAny _ _ (callAny (.type "set") _) _ _ _;refine az ⟨ari _ (by x_go),?_⟩;apply Ab ar5;rw[aq1 (arG "set" [.ref l] []) rfl];have t1:=F.called_set.notType;have t2:=F.called_set.canCreate;have t3:=asd (.ref l);repeat (any_goals(first|assumption|wp_step))
 refine vb (U9 (.ref l) (E:=E) (Q:=λv s1=>v=.ref s.heap.objs.size/\s1={s with heap:=s.heap.push (jB w)}) ⟨rfl,rfl⟩) λr s1 x=>?_
 cases r with
 |error e=>exact x
 |ok f=>
  cases f with
  |ret v=>
   obtain⟨rfl,rfl⟩:=x;have BV:(s.heap.push (jB w)).get? s.heap.objs.size=some (jB w):=cJ _ rfl
   have ty:QN {s with heap:=s.heap.push (jB w)} (.ref s.heap.objs.size) "set" :=⟨_,BV,rfl⟩
   have i1:=F.called_set.init.lookup
   have i2:=F.called_set.init.bind (.ref s.heap.objs.size)
   repeat (any_goals(first|assumption|wp_step))
   refine vb (arQ (R:=wants (λv s2=>v=.none/\ ∃(h':Heap)(tk:Nat)(L:List Int),s2={s with heap:=h',toks:=tk}/\fV prog w h' s.heap.objs.size (my w) L/\qP (λi=>ns.getD i 0) items.size L/\∀b o,b<s.heap.objs.size->s.heap.get? b=some o->h'.get? b=some o) E) F.called_set.init.plain asf (asF ty ?_)) λr2 s2 y=>?_
   ·obtain⟨ol,sH,gg,nl,qQ⟩:=hl
    obtain⟨oc,od,oda,pQ⟩:=ol
    simp only at gg qQ
    subst gg
    subst qQ
    have M0:(s.heap.push (jB w)).get? l=some {cls:=.type "tuple",dict:=od,data:=.seq items nl,slots:=pQ}:=bH _ sH
    have u1:=aic
    have u2:=aid
    have u3:(kJ "tuple" ==kJ "dict")=false:=by room
    have BW:IsTup (s.heap.push (jB w)) l items:=⟨_,M0,rfl,nl,rfl⟩
    unfold Builtin.«set.__init__» noKeywords aqi
    generalize yE:qt=PI
    wp_walk
    subst yE
    refine ar9 BW ?_
    apply ah
    apply abY
    have ll:l<s.heap.objs.size:=bO sH
    have yD:(s.heap.push (jB w)).objs.size=s.heap.objs.size+1:=jh ..
    have hv: ∀(i:Nat)(v:au),items[i]?=some v-> ∃t,v=.int ((λi=>ns.getD i 0) i) t:=λi v e=>ary hi i v (by lk)
    refine MZ (led:=my w) (Walks.tuple (by simp[hh]) _ l (by fin2) items).toS s.heap.objs.size (by fin2) (λi=>ns.getD i 0) hv hb (items.size-0) 0 _ [] rfl (cX _) ⟨⟨_,cJ _ rfl,rfl,rfl⟩,BW.push _⟩
     (fV.fresh _ (jB w) _ (bH _ BV)) ⟨cX _,λx=>by simp⟩ λs' L mv S' C'=>?_
    obtain⟨h',g',d',M3,Bl⟩:=s'
    obtain rfl:g'=s.gens:=mv.gens
    obtain rfl:d'=s.drawn:=mv.drawn
    obtain rfl:Bl=s.os:=mv.os
    show wpAny _ _ _ _ _ _
    apply az
    show wpAny _ _ (ret im) _ _ _
    refine az ⟨rfl,h',M3,L,rfl,S',C',λb o lb e=>?_⟩
    refine mv.heap b o (λq=>?_) (bH _ (bH _ e))
    fin2
   ·cases r2 with
    |error e=>exact y
    |ok f2=>
     cases f2 with
     |ret v2=>
      obtain⟨rfl,h',tk,L,rfl,S',C',kp⟩:=y
      repeat (any_goals(first|assumption|wp_step))
      exact h _ _ L S' C' kp
     |_=>exact y.elim
  |_=>exact x.elim
end
end k6
namespace L2
open PySem PySem.Spec PyProof.Rows
section
variable{X:Cx}{ae:List (ag×Obj)}{σ:St}{H:Hp}{s:aR}
inductive aifI(K:aP)(Q:VK)(x:V)(H1:Hp):Prop|mk:∀(a:ag)(ns:List Int),x=.ref a->c8 K H1 a (ns.map V.int)->ns.length+1<mS->(∀(cK:List Int) p,cK.Nodup->cK.Pairwise (·<= ·)->(∀x,x∈cK↔x∈ns)->H1 p=none->Q (.ref p) (aa H1 p (.af (cK.map V.int))))->aifI K Q x H1
def aif(K:aP)(te:TE):TE:=fun σ H Q=>te σ H (aifI K Q)
def aig{e:Expr}{te:TE}{p p1 pos jD:Pos}(hc:X.jS=true)(hg:Gl X "sorted")(hm:X.mg "sorted" =none)(M9:Gl X "set")(M_:X.mg "set" =none)(he:PE X e te)
  (jV:autoParam (bV [e] X.ai=(false,eval e X.ai)::bV [] X.ai) zA._auto_1)(di:autoParam ((gp jD (bV [] X.ai)).any (·.1)=false) zA._auto_1)
  (gL:autoParam (bV [.Call (.Name "set" p1) [e] [] jD] X.ai=(false,eval (.Call (.Name "set" p1) [e] [] jD) X.ai)::bV [] X.ai) zA._auto_1)(cC:autoParam ((gp pos (bV [] X.ai)).any (·.1)=false) zA._auto_1):
  PE X (.Call (.Name "sorted" p) [.Call (.Name "set" p1) [e] [] jD] [] pos) (aif X.K te):=by
 intro ae s σ H Q I h;refine nW (jv I hg hm Q4 ?_);refine aaS ?_ gL cC;rw[gL];show wpAny _ _ (acr ((false,eval (.Call (.Name "set" p1) [e] [] jD) X.ai)::gp pos (bV [] X.ai))) _ _ s;refine uZ ?_;refine nW (jv I M9 M_ aqq ?_);refine nV (aQ ((ak he ay jV) jD ae s σ H (λvs H1=>match vs with
  |[x]=>aifI X.K Q x H1
  |_=>False) I h) λus s1⟨vs,H1,I1,r,q⟩=>?_) jV di
 match vs,q with
 |[x],q=>
  obtain⟨a,ns,rfl,hs,hb,q⟩:=q;rw[bd.vQ r];obtain⟨its,rv,hl,hz⟩:=I1.tuple hs;have hi:=rv.ints;have hsz:its.toArray.size=ns.length:=by rw[FH,hi.length]
  refine k6.aie (I.ok.hd hc) hl (by simpa using hi) (by rw[hsz];exact hb) λh' tk L hS hC kp=>?_;rw[hsz]at hC;have I2:aq X ae σ H1 {s1 with heap:=h',toks:=tk}:=I1.dX λb o e=>kp b o (bO e) e;refine zY ?_;obtain⟨m,F⟩:=I2.fr;have Na:=F.ns;refine k6.Vl (I.ok.hd hc) F GL hS λD h2 d Nb ws F2 N2 lt g=>?_;have uu:=Vp (L:=L) g.2;have hD: ∀p∈pJ X.base h' X.ai.locals,p.1≠D:=λp hp z=>by have:=lt p hp;rw[z]at this;exact xp _ this
  have sx:=hS.cT;have cS:=g.1.length_eq;refine aa8 (A:=X.A.in1) (D:=D) (its:=ws.toArray) (n:=0) (vs:=ws) (ns:=ws.map k6.k_) (news':=λo=>(D,o)::pJ X.base h' X.ai.locals) F2 N2 (λo=>.head λp hp=>hD p hp) (by simp) uu (by rw[cS];exact sx) fun BR cK c h3 F3 N3 i3 _ p3 s3 _=>?_;have new:dN X.prog X.w (aa H1 D (.af (cK.map V.int))) h3 D (.af (cK.map V.int)):=
   ⟨by lk,BR,c,G' i3,(N3 (D,_) (eG ..)).1⟩
  obtain⟨vS,I'⟩:=(I2.Vn d).Hv (t':=Nb) Na F3 N3 lt new;have pL:=p3.trans g.1;obtain⟨_,_,_,_,_,_,_,_,_,oC,_⟩:=hS;exact⟨.ref D,_,I',rfl,q cK D (pL.nodup_iff.mpr oC) s3 (λx=>by rw[pL.mem_iff,Vo hC x]) vS⟩
end
def aih{prog:bj}{w:a_}(d:ag)(hd:(d==i0)=false):
  Ri prog w (Builtin.«dict.__len__» ⟨[.ref d],[]⟩) (λ_ R s=> ∃es ep,yA s.heap d es ep/\R (.ok (.ret (.int es.size s.toks))) {s with toks:=s.toks+1}):=
 .of_wp λA R s⟨es,ep,⟨o,ho,hx,iP⟩,h⟩=>by
  show wpAny _ _ (dictSize d>>=_) _ _ s;refine ah (ah (rN ho iP (az ?_)));refine ah (wpAny_pendingCount_other hd ?_);refine wpAny_ret_mkInt ?_;rw[Nat.add_zero];exact h
def aii{prog:bj}{w:a_}{A:eJ}{E:au->aR->Prop}{s:aR}{d:ag}{es:Array n9}{ep:Nat}{Q:au->aR->Prop}(hd:(d==i0)=false)(hm:yA s.heap d es ep)(T5:(es.size:Int)<2^63)
  (h:Q (.int es.size (s.toks+1)) {s with toks:=s.toks+1+1}):wpAny (model prog w) A (call (.builtin "len") [.ref d]) Q E s:=by
 have hT:s.TypeIs (.ref d) "dict" :=let⟨o,ho,hx,_⟩:=hm;⟨o,ho,hx.1⟩;refine Calls.call_function_entry kind_len plain_len entry_len (args_len1 _) ?_;refine ah (m:=oneArg "len" _) (az ?_);refine ah (m:=callSpecial? (.ref d) (kH "__len__")) (mL (name:=kH "__len__") hT asv (Kl asv hT F.entry_dict_len (F.args_dict_len_1 _) (aih d hd) ⟨es,ep,hm,?_⟩))
 refine ah (kG (az ?_));refine ah (vd ?_);rw[if_neg (by lia)];rw[if_neg (by lia)];exact ah (wpAny_mkInt (az ⟨_,rfl,h⟩))
def aij:qH X (.builtin "len") (λxs H Q=> ∃a kvs,xs=[V.ref a]/\H a=some (.dT kvs)/\Q (.int kvs.length) H):=by
 intro ae s σ H xs us Q I r h;obtain⟨a,kvs,rfl,ha,q⟩:=h;obtain⟨u,rfl,ru⟩:=G3 r
 cases ru;obtain⟨zz,lo,xs,cU,o,es,ep,ho,qN,iP,UV,dL⟩:=I.aG a _ ha;have hsz:es.size=kvs.length:=by
  have e1:es.toList.length=xs.length:=by lk
  rw[<-kC,e1,mQ cU]
 refine aii lo ⟨o,ho,qN,iP⟩ (by rw[hsz];rw[Kq]at zz;lia) ?_;rw[hsz];exact⟨.int kvs.length,H,(I.f_ _).f_ _,⟨_,rfl⟩,q⟩
end L2
namespace Bp
open PySem PySem.Spec PyProof.Rows L2
def cg(i:Nat):Stmt:=PySem.Challenge.pw_bytemachines_s01_answers.main.body.getD i (.Pass ⟨0,0,0,0⟩)
abbrev VE:Stmt:=dO (cg 1) 0
abbrev VF:Stmt:=dO (cg 1) 1
abbrev VG:Stmt:=dO (cg 1) 2
abbrev VH:Stmt:=dO (cg 2) 0
abbrev VI:Stmt:=dO (cg 2) 1
abbrev VJ:Stmt:=dO (cg 2) 2
abbrev VL:Stmt:=dO (cg 8) 0
abbrev VM:Stmt:=dO (cg 8) 1
abbrev Nr:Stmt:=dO (cg 8) 2
abbrev VN:Stmt:=dO (cg 8) 3
abbrev Nt:Stmt:=dO (cg 10) 0
abbrev Nu:Stmt:=dO (cg 10) 1
abbrev VO:Stmt:=dO (cg 11) 0
abbrev Nv:Stmt:=dO (cg 11) 1
abbrev VP:Stmt:=dO (cg 17) 0
abbrev Nw:Stmt:=dO (cg 17) 1
abbrev Ny:Stmt:=dO (cg 17) 2
abbrev VQ:Stmt:=dO (cg 19) 0
abbrev Nz:Stmt:=dO (cg 19) 1
abbrev VR:Stmt:=dO (cg 19) 2
abbrev VS:Stmt:=dO (cg 19) 3
abbrev NA:Stmt:=dO (cg 19) 4
abbrev VT:Stmt:=dO (cg 25) 0
abbrev VU:Stmt:=dO (cg 25) 1
abbrev VW:Stmt:=dO (cg 25) 2
abbrev VX:Stmt:=dO (cg 59) 0
abbrev VY:Stmt:=dO (cg 59) 1
abbrev VZ:Stmt:=dO (cg 59) 2
abbrev V0:Stmt:=dO (cg 59) 3
abbrev V1:Stmt:=dO (cg 59) 4
abbrev V2:Stmt:=dO (cg 59) 5
abbrev V3:Stmt:=dO (cg 59) 6
abbrev V4:Stmt:=dO (cg 59) 7
abbrev V5:Stmt:=dO (cg 59) 8
abbrev V6:Stmt:=dO (cg 59) 9
abbrev V7:Stmt:=dO (cg 59) 10
abbrev V8:Stmt:=dO (cg 59) 11
abbrev NB:Stmt:=cg 3
abbrev V9:Stmt:=cg 4
abbrev NC:Stmt:=cg 7
abbrev HP:Stmt:=cg 12
abbrev ND:Stmt:=cg 13
abbrev NE:Stmt:=cg 14
abbrev NF:Stmt:=cg 20
abbrev V_:Stmt:=cg 21
abbrev Ce:Stmt:=cg 22
abbrev V':Stmt:=cg 26
abbrev NG:Stmt:=cg 27
abbrev NH:Stmt:=cg 28
abbrev NI:Stmt:=cg 29
abbrev NJ:Stmt:=cg 31
abbrev HQ:Stmt:=cg 32
abbrev Wa:Stmt:=cg 33
abbrev Wb:Stmt:=cg 36
abbrev Wc:Stmt:=cg 37
abbrev Wd:Stmt:=cg 58
abbrev We:Stmt:=cg 60
abbrev Wf:Stmt:=cg 61
abbrev Wg:Stmt:=cg 62
def aik:cj ["self","size"] ["self","size"] (bg VE):=by z_go
def Wh:cj ["self","number"] ["self","number"] (bg VF):=by z_go
def NK:cj ["self","one","other","first","second"] ["self","one","other"] (bg VG):=by z_go
def ail:cj ["self"] ["self"] (bg VH):=by z_go
def aim:cj ["self","one","other","source","byte"] ["self","one","other","source","byte"] (bg VI):=by z_go
def HR:cj ["self","word","place"] ["self"] (bg VJ):=by z_go
def NL:cj ["self","starts","rows","taking","span","width"] ["self","starts","rows","taking"] (bg VL):=by z_go
def ain:cj ["self"] ["self"] (bg VM):=by z_go
def HS:cj ["self","state","row","span"] ["self","state"] (bg Nr):=by z_go
def HU:cj ["self","word","state","byte"] ["self","word"] (bg VN):=by z_go
def yI:cj ["self","column","width","places","place","target"] ["self","column","width"] (bg Nt):=by z_go
def NM:cj ["self","numbers","target"] ["self","numbers"] (bg Nu):=by z_go
def HV:cj ["self","first","second","places","kinds","pair"] ["self","first","second"] (bg VO):=by z_go
def wt:cj ["self","numbers","ones","others","one","other"] ["self","numbers"] (bg Nv):=by z_go
def aio:cj ["self","machine"] ["self","machine"] (bg VP):=by z_go
def NN:cj ["self","length","count"] ["self","length"] (bg Nw):=by z_go
def NO:cj ["self","length","count"] ["self","length"] (bg Ny):=by z_go
def aip:cj ["self","size"] ["self","size"] (bg VQ):=by z_go
def NP:cj ["self","row","target"] ["self","row"] (bg Nz):=by z_go
def Cf:cj ["self","block","parts","ordered","moved","part","state"] ["self","block","parts"] (bg VR):=by z_go
def Cg:cj ["self","touched","rows","found","state","block","looks"] ["self","touched","rows"] (bg VS):=by z_go
def uw:cj ["self","touched","rows","found","moved","block","looks","parts","rest","state"] ["self","touched","rows"] (bg NA):=by z_go
def aiq:cj ["self","first"] ["self","first"] (bg VT):=by z_go
def air:cj ["self","members"] ["self","members"] (bg VU):=by z_go
def ais:cj ["self"] ["self"] (bg VW):=by z_go
def ait:cj ["self"] ["self"] (bg VX):=by z_go
def aiu:cj ["self","state"] ["self","state"] (bg VY):=by z_go
def aiv:cj ["self"] ["self"] (bg VZ):=by z_go
def aiw:cj ["self","takes"] ["self","takes"] (bg V0):=by z_go
def aix:cj ["self","source","low","high","target"] ["self","source","low","high","target"] (bg V1):=by z_go
def aiy:cj ["self"] ["self"] (bg V2):=by z_go
def aiz:cj ["self","state"] ["self","state"] (bg V3):=by z_go
def aiA:cj ["self"] ["self"] (bg V4):=by z_go
def aiB:cj ["self","length","word"] ["self","length","word"] (bg V5):=by z_go
def aiC:cj ["self","length"] ["self","length"] (bg V6):=by z_go
def aiD:cj ["self","place","most"] ["self","place","most"] (bg V7):=by z_go
def aiE:cj ["self","other","most"] ["self","other","most"] (bg V8):=by z_go
def HW:cj ["machine","state","letters","row","byte"] ["machine","state","letters"] (bg NB):=by z_go
def oE:cj ["one","other","letters","pairs","groups","place","states","ones","others","byte","first","second"] ["one","other"] (bg V9):=by z_go
def Ch:cj ["starts","ends","start","end"] ["starts"] (bg NC):=by z_go
def qS:cj ["machine","widths","span","width","column","row"] ["machine"] (bg HP):=by z_go
def yJ:cj ["machine","parts","even","joints","place"] ["machine"] (bg ND):=by z_go
def HX:cj ["whole","numbers","sums","kind"] ["whole","numbers"] (bg NE):=by z_go
def yK:cj ["rows","sources","state","row","target"] ["rows"] (bg NF):=by z_go
def HY:cj ["moved","sources","touched","state","source"] ["moved","sources"] (bg V_):=by z_go
def nG:cj ["rows","taking","blocks","takers","others","moved","sources","state","takes","part"] ["rows","taking"] (bg Ce):=by z_go
def yL:cj ["steps","starts","source","low","high","target"] ["steps"] (bg V'):=by z_go
def p6:cj ["size","steps","starts","spans","span","start","leads","source","low","high","target","state"] ["size","steps","starts"] (bg NG):=by z_go
def wu:cj ["members","leads","width","joined","state","lead","one","other"] ["members","leads","width"] (bg NH):=by z_go
def yM:cj ["size","steps","starts","leads","reached","lead","members"] ["size","steps","starts"] (bg NI):=by z_go
def ww:cj ["sets","taking","takers","state","takes","members"] ["sets","taking"] (bg NJ):=by z_go
def oF:cj ["starts","rows","taking","blocks","numbers","firsts","state","block","merged","target"] ["starts","rows","taking"] (bg HQ):=by z_go
def NQ:cj ["taking","steps","starts","reached"] ["taking","steps"] (bg Wa):=by z_go
def p7:cj ["machine","counts","length","before","widths","word","state","row","ways","span"] ["machine","counts","length","before"] (bg Wb):=by z_go
def Ci:cj ["machine","counts","place","before","length","ways"] ["machine","counts","place"] (bg Wc):=by z_go
def aiF:cj ["word","most"] ["word","most"] (bg Wd):=by z_go
def HZ:cj ["drawings","numbers","call","which","drawing"] ["drawings","numbers"] (bg We):=by z_go
def Wi:cj ["calls","place","end"] ["calls","place"] (bg Wf):=by z_go
def wx:cj ["calls","drawings","told","place","end","said"] ["calls"] (bg Wg):=by z_go
set_option genInjectivity false in
structure Ad where
 {lg fX dB cb b0 cW fG fY c9 Cj Cm Co Cq Cs Cu Cw Cz CB CF CI CO CS CU CW CZ C3 C5 C7 C9 Dc De Dg Di Dk Dm Do Dr Dt Dv Dy DA DC DF DH DJ DL DN DP DR DT DV DX ux DZ D4 D6 D8 D_ Eb Ed Ef yN Eh Ej Em Eo Er Et:ag}
 {Ck Cn Cp Cr Ct Cv Cy CA CD CH CN CQ CT CV CY C0 C4 C6 C8 C_ Dd Df Dh Dj Dl Dn Dq Ds Du Dx Dz DB DE DG DI DK DM DO DQ DS DU DW DY uz D0 D5 D7 D9 Ea Ec Ee Eg yO Ei El En Ep Es yP:aN}
structure cp(K:aP)(mg:Str->Option au)(a:Ad):Prop where
 p8:jx K a.lg
 aiG:Mk K a.lg a.Cj
 aiH:mg "Groups" =some (.ref a.lg)
 wy:dZ K a.lg "above"
 nH:jx K a.fX
 aiI:Mk K a.fX a.Cq
 aiJ:mg "Pairs" =some (.ref a.fX)
 Eu:dZ K a.fX "states"
 NR:dZ K a.fX "sources"
 NS:dZ K a.fX "last_bytes"
 d5:jx K a.dB
 aiK:Mk K a.dB a.Cw
 aiL:mg "Machine" =some (.ref a.dB)
 yQ:dZ K a.dB "starts"
 wz:dZ K a.dB "rows"
 qT:dZ K a.dB "taking"
 Ev:dZ K a.dB "span_of"
 qU:jx K a.cb
 aiM:Mk K a.cb a.CI
 aiN:mg "Letter" =some (.ref a.cb)
 Wj:dZ K a.cb "width"
 NT:dZ K a.cb "targets"
 Wl:dZ K a.cb "kind_of"
 p9:jx K a.b0
 aiO:Mk K a.b0 a.CS
 aiP:mg "Joint" =some (.ref a.b0)
 Wm:dZ K a.b0 "first"
 Wn:dZ K a.b0 "second"
 Wo:dZ K a.b0 "pairs"
 Wp:dZ K a.b0 "kind_of"
 jE:jx K a.cW
 aiQ:Mk K a.cW a.CW
 aiR:mg "Counts" =some (.ref a.cW)
 NU:dZ K a.cW "whole"
 H_:dZ K a.cW "wrapped"
 Ia:dZ K a.cW "last_wrapped"
 Ew:dZ K a.cW "capped"
 lh:jx K a.fG
 aiS:Mk K a.fG a.C5
 aiT:mg "Blocks" =some (.ref a.fG)
 Ex:dZ K a.fG "block_of"
 yR:dZ K a.fG "members"
 jc:jx K a.fY
 aiU:Mk K a.fY a.Dg
 aiV:mg "Reached" =some (.ref a.fY)
 wA:dZ K a.fY "sets"
 Ey:dZ K a.fY "places"
 Ez:dZ K a.fY "rows"
 b_:jx K a.c9
 aiW:Mk K a.c9 a.Dm
 aiX:mg "Drawing" =some (.ref a.c9)
 yS:dZ K a.c9 "taking"
 Ib:dZ K a.c9 "steps"
 eC:dZ K a.c9 "machine"
 wB:dZ K a.c9 "machine_counts"
 aiY:cn K "__init__" "Groups.__init__" VE a.Cj a.Ck
 aiZ:bS K a.Ck ["self","size"] []
 ai0:cn K "leader_of" "Groups.leader_of" VF a.Cm a.Cn
 Wq:bS K a.Cn ["self","number"] []
 Wr:e7 K a.lg "leader_of" a.Cm
 ai1:cn K "unite" "Groups.unite" VG a.Co a.Cp
 Ws:bS K a.Cp ["self","one","other"] []
 Wt:e7 K a.lg "unite" a.Co
 ai2:cn K "__init__" "Pairs.__init__" VH a.Cq a.Cr
 ai3:bS K a.Cr ["self"] []
 ai4:cn K "add" "Pairs.add" VI a.Cs a.Ct
 ai5:bS K a.Ct ["self","one","other","source","byte"] []
 ai6:e7 K a.fX "add" a.Cs
 ai7:cn K "word_to_last" "Pairs.word_to_last" VJ a.Cu a.Cv
 ai8:bS K a.Cv ["self"] []
 ai9:e7 K a.fX "word_to_last" a.Cu
 ai_:cn K "__init__" "Machine.__init__" VL a.Cw a.Cy
 aja:bS K a.Cy ["self","starts","rows","taking"] []
 ajb:cn K "size" "Machine.size" VM a.Cz a.CA
 yT:bS K a.CA ["self"] []
 yU:e7 K a.dB "size" a.Cz
 ajc:cn K "whole_row" "Machine.whole_row" Nr a.CB a.CD
 ajd:bS K a.CD ["self","state"] []
 aje:e7 K a.dB "whole_row" a.CB
 ajf:cn K "takes" "Machine.takes" VN a.CF a.CH
 ajg:bS K a.CH ["self","word"] []
 ajh:e7 K a.dB "takes" a.CF
 aji:cn K "__init__" "Letter.__init__" Nt a.CI a.CN
 ajj:bS K a.CN ["self","column","width"] []
 ajk:cn K "sums" "Letter.sums" Nu a.CO a.CQ
 NV:bS K a.CQ ["self","numbers"] []
 NW:e7 K a.cb "sums" a.CO
 ajl:cn K "__init__" "Joint.__init__" VO a.CS a.CT
 ajm:bS K a.CT ["self","first","second"] []
 Wu:cn K "sums" "Joint.sums" Nv a.CU a.CV
 NX:bS K a.CV ["self","numbers"] []
 NY:e7 K a.b0 "sums" a.CU
 ajn:cn K "__init__" "Counts.__init__" VP a.CW a.CY
 ajo:bS K a.CY ["self","machine"] []
 ajp:cn K "wrapped_count" "Counts.wrapped_count" Nw a.CZ a.C0
 ajq:bS K a.C0 ["self","length"] []
 ajr:e7 K a.cW "wrapped_count" a.CZ
 ajs:cn K "capped_counts" "Counts.capped_counts" Ny a.C3 a.C4
 Wv:bS K a.C4 ["self","length"] []
 Ww:e7 K a.cW "capped_counts" a.C3
 ajt:cn K "__init__" "Blocks.__init__" VQ a.C5 a.C6
 aju:bS K a.C6 ["self","size"] []
 ajv:cn K "look_of" "Blocks.look_of" Nz a.C7 a.C8
 ajw:bS K a.C8 ["self","row"] []
 ajx:e7 K a.fG "look_of" a.C7
 ajy:cn K "split_block" "Blocks.split_block" VR a.C9 a.C_
 Wx:bS K a.C_ ["self","block","parts"] []
 Wy:e7 K a.fG "split_block" a.C9
 ajz:cn K "touched_by_look" "Blocks.touched_by_look" VS a.Dc a.Dd
 ajA:bS K a.Dd ["self","touched","rows"] []
 ajB:e7 K a.fG "touched_by_look" a.Dc
 ajC:cn K "split_touched" "Blocks.split_touched" NA a.De a.Df
 ajD:bS K a.Df ["self","touched","rows"] []
 ajE:e7 K a.fG "split_touched" a.De
 ajF:cn K "__init__" "Reached.__init__" VT a.Dg a.Dh
 ajG:bS K a.Dh ["self","first"] []
 ajH:cn K "place_of" "Reached.place_of" VU a.Di a.Dj
 ajI:bS K a.Dj ["self","members"] []
 ajJ:e7 K a.fY "place_of" a.Di
 ajK:cn K "too_many" "Reached.too_many" VW a.Dk a.Dl
 Wz:bS K a.Dl ["self"] []
 WA:e7 K a.fY "too_many" a.Dk
 ajL:cn K "__init__" "Drawing.__init__" VX a.Dm a.Dn
 ajM:bS K a.Dn ["self"] []
 ajN:cn K "has_state" "Drawing.has_state" VY a.Do a.Dq
 WB:bS K a.Dq ["self","state"] []
 WC:e7 K a.c9 "has_state" a.Do
 ajO:cn K "forget_machine" "Drawing.forget_machine" VZ a.Dr a.Ds
 WD:bS K a.Ds ["self"] []
 WE:e7 K a.c9 "forget_machine" a.Dr
 ajP:cn K "add_state" "Drawing.add_state" V0 a.Dt a.Du
 ajQ:bS K a.Du ["self","takes"] []
 ajR:e7 K a.c9 "add_state" a.Dt
 ajS:cn K "add_step" "Drawing.add_step" V1 a.Dv a.Dx
 ajT:bS K a.Dx ["self","source","low","high","target"] []
 ajU:e7 K a.c9 "add_step" a.Dv
 ajV:cn K "make" "Drawing.make" V2 a.Dy a.Dz
 ajW:bS K a.Dz ["self"] []
 ajX:e7 K a.c9 "make" a.Dy
 ajY:cn K "row" "Drawing.row" V3 a.DA a.DB
 ajZ:bS K a.DB ["self","state"] []
 aj0:e7 K a.c9 "row" a.DA
 aj1:cn K "counts" "Drawing.counts" V4 a.DC a.DE
 WF:bS K a.DE ["self"] []
 WG:e7 K a.c9 "counts" a.DC
 aj2:cn K "try_word" "Drawing.try_word" V5 a.DF a.DG
 aj3:bS K a.DG ["self","length","word"] []
 aj4:e7 K a.c9 "try_word" a.DF
 aj5:cn K "count_words" "Drawing.count_words" V6 a.DH a.DI
 aj6:bS K a.DI ["self","length"] []
 aj7:e7 K a.c9 "count_words" a.DH
 aj8:cn K "tell_word" "Drawing.tell_word" V7 a.DJ a.DK
 aj9:bS K a.DK ["self","place","most"] []
 aj_:e7 K a.c9 "tell_word" a.DJ
 aka:cn K "tell_apart" "Drawing.tell_apart" V8 a.DL a.DM
 akb:bS K a.DM ["self","other","most"] []
 akc:e7 K a.c9 "tell_apart" a.DL
 NZ:cn K "targets_by" "targets_by" NB a.DN a.DO
 WH:bS K a.DO ["machine","state","letters"] []
 WI:mg "targets_by" =some (.ref a.DN)
 WJ:cn K "first_apart" "first_apart" V9 a.DP a.DQ
 akd:bS K a.DQ ["one","other"] []
 ake:mg "first_apart" =some (.ref a.DP)
 Ic:cn K "span_widths" "span_widths" NC a.DR a.DS
 N0:bS K a.DS ["starts"] []
 N1:mg "span_widths" =some (.ref a.DR)
 WK:cn K "letters_of" "letters_of" HP a.DT a.DU
 akf:bS K a.DU ["machine"] []
 akg:mg "letters_of" =some (.ref a.DT)
 WL:cn K "whole_part" "whole_part" ND a.DV a.DW
 akh:bS K a.DW ["machine"] []
 aki:mg "whole_part" =some (.ref a.DV)
 N4:cn K "state_sums" "state_sums" NE a.DX a.DY
 WM:bS K a.DY ["whole","numbers"] []
 WN:mg "state_sums" =some (.ref a.DX)
 WO:cn K "sources_of" "sources_of" NF a.ux a.uz
 akj:bS K a.uz ["rows"] []
 akk:mg "sources_of" =some (.ref a.ux)
 WP:cn K "touched_by" "touched_by" V_ a.DZ a.D0
 akl:bS K a.D0 ["moved","sources"] []
 akm:mg "touched_by" =some (.ref a.DZ)
 WQ:cn K "merged_blocks" "merged_blocks" Ce a.D4 a.D5
 akn:bS K a.D5 ["rows","taking"] []
 ako:mg "merged_blocks" =some (.ref a.D4)
 WR:cn K "span_starts" "span_starts" V' a.D6 a.D7
 akp:bS K a.D7 ["steps"] []
 akq:mg "span_starts" =some (.ref a.D6)
 WS:cn K "leads_of_states" "leads_of_states" NG a.D8 a.D9
 akr:bS K a.D9 ["size","steps","starts"] []
 aks:mg "leads_of_states" =some (.ref a.D8)
 WT:cn K "lead_of_set" "lead_of_set" NH a.D_ a.Ea
 akt:bS K a.Ea ["members","leads","width"] []
 aku:mg "lead_of_set" =some (.ref a.D_)
 WU:cn K "reached_sets" "reached_sets" NI a.Eb a.Ec
 akv:bS K a.Ec ["size","steps","starts"] []
 akw:mg "reached_sets" =some (.ref a.Eb)
 WV:cn K "taking_sets" "taking_sets" NJ a.Ed a.Ee
 akx:bS K a.Ee ["sets","taking"] []
 aky:mg "taking_sets" =some (.ref a.Ed)
 WW:cn K "merged_machine" "merged_machine" HQ a.Ef a.Eg
 akz:bS K a.Eg ["starts","rows","taking"] []
 akA:mg "merged_machine" =some (.ref a.Ef)
 WX:cn K "drawn_machine" "drawn_machine" Wa a.yN a.yO
 akB:bS K a.yO ["taking","steps"] []
 akC:mg "drawn_machine" =some (.ref a.yN)
 WY:cn K "word_of_length" "word_of_length" Wb a.Eh a.Ei
 akD:bS K a.Ei ["machine","counts","length","before"] []
 akE:mg "word_of_length" =some (.ref a.Eh)
 WZ:cn K "word_at" "word_at" Wc a.Ej a.El
 akF:bS K a.El ["machine","counts","place"] []
 akG:mg "word_at" =some (.ref a.Ej)
 N5:cn K "told_word" "told_word" Wd a.Em a.En
 W0:bS K a.En ["word","most"] []
 W1:mg "told_word" =some (.ref a.Em)
 W2:cn K "answer" "answer" We a.Eo a.Ep
 akH:bS K a.Ep ["drawings","numbers"] []
 akI:mg "answer" =some (.ref a.Eo)
 W3:cn K "end_of_call" "end_of_call" Wf a.Er a.Es
 akJ:bS K a.Es ["calls","place"] []
 akK:mg "end_of_call" =some (.ref a.Er)
 W4:cn K "answers" "answers" Wg a.Et a.yP
 atn:bS K a.yP ["calls"] []
 akL:mg "answers" =some (.ref a.Et)
 Ie: ∃t,mg "BYTES" =some (.int (256) t)
 W5: ∃t,mg "LIMIT" =some (.int (18446744073709551616) t)
 akM: ∃t,mg "MOST_SETS" =some (.int (1024) t)
 akN: ∃t,mg "MOST_BYTES" =some (.int (256) t)
 W6: ∃t,mg "FULL" =some (.int (-1) t)
 akO: ∃t,mg "NO_WORD" =some (.int (-1) t)
 wC: ∃t,mg "OUT_OF_RANGE" =some (.int (-2) t)
 akP: ∃t,mg "TOO_MANY_SETS" =some (.int (-3) t)
 EA: ∃t,mg "NO_MACHINE" =some (.int (-4) t)
 akQ: ∃t,mg "MOST_STATES" =some (.int (64) t)
 akR: ∃t,mg "MOST_STEPS" =some (.int (1024) t)
 akS: ∃t,mg "MOST_TRIED" =some (.int (65536) t)
 akT: ∃t,mg "MOST_COUNTED" =some (.int (4096) t)
 W7: ∃t,mg "MOST_TOLD" =some (.int (4096) t)
 akU: ∃t,mg "OPEN_CALL" =some (.int (1) t)
 akV: ∃t,mg "STATE_CALL" =some (.int (2) t)
 akW: ∃t,mg "STEP_CALL" =some (.int (3) t)
 akX: ∃t,mg "MAKE_CALL" =some (.int (4) t)
 akY: ∃t,mg "ROW_CALL" =some (.int (5) t)
 W8: ∃t,mg "TAKES_CALL" =some (.int (6) t)
 akZ: ∃t,mg "COUNT_CALL" =some (.int (7) t)
 ak0: ∃t,mg "WORD_CALL" =some (.int (8) t)
 qV:mg "enumerate" =none
 ee:mg "len" =none
 EB:mg "list" =none
 ak1:mg "min" =none
 yV:mg "range" =none
 ak2:mg "reversed" =none
 N6:mg "set" =none
 EC:mg "sorted" =none
 W9:mg "tuple" =none
 Ig:mg "zip" =none
def du(h:¬g=f):aM f v ((g,x)::r)=(g,x)::aM f v r:=by
 show(if g=f then _ else _)=_;rw[if_neg h]
def N7:aM f v ((f,x)::r)=(f,v)::r:=by
 show(if f=f then _ else _)=_;rw[if_pos rfl]
def fH{r:List (Str×V)}:QZ f ((f,v)::r)=some v:=by
 rw[FK,beq_self_eq_true]
def cf{r:List (Str×V)}(h:¬f=g):QZ f ((g,v)::r)=r.lookup f:=by
 rw[FK,beq_false_of_ne h]
def qW(v0:V):List (Str×V):=[("above",v0)]
def ak3(v0:V):(aM "above" v0 [])=qW v0:=by
 unfold qW;simp only[show∀f v,aM f v []=[(f,v)]from λ_ _=>rfl]
def yW{v0:V}:(qW v0).lookup ("above" :Str)=some v0:=by
 unfold qW;rw[fH]
def Ih{m:Str}(h:¬m="above")(v0:V):(qW v0).lookup m=none:=by
 unfold qW;rw[cf h];rfl
def ak4:¬("states" :Str)="sources" :=by x_go
def ak5:¬("states" :Str)="last_bytes" :=by x_go
def ak6:¬("sources" :Str)="states" :=by x_go
def ak7:¬("sources" :Str)="last_bytes" :=by x_go
def ak8:¬("last_bytes" :Str)="states" :=by x_go
def ak9:¬("last_bytes" :Str)="sources" :=by x_go
noncomputable def mC(v0 v1 v2:V):List (Str×V):=[("states",v0),("sources",v1),("last_bytes",v2)]
def ak_(v0 v1 v2:V):(aM "last_bytes" v2 (aM "sources" v1 (aM "states" v0 [])))=mC v0 v1 v2:=by
 unfold mC;simp only[show∀f v,aM f v []=[(f,v)]from λ_ _=>rfl,du ak4,du ak5,du ak7]
def Ii{v0 v1 v2:V}:(mC v0 v1 v2).lookup ("states" :Str)=some v0:=by
 unfold mC;rw[fH]
def W_{v0 v1 v2:V}:(mC v0 v1 v2).lookup ("sources" :Str)=some v1:=by
 unfold mC;rw[cf ak6,fH]
def W'{v0 v1 v2:V}:(mC v0 v1 v2).lookup ("last_bytes" :Str)=some v2:=by
 unfold mC;rw[cf ak8,cf ak9,fH]
def Xa{m:Str}(h:¬m="states" /\¬m="sources" /\¬m="last_bytes")(v0 v1 v2:V):(mC v0 v1 v2).lookup m=none:=by
 unfold mC;rw[cf h.1,cf h.2.1,cf h.2.2];rfl
def ala:¬("starts" :Str)="rows" :=by x_go
def alb:¬("starts" :Str)="taking" :=by x_go
def alc:¬("starts" :Str)="span_of" :=by x_go
def ald:¬("rows" :Str)="starts" :=by x_go
def ale:¬("rows" :Str)="taking" :=by x_go
def alf:¬("rows" :Str)="span_of" :=by x_go
def alg:¬("taking" :Str)="starts" :=by x_go
def alh:¬("taking" :Str)="rows" :=by x_go
def ali:¬("taking" :Str)="span_of" :=by x_go
def alj:¬("span_of" :Str)="starts" :=by x_go
def alk:¬("span_of" :Str)="rows" :=by x_go
def alm:¬("span_of" :Str)="taking" :=by x_go
noncomputable def iU(v0 v1 v2 v3:V):List (Str×V):=[("starts",v0),("rows",v1),("taking",v2),("span_of",v3)]
def aln(v0 v1 v2 v3:V):(aM "span_of" v3 (aM "taking" v2 (aM "rows" v1 (aM "starts" v0 []))))=iU v0 v1 v2 v3:=by
 unfold iU;simp only[show∀f v,aM f v []=[(f,v)]from λ_ _=>rfl,du ala,du alb,du ale,du alc,du alf,du ali]
def ED{v0 v1 v2 v3:V}:(iU v0 v1 v2 v3).lookup ("starts" :Str)=some v0:=by
 unfold iU;rw[fH]
def yX{v0 v1 v2 v3:V}:(iU v0 v1 v2 v3).lookup ("rows" :Str)=some v1:=by
 unfold iU;rw[cf ald,fH]
def sK{v0 v1 v2 v3:V}:(iU v0 v1 v2 v3).lookup ("taking" :Str)=some v2:=by
 unfold iU;rw[cf alg,cf alh,fH]
def Ij{v0 v1 v2 v3:V}:(iU v0 v1 v2 v3).lookup ("span_of" :Str)=some v3:=by
 unfold iU;rw[cf alj,cf alk,cf alm,fH]
def qX{m:Str}(h:¬m="starts" /\¬m="rows" /\¬m="taking" /\¬m="span_of")(v0 v1 v2 v3:V):(iU v0 v1 v2 v3).lookup m=none:=by
 unfold iU;rw[cf h.1,cf h.2.1,cf h.2.2.1,cf h.2.2.2];rfl
def alo:¬("width" :Str)="targets" :=by x_go
def alp:¬("width" :Str)="kind_of" :=by x_go
def Xb:¬("targets" :Str)="width" :=by x_go
def alq:¬("targets" :Str)="kind_of" :=by x_go
def alr:¬("kind_of" :Str)="width" :=by x_go
def als:¬("kind_of" :Str)="targets" :=by x_go
noncomputable def oG(v0 v1 v2:V):List (Str×V):=[("width",v0),("targets",v1),("kind_of",v2)]
def alt{v0 v1 v2:V}:(oG v0 v1 v2).lookup ("width" :Str)=some v0:=by
 unfold oG;rw[fH]
def alu{v0 v1 v2:V}:(oG v0 v1 v2).lookup ("targets" :Str)=some v1:=by
 unfold oG;rw[cf Xb,fH]
def alv{v0 v1 v2:V}:(oG v0 v1 v2).lookup ("kind_of" :Str)=some v2:=by
 unfold oG;rw[cf alr,cf als,fH]
def alw{m:Str}(h:¬m="width" /\¬m="targets" /\¬m="kind_of")(v0 v1 v2:V):(oG v0 v1 v2).lookup m=none:=by
 unfold oG;rw[cf h.1,cf h.2.1,cf h.2.2];rfl
def alx:¬("first" :Str)="second" :=by x_go
def aly:¬("first" :Str)="pairs" :=by x_go
def alz:¬("first" :Str)="kind_of" :=by x_go
def alA:¬("second" :Str)="first" :=by x_go
def alB:¬("second" :Str)="pairs" :=by x_go
def alC:¬("second" :Str)="kind_of" :=by x_go
def alD:¬("pairs" :Str)="first" :=by x_go
def alE:¬("pairs" :Str)="second" :=by x_go
def alF:¬("pairs" :Str)="kind_of" :=by x_go
def alG:¬("kind_of" :Str)="first" :=by x_go
def alH:¬("kind_of" :Str)="second" :=by x_go
def alI:¬("kind_of" :Str)="pairs" :=by x_go
noncomputable def kj(v0 v1 v2 v3:V):List (Str×V):=[("first",v0),("second",v1),("pairs",v2),("kind_of",v3)]
def alJ(v0 v1 v2 v3:V):(aM "kind_of" v3 (aM "pairs" v2 (aM "second" v1 (aM "first" v0 []))))=kj v0 v1 v2 v3:=by
 unfold kj;simp only[show∀f v,aM f v []=[(f,v)]from λ_ _=>rfl,du alx,du aly,du alB,du alz,du alC,du alF]
def alK{v0 v1 v2 v3:V}:(kj v0 v1 v2 v3).lookup ("first" :Str)=some v0:=by
 unfold kj;rw[fH]
def alL{v0 v1 v2 v3:V}:(kj v0 v1 v2 v3).lookup ("second" :Str)=some v1:=by
 unfold kj;rw[cf alA,fH]
def alM{v0 v1 v2 v3:V}:(kj v0 v1 v2 v3).lookup ("pairs" :Str)=some v2:=by
 unfold kj;rw[cf alD,cf alE,fH]
def alN{v0 v1 v2 v3:V}:(kj v0 v1 v2 v3).lookup ("kind_of" :Str)=some v3:=by
 unfold kj;rw[cf alG,cf alH,cf alI,fH]
def alO{m:Str}(h:¬m="first" /\¬m="second" /\¬m="pairs" /\¬m="kind_of")(v0 v1 v2 v3:V):(kj v0 v1 v2 v3).lookup m=none:=by
 unfold kj;rw[cf h.1,cf h.2.1,cf h.2.2.1,cf h.2.2.2];rfl
def alP:¬("whole" :Str)="wrapped" :=by x_go
def Xc:¬("whole" :Str)="last_wrapped" :=by x_go
def alQ:¬("whole" :Str)="capped" :=by x_go
def alR:¬("wrapped" :Str)="whole" :=by x_go
def Xd:¬("wrapped" :Str)="last_wrapped" :=by x_go
def alS:¬("wrapped" :Str)="capped" :=by x_go
def alT:¬("last_wrapped" :Str)="whole" :=by x_go
def alU:¬("last_wrapped" :Str)="wrapped" :=by x_go
def alV:¬("last_wrapped" :Str)="capped" :=by x_go
def alW:¬("capped" :Str)="whole" :=by x_go
def alX:¬("capped" :Str)="wrapped" :=by x_go
def alY:¬("capped" :Str)="last_wrapped" :=by x_go
noncomputable def gh(v0 v1 v2 v3:V):List (Str×V):=[("whole",v0),("wrapped",v1),("last_wrapped",v2),("capped",v3)]
def alZ(v0 v1 v2 v3:V):(aM "capped" v3 (aM "last_wrapped" v2 (aM "wrapped" v1 (aM "whole" v0 []))))=gh v0 v1 v2 v3:=by
 unfold gh;simp only[show∀f v,aM f v []=[(f,v)]from λ_ _=>rfl,du alP,du Xc,du Xd,du alQ,du alS,du alV]
def Xe{v0 v1 v2 v3:V}:(gh v0 v1 v2 v3).lookup ("whole" :Str)=some v0:=by
 unfold gh;rw[fH]
def N8{v0 v1 v2 v3:V}:(gh v0 v1 v2 v3).lookup ("wrapped" :Str)=some v1:=by
 unfold gh;rw[cf alR,fH]
def Xf{v0 v1 v2 v3:V}:(gh v0 v1 v2 v3).lookup ("last_wrapped" :Str)=some v2:=by
 unfold gh;rw[cf alT,cf alU,fH]
def al0(v0 v1 v2 v3 y:V):aM "last_wrapped" y (gh v0 v1 v2 v3)=gh v0 v1 y v3:=by
 unfold gh;rw[du Xc,du Xd,N7]
def Ik{v0 v1 v2 v3:V}:(gh v0 v1 v2 v3).lookup ("capped" :Str)=some v3:=by
 unfold gh;rw[cf alW,cf alX,cf alY,fH]
def N9{m:Str}(h:¬m="whole" /\¬m="wrapped" /\¬m="last_wrapped" /\¬m="capped")(v0 v1 v2 v3:V):(gh v0 v1 v2 v3).lookup m=none:=by
 unfold gh;rw[cf h.1,cf h.2.1,cf h.2.2.1,cf h.2.2.2];rfl
def al1(v0 v1 v2 v3:V):(gh v0 v1 v2 v3).length=4:=rfl
def al2:¬("block_of" :Str)="members" :=by x_go
def al3:¬("members" :Str)="block_of" :=by x_go
noncomputable def sL(v0 v1:V):List (Str×V):=[("block_of",v0),("members",v1)]
def al4(v0 v1:V):(aM "members" v1 (aM "block_of" v0 []))=sL v0 v1:=by
 unfold sL;simp only[show∀f v,aM f v []=[(f,v)]from λ_ _=>rfl,du al2]
def Il{v0 v1:V}:(sL v0 v1).lookup ("block_of" :Str)=some v0:=by
 unfold sL;rw[fH]
def EE{v0 v1:V}:(sL v0 v1).lookup ("members" :Str)=some v1:=by
 unfold sL;rw[cf al3,fH]
def yY{m:Str}(h:¬m="block_of" /\¬m="members")(v0 v1:V):(sL v0 v1).lookup m=none:=by
 unfold sL;rw[cf h.1,cf h.2];rfl
def al5:¬("sets" :Str)="places" :=by x_go
def al6:¬("sets" :Str)="rows" :=by x_go
def al7:¬("places" :Str)="sets" :=by x_go
def al8:¬("places" :Str)="rows" :=by x_go
def al9:¬("rows" :Str)="sets" :=by x_go
def al_:¬("rows" :Str)="places" :=by x_go
noncomputable def km(v0 v1 v2:V):List (Str×V):=[("sets",v0),("places",v1),("rows",v2)]
def ama(v0 v1 v2:V):(aM "rows" v2 (aM "places" v1 (aM "sets" v0 [])))=km v0 v1 v2:=by
 unfold km;simp only[show∀f v,aM f v []=[(f,v)]from λ_ _=>rfl,du al5,du al6,du al8]
def yZ{v0 v1 v2:V}:(km v0 v1 v2).lookup ("sets" :Str)=some v0:=by
 unfold km;rw[fH]
def Im{v0 v1 v2:V}:(km v0 v1 v2).lookup ("places" :Str)=some v1:=by
 unfold km;rw[cf al7,fH]
def Io{v0 v1 v2:V}:(km v0 v1 v2).lookup ("rows" :Str)=some v2:=by
 unfold km;rw[cf al9,cf al_,fH]
def N_{m:Str}(h:¬m="sets" /\¬m="places" /\¬m="rows")(v0 v1 v2:V):(km v0 v1 v2).lookup m=none:=by
 unfold km;rw[cf h.1,cf h.2.1,cf h.2.2];rfl
def amb:¬("taking" :Str)="steps" :=by x_go
def Xg:¬("taking" :Str)="machine" :=by x_go
def Xh:¬("taking" :Str)="machine_counts" :=by x_go
def amc:¬("steps" :Str)="taking" :=by x_go
def Xi:¬("steps" :Str)="machine" :=by x_go
def Xj:¬("steps" :Str)="machine_counts" :=by x_go
def amd:¬("machine" :Str)="taking" :=by x_go
def ame:¬("machine" :Str)="steps" :=by x_go
def Xk:¬("machine" :Str)="machine_counts" :=by x_go
def amf:¬("machine_counts" :Str)="taking" :=by x_go
def amg:¬("machine_counts" :Str)="steps" :=by x_go
def amh:¬("machine_counts" :Str)="machine" :=by x_go
noncomputable def dv(v0 v1 v2 v3:V):List (Str×V):=[("taking",v0),("steps",v1),("machine",v2),("machine_counts",v3)]
def ami(v0 v1 v2 v3:V):(aM "machine_counts" v3 (aM "machine" v2 (aM "steps" v1 (aM "taking" v0 []))))=dv v0 v1 v2 v3:=by
 unfold dv;simp only[show∀f v,aM f v []=[(f,v)]from λ_ _=>rfl,du amb,du Xg,du Xi,du Xh,du Xj,du Xk]
def EF{v0 v1 v2 v3:V}:(dv v0 v1 v2 v3).lookup ("taking" :Str)=some v0:=by
 unfold dv;rw[fH]
def Oa{v0 v1 v2 v3:V}:(dv v0 v1 v2 v3).lookup ("steps" :Str)=some v1:=by
 unfold dv;rw[cf amc,fH]
def fk{v0 v1 v2 v3:V}:(dv v0 v1 v2 v3).lookup ("machine" :Str)=some v2:=by
 unfold dv;rw[cf amd,cf ame,fH]
def Ob(v0 v1 v2 v3 y:V):aM "machine" y (dv v0 v1 v2 v3)=dv v0 v1 y v3:=by
 unfold dv;rw[du Xg,du Xi,N7]
def Ip{v0 v1 v2 v3:V}:(dv v0 v1 v2 v3).lookup ("machine_counts" :Str)=some v3:=by
 unfold dv;rw[cf amf,cf amg,cf amh,fH]
def Xl(v0 v1 v2 v3 y:V):aM "machine_counts" y (dv v0 v1 v2 v3)=dv v0 v1 v2 y:=by
 unfold dv;rw[du Xh,du Xj,du Xk,N7]
def mD{m:Str}(h:¬m="taking" /\¬m="steps" /\¬m="machine" /\¬m="machine_counts")(v0 v1 v2 v3:V):(dv v0 v1 v2 v3).lookup m=none:=by
 unfold dv;rw[cf h.1,cf h.2.1,cf h.2.2.1,cf h.2.2.2];rfl
def amj(v0 v1 v2 v3:V):(dv v0 v1 v2 v3).length=4:=rfl
open Sw15 (Drawing)
def iv(n:Nat):V:=.int (n:Int)
def LI(H:Hp)(a:ag)(ns:aj):Prop:=H a=some (.af (ns.map iv))
structure cD(H:Hp)(a:ag)(as:bp)(rs:aZ):Prop where
 af:H a=some (.af (as.map V.ref))
 len:as.length=rs.length
 at_: ∀(i:Nat)(b:ag),as[i]?=some b->LI H b (rs.getD i [])
def LI.aA(h:LI H a ns)(s:al H H'):LI H' a ns:=s _ _ h
def cD.aA(h:cD H a as rs)(s:al H H'):cD H' a as rs:=⟨s _ _ h.af,h.len,λi b e=>(h.at_ i b e).aA s⟩
def al.new(h:H p=none):al H (aa H p o):=λb u e=>by rw[aw (aF e h)];exact e
def LI.sq{K:aP}(h:LI H a ns):aJ K H a (ns.map iv):=aJ.of h
def ca{ns:aj}(h:i<ns.length):(ns.map iv)[i]?=some (iv (ns.getD i 0)):=by
 lk
def y4:(aM f v (aM g x [])).length<1000:=by
 have h1:=vL f v (aM g x []);have h2:=vL g x [];fin2
def kr(h:n<=2000000):n<=bh:=gn h (by room)
def cz(h:n<=2000000):n<bh:=abx h (by room)
def Iq(ns:List V):k5 ns (some 1) none=ns.tail:=by
 unfold k5;rw[HT.G7,show(some (1:Int))=some ((1:Nat):Int)from rfl,HT.yc]
 cases ns with
 |nil=>rfl
 |cons a l=>
  simp
section
variable{P:bj}{w:a_}{K:aP}{mg:Str->Option au}{base:Heap}{ad:Ad}
def Bt(p:ag)(H H':Hp):Prop:= ∀b o,b≠p->H b=some o->H' b=some o
def Bt.refl(p:ag)(H:Hp):Bt p H H:=λ_ _ _ e=>e
def Bt.trans(a:Bt p H1 H2)(b:Bt p H2 H3):Bt p H1 H3:=λc o n e=>b c o n (a c o n e)
def Bt.aa(p:ag)(H:Hp)(o:HO):Bt p H (aa H p o):=λc o' n e=>by rw[aw n];exact e
def al.bt(s:al H H')(p:ag):Bt p H H':=λc o _ e=>s c o e
def LI.bt(h:LI H a ns)(s:Bt p H H')(n:a≠p):LI H' a ns:=s _ _ n h
def amk(m:Nat)(x:V):(cu m [x]).flatten=cu m x:=by
 induction m with
 |zero=>rfl
 |succ m ih=>rw[tF,xj,ih,tF];rfl
inductive Xm(vs:List V)(H:Hp)(Q:VK)(z3:XK):Prop|mk:∀a ss,vs=[.ref a]->LI H a ss->BM.fL ss->0<ss.length->(∀H' q,al H H'->LI H' q (BM.cy ss)->H q=none->Q (.ref q) H')->Xm vs H Q z3
def Oc(T:cp K mg ad):bN P w K mg base bX 1 ad.DR ad.DS ["starts"] Xm:=by
 refine T.Ic.ok Ch (λvs H Q E h=>?_) (λbB A aY s H vs Q E hr h=>?_)
 ·obtain⟨a,ss,rfl,_⟩:=h
  rfl
 ·obtain⟨a,ss,rfl,ha,bW,mE,k⟩:=h;exists _,(aC (bP (i:=1) Ch.nd (df yh (yd yf (pv 0) (vO bm) Bn) (cH (ak (dD rfl T.Ie) ay)))) (aK (bK (ke rfl Ch.nd (UF rfl T.Ig (ak (pv 0) (ak (pv 1) ay))) (bz:=[("start",2),("end",3)]) (gZ (show gz ["starts","ends","start","end"] (bg NC) _ _=true by x_go)) (λ_ _ _ _ _=>(yB (n:=2) K rfl (dt (bU (i:=2) Ch.nd) (dt (bU (i:=3) Ch.nd) jT)))) (λ_ _ _ _ _=>i7) (λ_ _ _ _ _=>(df vI (pv 3) (pv 2)))))))
  rfl'
  have cT:=BM.ip 256 ss (bW.1.imp λh=>d7 h) bW.2;refine⟨_,rfl,_,rfl,a,_,rfl,ha.sq,λl1 eY=>⟨(cA rfl),λl2 ed=>?_⟩⟩;have n12:=aF ao ed;refine⟨l1,l2,_,_,rfl,rfl,(by rw[aw n12];exact ao),ao,?_,λpe Ir=>?_⟩
  ·rw[Iq,List.length_tail,ax];exact kr (by fin2)
  rw[Iq];rw[Iq]at ed Ir;have s2:al H (aa (aa (aa H l1 (.af (ss.map iv).tail)) l2 (.af [.int 256])) pe (.af ((ss.map iv).tail++[.int 256]))):=((al.new eY).trans (al.new ed)).trans (al.new Ir);generalize Ud:aa (aa (aa H l1 (.af (ss.map iv).tail)) l2 (.af [.int 256])) pe (.af ((ss.map iv).tail++[.int 256]))=H3 at s2;have Xn:LI H3 pe (ss.tail++[256]):=by
   rw[<-Ud];show aa _ pe _ pe=_;rw[ao,bI,List.map_tail];rfl
  have el:(ss.tail++[256]).length=ss.length:=by fin2
  refine⟨_,rfl,_,rfl,a,pe,_,_,rfl,(ha.aA s2).sq,Xn.sq,λD hD=>UZ (K:=K) (a:=a) (b:=pe) (xs:=ss.map iv) (ys:=(ss.tail++[256]).map iv) (by fin2) (λj H5=>LI H5 D ((BM.cy ss).take j)/\al H3 H5) ⟨ao,al.new hD⟩ ?_ ?_ ?_⟩
  ·rintro j H5 _ ⟨_,s5⟩;exact⟨((ha.aA s2).aA s5).sq,(Xn.aA s5).sq⟩
  ·rintro j x y T2 H5 hx hy ⟨bn,s5⟩ kg;have hj:j<ss.length:=by
    have:=(gm.mp hx).1
    rwa[ax]at this
   rw[ca hj]at hx;rw[ca (by rw[el];exact hj)]at hy;obtain rfl:=(bv hx).symm;obtain rfl:=(bv hy).symm;refine⟨T2,_,rfl,c8.of ao,rfl,_,_,rfl,_,_,rfl,rfl,rfl,ja ?_⟩;have s6:=al.new (o:=.aE [iv (ss.getD j 0),iv ((ss.tail++[256]).getD j 0)]) kg;refine⟨_,rfl,_,rfl,_,_,rfl,rfl,_,bn.aA s6,?_,?_,λc o e=>?_⟩
   ·rw[ax,il];exact cz (by lia)
   ·show aa _ D _ D=_;have Xo:j<(BM.cy ss).length:=by rw[BM.vp];exact hj
    rw[ao,fJ Xo,bI];congr 3;have e:=BM.AO bW hj;have e2:=BM.cr (d:=0) Xo;have e3:(BM.cy ss).getD j 0=(ss.tail++[256]).getD j 0-ss.getD j 0:=by
     exact BM.Si hj
    show[V.int _]=[V.int _]
    lia
   ·rw[aw (aF e hD)];exact s6 _ _ (s5 _ _ e)
  ·rintro H5 ⟨bn,s5⟩;rw[ax,<-BM.vp ss,fK]at bn;exact k H5 D (s2.trans s5) bn (s2.free hD)
inductive aml(C:ag)(vs:List V)(H:Hp)(Q:VK)(z4:XK):Prop|mk:∀p dx ps y z ss,vs=[.ref p,.ref ps,y,z]->H p=some (.aB C dx [])->LI H ps ss->BM.fL ss->0<ss.length->(∀H' q,Bt p H H'->H' p=some (.aB C dx (iU (.ref ps) y z (.ref q)))->LI H' q (BM.dU ss)->H q=none->Q .aX H')->aml C vs H Q z4
def Iu:(aM f v (aM g x (aM h y []))).length<1000:=by
 have h1:=vL f v (aM g x (aM h y []));have h2:=vL g x (aM h y []);have h3:=vL h y [];fin2
def amm(T:cp K mg ad):bN P w K mg base bX 2 ad.Cw ad.Cy ["self","starts","rows","taking"] (aml ad.dB):=by
 refine T.ai_.ok NL (λvs H Q E h=>?_) (λbB A aY s H vs Q E hr h=>?_)
 ·obtain⟨p,dx,ps,y,z,ss,rfl,_⟩:=h;rfl
 ·obtain⟨p,dx,ps,y,z,ss,rfl,hp,tV,bW,mE,k⟩:=h;exists _,(aC (eQ (pv 0) (pv 1) rfl) (aC (eQ (pv 0) (pv 2) rfl) (aC (eQ (pv 0) (pv 3) rfl) (aC (eQ (pv 0) (cH ay) rfl) (aK (ib eR rfl (qL rfl T.qV (ak (gy (Oc T) hr.m rfl T.N1 T.Ic.kp T.N0 .nil bE (ak (pv 1) ay)) ay)) (nh rfl (dt (bU (i:=4) NL.nd) (dt (bU (i:=5) NL.nd) jT))) (aK (ga (ic iB JS Qo G9 (aV (pv 0)) (ak (df G_ (cH (ak (pv 4) ay)) (pv 5)) ay))))))))))
  rfl'
  have cT:=BM.ip 256 ss (bW.1.imp λh=>d7 h) bW.2;have EG:=bx tV hp (by intro z;cases z);exists _,rfl,_,rfl,p,_,dx,_,rfl,hp,T.d5,T.yQ,(by simp),_,rfl,_,rfl,p,_,dx,_,rfl,ao,T.d5,T.wz,(by show 1<1000;decide),_,rfl,_,rfl,p,_,dx,_,rfl,ao,T.d5,T.qT,y4;rw[qB,qB];refine⟨cX _,λq hq=>?_⟩;have qY:q≠p:=λe=>by rw[e,ao]at hq;cases hq
  have fq:H q=none:=by rw[aw qY]at hq;exact hq
  exists _,rfl,p,_,dx,_,rfl,(by rw[aw qY.symm];exact ao),T.d5,T.Ev,Iu;rw[aln];generalize Od:aa (aa (aa H p _) q (.af [])) p (.aB ad.dB dx (iU (.ref ps) y z (.ref q)))=H1;have di:H1 p=some (.aB ad.dB dx (iU (.ref ps) y z (.ref q))):=by rw[<-Od];exact ao
  have fF:LI H1 q []:=by rw[<-Od];show aa _ _ _ _=_;rw[aw qY];exact ao
  have b1:Bt p H H1:=λb o n e=>by rw[<-Od,aw n,aw (aF (by rw[aw n];exact e) hq),aw n];exact e
  refine⟨_,rfl,ps,ss,rfl,tV.bt b1 EG,bW,mE,λH2 wq s2 hw uA=>?_⟩;have Oe:wq≠q:=λe=>by rw[e]at uA;rw[fF]at uA;cases uA
  have Xp:=qY.symm;refine⟨wq,_,rfl,hw.sq,uq (K:=K) (a:=wq) (xs:=(BM.cy ss).map iv) (λi σ H'=> ∃v4 v5,σ=[some (.ref p),some (.ref ps),some y,some z,v4,v5]/\Bt q H2 H'/\LI H' q ((aU i).flatMap (λm=>cu ((BM.cy ss).getD m 0) m))) ⟨none,none,rfl,Bt.refl _ _,fF.aA s2⟩ ?_ ?_ ?_⟩
  ·rintro i σ H' _ ⟨_,_,_,b3,_⟩;exact(hw.bt b3 Oe).sq
  ·rintro i x Tt σ H' hx ⟨v4,v5,rfl,b3,gN⟩ gj;have hi:i<(BM.cy ss).length:=by
    have:=(gm.mp hx).1
    rwa[ax]at this
   rw[ca hi]at hx;obtain rfl:=(bv hx).symm;rw[BM.vp]at hi;have hw2:=BM.AO bW hi;have st:=al.new (o:=.aE [V.int (i:Nat),iv ((BM.cy ss).getD i 0)]) gj;refine⟨Tt,_,rfl,c8.of ao,rfl,_,_,rfl,_,_,rfl,rfl,_,rfl,p,_,dx,_,_,rfl,st _ _ (b3 _ _ Xp (s2 _ _ di)),T.d5,T.Ev,Ij,.inl ⟨rfl,_,(gN.aA st).sq⟩,_,rfl,(cA rfl),λl hl=>?_⟩;have sl:=al.new (o:=.af [V.int (i:Nat)]) hl;refine⟨_,rfl,l,_,_,rfl,rfl,ao,?_,?_,?_,λr hr=>?_⟩
   ·lia
   ·lia
   ·exact kr (by show 1*_<=_;lia)
   have et:(((BM.cy ss).getD i 0:Nat):Int).toNat=(BM.cy ss).getD i 0:=by lia
   rw[et,amk];have sr:=al.new (o:=.af (cu ((BM.cy ss).getD i 0) (V.int (i:Nat)))) hr;have hqr:=((gN.aA st).aA sl).aA sr;have ato:((aU i).flatMap (λm=>cu ((BM.cy ss).getD m 0) m)).length<=256*256:=by
    refine gn (BM.Sf (c:=256) (λm=>?_) i) (abm 256 (by lia));rw[FE];by_cases hm:m<ss.length
    ·exact(BM.AO bW hm).2
    ·rw[BM.acz (by rw[BM.vp];lia)];lia
   refine⟨q,r,_,_,rfl,rfl,hqr,ao,?_,?_⟩
   ·rw[ax,FE];exact kr (by lia)
   ·refine⟨_,_,rfl,λb' o' n e=>?_,?_⟩
    ·rw[aw n];exact sr _ _ (sl _ _ (st _ _ (b3 b' o' n e)))
    ·show aa _ q _ q=_;rw[ao,lD,abo,bI];simp[iv]
  ·rintro σ H' ⟨v4,v5,rfl,b3,gN⟩;rw[ax,BM.vp,BM.ado]at gN;exact k H' q (λb o n e=>b3 b o (aF e fq) (s2 _ _ (b1 b o n e))) (b3 _ _ Xp (s2 _ _ di)) gN fq
inductive Xq(C:ag)(vs:List V)(H:Hp)(Q:VK)(z4:XK):Prop|mk:∀p dx pr x z u xs,vs=[.ref p]->H p=some (.aB C dx (iU x (.ref pr) z u))->H pr=some (.af xs)->Q (.int xs.length) H->Xq C vs H Q z4
def y6(T:cp K mg ad):bN P w K mg base bX 1 ad.Cz ad.CA ["self"] (Xq ad.dB):=by
 refine T.ajb.ok ain (λvs H Q E h=>?_) (λbB A aY s H vs Q E hr h=>?_)
 ·grind[Xq]
 ·obtain⟨p,dx,pr,x,z,u,xs,rfl,hp,jX,k⟩:=h;exact⟨_,(aK (bK (d4 eX (by rfl) T.ee eI (ak (aV (pv 0)) ay)))),_,rfl,p,_,dx,_,_,rfl,hp,T.d5,T.wz,yX,pr,xs,rfl,.inl (aJ.of jX),k⟩
inductive Xr(C:ag)(vs:List V)(H:Hp)(Q:VK)(z4:XK):Prop|mk:∀p dx pr pq x z as ss rs i,vs=[.ref p,iv i]->H p=some (.aB C dx (iU x (.ref pr) z (.ref pq)))->LI H pq (BM.dU ss)->(BM.dU ss).length=256->(∀c,c<256->(BM.dU ss).getD c 0<ss.length)->cD H pr as rs->i<rs.length->(rs.getD i []).length=ss.length->(∀H' q,al H H'->LI H' q (BM.cY ss (rs.getD i []))->H q=none->Q (.ref q) H')->Xr C vs H Q z4
def amn(T:cp K mg ad):bN P w K mg base bX 1 ad.CB ad.CD ["self","state"] (Xr ad.dB):=by
 refine T.ajc.ok HS (λvs H Q E h=>?_) (λbB A aY s H vs Q E hr h=>?_)
 ·obtain⟨p,dx,pr,pq,x,z,as,ss,rs,i,rfl,_⟩:=h
  rfl
 ·obtain⟨p,dx,pr,pq,x,z,as,ss,rs,i,rfl,hp,Iv,cS,a9,wD,hi,hri,k⟩:=h;exists _,(aC (bP (i:=2) HS.nd (bD bY (aV (pv 0)) (pv 1))) (aK (bK (ke rfl HS.nd (gY (aV (pv 0))) (bz:=[("span",3)]) (gZ (show gz ["self","state","row","span"] (bg Nr) _ _=true by x_go)) (λ_ _ _ _ _=>(bU (i:=3) HS.nd)) (λ_ _ _ _ _=>i7) (λ_ _ _ _ _=>(bD (nE K) (pv 2) (pv 3)))))))
  rfl'
  obtain⟨b,hb⟩: ∃b,as[i]?=some b:=⟨_,eh (by rw[wD.len];exact hi)⟩
  have oH:=wD.at_ i b hb;exists _,rfl,p,_,dx,_,_,rfl,hp,T.d5,T.wz,yX,_,rfl,pr,_,_,V.ref b,rfl,rfl,aJ.of wD.af,bc (by lk);refine⟨_,rfl,p,_,dx,_,_,rfl,hp,T.d5,T.Ev,Ij,pq,rfl,⟨_,Iv.sq⟩,λD hD=>lN (K:=K) (a:=pq) (xs:=(BM.dU ss).map iv) (λj H5=>LI H5 D (((BM.dU ss).take j).map λs=>(rs.getD i []).getD s 0)/\al H H5) ⟨ao,al.new hD⟩ ?_ ?_ ?_⟩
  ·rintro j H5 _ ⟨_,s5⟩;exact(Iv.aA s5).sq
  ·rintro j x H5 hx ⟨bn,s5⟩;have hj:j<(BM.dU ss).length:=by
    have:=(gm.mp hx).1
    rwa[ax]at this
   rw[ca hj]at hx;obtain rfl:=(bv hx).symm;have sB:(BM.dU ss).getD j 0<(rs.getD i []).length:=by lk
   refine⟨rfl,ja ⟨_,rfl,_,rfl,b,_,_,iv ((rs.getD i []).getD ((BM.dU ss).getD j 0) 0),rfl,rfl,(oH.aA s5).sq,bc (ca sB),_,bn,?_,?_,λc o e=>?_⟩⟩
   ·rw[ax,ax,il];exact cz (by lia)
   ·show aa _ _ _ _=_;rw[ao,fJ hj,bI,bI,BM.cr hj];rfl
   ·rw[aw (aF e hD)];exact s5 _ _ e
  ·rintro H5 ⟨bn,s5⟩;rw[ax,fK,<-BM.K6 hri]at bn;exact k H5 D s5 bn hD
noncomputable def sN(ss:aj)(rs:aZ)(q:Nat)(cs:aj):Nat:=cs.foldl (λs c=>(rs.getD s []).getD ((BM.dU ss).getD c 0) 0) q
inductive Xs(C:ag)(vs:List V)(H:Hp)(Q:VK)(z4:XK):Prop|mk:∀p dx pr pt pq pw x as ss rs tk ws,vs=[.ref p,.ref pw]->H p=some (.aB C dx (iU x (.ref pr) (.ref pt) (.ref pq)))->LI H pq (BM.dU ss)->(BM.dU ss).length=256->(∀c,c<256->(BM.dU ss).getD c 0<ss.length)->cD H pr as rs->0<rs.length->(∀i,i<rs.length->(rs.getD i []).length=ss.length)->(∀i,i<rs.length-> ∀x∈rs.getD i [],x<rs.length)->LI H pt tk->tk.length=rs.length->LI H pw ws->(∀c∈ws,c<256)->Q (iv (tk.getD (sN ss rs 0 ws) 0)) H->Xs C vs H Q z4
def amo(T:cp K mg ad):bN P w K mg base bX 1 ad.CF ad.CH ["self","word"] (Xs ad.dB):=by
 refine T.ajf.ok HU (λvs H Q E h=>?_) (λbB A aY s H vs Q E hr h=>?_)
 ·obtain⟨p,dx,pr,pt,pq,pw,x,as,ss,rs,tk,ws,rfl,_⟩:=h
  rfl
 ·obtain⟨p,dx,pr,pt,pq,pw,x,as,ss,rs,tk,ws,rfl,hp,Iv,cS,a9,wD,mE,Xt,gI,hpt,jY,EH,Iw,k⟩:=h;exists _,(aC (bP (i:=2) HU.nd bm) (aC (ib eR rfl (gY (pv 1)) (bU (i:=3) HU.nd) (aK (bP (i:=2) HU.nd (bD bY (bD bY (aV (pv 0)) (pv 2)) (bD bY (aV (pv 0)) (pv 3)))))) (aK (bK (bD bY (aV (pv 0)) (pv 2))))))
  rfl'
  refine⟨_,rfl,pw,rfl,⟨_,EH.sq⟩,su (K:=K) (a:=pw) (xs:=ws.map iv) (λi σ H'=> ∃v3:Option V,σ=[some (.ref p),some (.ref pw),some (iv (sN ss rs 0 (ws.take i))),v3]/\H'=H/\sN ss rs 0 (ws.take i)<rs.length) ⟨none,rfl,rfl,mE⟩ ?_ ?_ ?_⟩
  ·rintro i σ H' _ ⟨_,_,rfl,_⟩;exact EH.sq
  ·rintro i x σ H' hx ⟨v3,rfl,rfl,bW⟩;have hi:i<ws.length:=by
    have:=(gm.mp hx).1
    rwa[ax]at this
   rw[ca hi]at hx;obtain rfl:=(bv hx).symm;have hc:ws.getD i 0<256:=Iw _ (BM.eU hi);have ny:=a9 _ hc;generalize hq:sN ss rs 0 (ws.take i)=q at bW;obtain⟨b,hb⟩: ∃b,as[q]?=some b:=⟨_,eh (by rw[wD.len];exact bW)⟩
   have oH:=wD.at_ q b hb;have Xu:(BM.dU ss).getD (ws.getD i 0) 0<(rs.getD q []).length:=by fin2
   exists _,rfl,p,_,dx,_,_,rfl,hp,T.d5,T.wz,yX,_,rfl,pr,_,_,V.ref b,rfl,rfl,aJ.of wD.af,bc (by lk);exists _,rfl,p,_,dx,_,_,rfl,hp,T.d5,T.Ev,Ij,_,rfl,pq,_,_,iv _,rfl,rfl,Iv.sq,bc (ca (by rw[cS];exact hc)),b,_,_,iv _,rfl,rfl,oH.sq,bc (ca Xu);have e:sN ss rs 0 (ws.take (i+1))=(rs.getD q []).getD ((BM.dU ss).getD (ws.getD i 0) 0) 0:=by
    unfold sN at hq⊢;rw[fJ hi,FI,hq,BM.cr hi];rfl
   refine⟨some (iv (ws.getD i 0)),?_,rfl,?_⟩
   ·rw[e];rfl
   ·rw[e];exact gI q bW _ (BM.eU Xu)
  ·rintro σ H' ⟨v3,rfl,rfl,bW⟩;rw[ax,fK]at bW;refine⟨_,rfl,p,_,dx,_,_,rfl,hp,T.d5,T.qT,sK,_,rfl,pt,_,_,iv (tk.getD (sN ss rs 0 ws) 0),rfl,?_,hpt.sq,bc (ca (by rw[jY];exact bW)),k⟩;rw[ax,fK];rfl
end
end Bp
namespace Bp
open PySem PySem.Spec PyProof.Rows L2
def c_(H:Hp)(b:ag):Prop:=(∃xs,H b=some (.af xs))\/ ∃C dx fs,H b=some (.aB C dx fs)
def Bs(S:ag->Prop)(H H':Hp):Prop:= ∀b o,¬S b->H b=some o->H' b=some o
def Xv(h:H b=none):¬c_ H b:=λz=>by
 rcases z with⟨_,z⟩|⟨_,_,_,z⟩<;>rw[h]at z<;>cases z
def Xw(h:H b=some (.aE xs)):¬c_ H b:=λz=>by
 rcases z with⟨_,z⟩|⟨_,_,_,z⟩<;>rw[h]at z<;>cases z
def c_.there(h:c_ H b): ∃o,H b=some o:=by
 rcases h with⟨_,z⟩|⟨_,_,_,z⟩
 ·exact⟨_,z⟩
 ·exact⟨_,z⟩
def LI.bs(h:LI H a ns)(s:Bs S H H')(n:¬S a):LI H' a ns:=s _ _ n h
def fu:Nat->aj->List (bR×V)
 |_,[]=>[]
 |n,m::r=>(bQ (m:Int),iv n)::fu (n+1) r
def Xx{m k:Nat}(h:¬m=k):¬(bQ (m:Int):bR)=bQ (k:Int):=λe=>h (by fin2)
theorem y8(m:Nat): ∀L n,cI (fu n L) (bQ (m:Int))=if m∈L then some (iv (n+L.idxOf m))else none
 |[],n=>by rw[if_neg (by simp)];rfl
 |k::L,n=>by
  by_cases e:k=m
  ·subst e;rw[fu,kf rfl,if_pos (eG ..),Ka,beq_self_eq_true];rfl
  ·rw[fu,i8 (Xx e),y8 m L (n+1),Ka,beq_false_of_ne e];fin2
theorem Og(m:Nat): ∀L n,fu n (L++[m])=fu n L++[(bQ (m:Int),iv (n+L.length))]
 |[],n=>rfl
 |k::L,n=>by
  rw[QE,fu,fu,Og m L (n+1),QE,nX,show n+1+L.length=n+(L.length+1)by lia]
theorem Oh: ∀L n,(fu n L).length=L.length
 |[],_=>rfl
 |k::L,n=>by rw[fu,nX,nX,Oh L]
section
variable{P:bj}{w:a_}{K:aP}{mg:Str->Option au}{base:Heap}{ad:Ad}
inductive Xy(C:ag)(vs:List V)(H:Hp)(Q:VK)(z4:XK):Prop|mk:∀p dx m,vs=[.ref p,iv m]->H p=some (.aB C dx [])->(∀H' pS pD pR,H' p=some (.aB C dx (km (.ref pS) (.ref pD) (.ref pR)))->LI H' pS [m]->H' pD=some (.dK (fu 0 [m]))->H' pR=some (.af [])->H pS=none->H pD=none->H pR=none->(∀b o,H b=some o->b≠p->H' b=some o)->Q .aX H')->Xy C vs H Q z4
def amp(T:cp K mg ad):bN P w K mg base bX 1 ad.Dg ad.Dh ["self","first"] (Xy ad.fY):=by
 refine T.ajF.ok aiq (λvs H Q E h=>?_) (λbB A aY s H vs Q E hr h=>?_)
 ·obtain⟨p,dx,m,rfl,_⟩:=h
  rfl
 ·obtain⟨p,dx,m,rfl,hp,k⟩:=h;have hu:=ki hr;exists _,(aC (eQ (pv 0) (cH (ak (pv 1) ay)) rfl) (aC (eQ (pv 0) (Mv (Mt (pv 1) bm Ms) rfl rfl (by simp) (by room)) rfl) (aK (eQ (pv 0) (cH ay) rfl))))
  rfl'
  refine⟨_,rfl,(cA rfl),λpS hS=>?_⟩;have a1:=al.new (o:=.af [iv m]) hS;have di:=a1 _ _ hp;have uB:(aa H pS (.af [iv m])) pS=some (.af [iv m]):=ao;generalize aa H pS (.af [iv m])=H1 at a1 di uB⊢;have nS:pS≠p:=λe=>by lk
  refine⟨_,rfl,p,_,dx,_,rfl,di,T.jc,T.wA,(by simp),λpD hD=>?_⟩;have a2: ∀b o,H1 b=some o->b≠p->aa H1 p (.aB ad.fY dx (aM "sets" (.ref pS) [])) b=some o:=λb o e hb=>by rw[aw hb];exact e
  have cC:aa H1 p (.aB ad.fY dx (aM "sets" (.ref pS) [])) p=some (.aB ad.fY dx (aM "sets" (.ref pS) [])):=ao;have wE:=a2 _ _ uB nS;generalize aa H1 p (.aB ad.fY dx (aM "sets" (.ref pS) []))=H2 at a2 cC wE hD⊢;have nD:pD≠p:=λe=>by lk
  have nDS:pD≠pS:=λe=>by lia
  have hD0:H pD=none:=by
   cases e:H pD with
   |none=>rfl
   |some o=>have:=a2 _ _ (a1 _ _ e) nD;rw[hD]at this;cases this
  exists _,rfl,ao,[(bQ (m:Int),.int 0)],rfl,(by show 1<=15;decide);rw[qB];have a3:=al.new (o:=.dK (mn [] [(bQ (m:Int),V.int 0)])) hD;have Ix:aa H2 pD (.dK (mn [] [(bQ (m:Int),V.int 0)])) pD=some (.dK (fu 0 [m])):=ao;have ii:=a3 _ _ cC;have Iy:=a3 _ _ wE;generalize aa H2 pD (.dK (mn [] [(bQ (m:Int),V.int 0)]))=H3 at a3 Ix ii Iy⊢;refine⟨_,rfl,p,_,dx,_,rfl,ii,T.jc,T.Ey,(by show 1<1000;decide),cX _,λpR hR=>?_⟩;have a4: ∀b o,H3 b=some o->b≠p->aa H3 p (.aB ad.fY dx (aM "places" (.ref pD) (aM "sets" (.ref pS) []))) b=some o:=λb o e hb=>by rw[aw hb];exact e
  have oI:aa H3 p (.aB ad.fY dx (aM "places" (.ref pD) (aM "sets" (.ref pS) []))) p=some (.aB ad.fY dx (aM "places" (.ref pD) (aM "sets" (.ref pS) []))):=ao;have Xz:=a4 _ _ Iy nS;have XA:=a4 _ _ Ix nD;generalize aa H3 p (.aB ad.fY dx (aM "places" (.ref pD) (aM "sets" (.ref pS) [])))=H4 at a4 oI Xz XA hR⊢;have nR:pR≠p:=λe=>by lk
  have hR0:H pR=none:=by
   cases e:H pR with
   |none=>rfl
   |some o=>have:=a4 _ _ (a3 _ _ (a2 _ _ (a1 _ _ e) nR)) nR;rw[hR]at this;cases this
  have a5:=al.new (o:=.af []) hR;exists _,rfl,p,_,dx,_,rfl,a5 _ _ oI,T.jc,T.Ez,y4;rw[ama];refine k _ pS pD pR ao ?_ ?_ ?_ hS hD0 hR0 λb o e hb=>?_
  ·show aa _ p _ pS=_;rw[aw nS];exact a5 _ _ Xz
  ·rw[aw nD];exact a5 _ _ XA
  ·rw[aw nR];exact ao
  ·rw[aw hb];exact a5 _ _ (a4 _ _ (a3 _ _ (a2 _ _ (a1 _ _ e) hb)) hb)
inductive XB(C:ag)(vs:List V)(H:Hp)(Q:VK)(z4:XK):Prop|mk:∀p dx pS pD z L m,vs=[.ref p,iv m]->H p=some (.aB C dx (km (.ref pS) (.ref pD) z))->LI H pS L->H pD=some (.dK (fu 0 L))->L.length<=1000000->(m∈L->Q (iv (L.idxOf m)) H)->(m∉L->Q (iv L.length) (aa (aa H pD (.dK (fu 0 (L++[m])))) pS (.af ((L++[m]).map iv))))->XB C vs H Q z4
def amq(T:cp K mg ad):bN P w K mg base bX 1 ad.Di ad.Dj ["self","members"] (XB ad.fY):=by
 refine T.ajH.ok air (λvs H Q E h=>?_) (λbB A aY s H vs Q E hr h=>?_)
 ·obtain⟨p,dx,pS,pD,z,L,m,rfl,_⟩:=h
  rfl
 ·obtain⟨p,dx,pS,pD,z,L,m,rfl,hp,hS,hD,hz,k1,k2⟩:=h;have hu:=ki hr;exists _,(aC (dF (ng (Mp hu (pv 1) (aV (pv 0)))) (aC (uh hu (aV (pv 0)) (pv 1) (d4 eX (by rfl) T.ee eI (ak (aV (pv 0)) ay)) rfl) (aK (ga (ic iB jJ j0 jy (aV (pv 0)) (ak (pv 1) ay))))) dE) (aK (bK (Bx hu (aV (pv 0)) (pv 1) (λ_ _=>rfl)))))
  rfl'
  have Iz:=bx hS hD (by intro q;cases q);have Oi:=bx hp hS (by intro q;cases q);have y9:=bx hp hD (by intro q;cases q);have ev:cI (fu 0 L) (bQ (m:Int))=if m∈L then some (iv (L.idxOf m))else none:=by rw[y8,tL]
  exists _,rfl,_,rfl,p,_,dx,_,_,rfl,hp,T.jc,T.Ey,Im,pD,_,rfl,iO.k (k:=bQ (m:Int)) hD,_,rfl;by_cases hm:m∈L
  ·rw[ev,if_pos hm];refine iR ?_;exact⟨_,rfl,p,_,dx,_,_,rfl,hp,T.jc,T.Ey,Im,_,rfl,pD,iv (L.idxOf m),rfl,by have:=iO.k (k:=bQ (m:Int)) hD;rwa[ev,if_pos hm]at this,k1 hm⟩
  ·rw[ev,if_neg hm];refine gA ?_;have EI:dI (fu 0 L) (bQ (m:Int)) (V.int (L.map iv).length)=fu 0 (L++[m]):=by
    rw[ue _ (by rw[ev,if_neg hm]),Og,ax,tL];rfl
   exists _,rfl,p,_,dx,_,_,rfl,hp,T.jc,T.wA,yZ,pS,_,rfl,.inl hS.sq,_,rfl,p,_,dx,_,_,rfl,hp,T.jc,T.Ey,Im,_,rfl,pD,_,rfl,mj.k (k:=bQ (m:Int)) hD (by rw[Oh];exact cz (by lia))
   rw[EI];have di:aa H pD (.dK (fu 0 (L++[m]))) p=some (.aB ad.fY dx (km (.ref pS) (.ref pD) z)):=by rw[aw y9];exact hp
   have uB:LI (aa H pD (.dK (fu 0 (L++[m])))) pS L:=by
    show aa _ _ _ pS=_;rw[aw Iz];exact hS
   refine⟨_,rfl,p,_,dx,_,_,rfl,di,T.jc,T.wA,yZ,.inl ⟨rfl,_,uB.sq⟩,_,rfl,pS,_,_,rfl,rfl,uB,by rw[ax];exact cz (by lia),?_⟩;have e2:(L.map iv++[iv m])=(L++[m]).map iv:=by simp
   rw[e2];have cC:aa (aa H pD (.dK (fu 0 (L++[m])))) pS (.af ((L++[m]).map iv)) p=some (.aB ad.fY dx (km (.ref pS) (.ref pD) z)):=by rw[aw Oi];exact di
   have qZ:aa (aa H pD (.dK (fu 0 (L++[m])))) pS (.af ((L++[m]).map iv)) pD=some (.dK (fu 0 (L++[m]))):=by rw[aw Iz.symm];exact ao
   refine⟨_,rfl,p,_,dx,_,_,rfl,cC,T.jc,T.Ey,Im,_,rfl,pD,iv L.length,rfl,?_,k2 hm⟩;have:=iO.k (k:=bQ (m:Int)) qZ;have e9:(L++[m]).idxOf m=L.length:=by rw[List.idxOf_append,if_neg hm];simp
   rw[y8,if_pos (by simp),tL,e9]at this;exact this
inductive XC(C:ag)(vs:List V)(H:Hp)(Q:VK)(z4:XK):Prop|mk:∀p dx pS y z L,vs=[.ref p]->H p=some (.aB C dx (km (.ref pS) y z))->LI H pS L->Q (.bl (decide (1024<L.length))) H->XC C vs H Q z4
def XD(T:cp K mg ad):bN P w K mg base bX 1 ad.Dk ad.Dl ["self"] (XC ad.fY):=by
 refine T.ajK.ok ais (λvs H Q E h=>?_) (λbB A aY s H vs Q E hr h=>?_)
 ·obtain⟨p,dx,pS,y,z,L,rfl,_⟩:=h
  rfl
 ·obtain⟨p,dx,pS,y,z,L,rfl,hp,hS,k⟩:=h;exists _,(aK (bK (Tr ua (d4 eX (by rfl) T.ee eI (ak (aV (pv 0)) ay)) (dD rfl T.akM) (dG _)))),_,rfl,p,_,dx,_,_,rfl,hp,T.jc,T.wA,yZ,pS,_,rfl,.inl hS.sq,_,_,rfl,rfl;have e:decide ((1024:Int)<((L.map iv).length:Nat))=decide (1024<L.length):=by
   fin2
  lk
end
structure uC(H:Hp)(a:ag)(ts:bp)(steps:List asP):Prop where
 af:H a=some (.af (ts.map V.ref))
 len:ts.length=steps.length
 at_: ∀(i:Nat)(t:ag)(x:asP),ts[i]?=some t->steps[i]?=some x->H t=some (.aE [iv x.a,iv x.low,iv x.high,iv x.b])
def uC.aA(h:uC H a ts steps)(s:al H H'):uC H' a ts steps:=⟨s _ _ h.af,h.len,λi t x e1 e2=>s _ _ (h.at_ i t x e1 e2)⟩
def kn(n:Nat):bR:=bQ (n:Int)
def Oj(h:kn m=kn n):m=n:=by have:=abP h;lia
def amr{k:bR}(h:k∉kvs.map (·.1)):cI kvs k=none:=by
 cases e:cI kvs k with
 |none=>rfl
 |some v=>exact(h (agf e)).elim
def XE(h:kvs.map (·.1)=ks.map kn):(dI kvs (kn n) v).map (·.1)=(BM.aB ks n).map kn:=by
 by_cases hn:n∈ks
 ·rw[BM.j6 hn,<-h];have Ol:(kvs.any λkv=>decide (kv.1=kn n))=true:=by
   rw[qJ]
   cases e:cI kvs (kn n)with
   |some v=>rfl
   |none=>exact(age e (by rw[h];exact xf hn)).elim
  unfold dI;rw[if_pos Ol,dy];apply fy;lia
 ·rw[BM.l0 hn,bI,<-h,ue]
  ·rw[bI];rfl
  ·apply amr;rw[h];intro q;obtain⟨m,hm,e⟩:=cQ.mp q;exact hn (Oj e▸hm)
def ams{ks:aj}{ns:List Int}(hp:ns.Perm (ks.map λ(n:Nat)=>(n:Int)))(hs:ns.Pairwise (·<= ·))(hn:ks.Nodup)(h0:0∈ks)(hl: ∀x∈ks,x<256):
  ∃ss:aj,ns.map V.int=(0::ss).map iv/\BM.fL (0::ss)/\ ∀x,x∈0::ss↔x∈ks:=by
 have qx: ∀z∈ns,∃n∈ks,z=(n:Int):=λz hz=>by
  fin2
 let ss:=ns.map lZ;have e1:ns=ss.map λ(n:Nat)=>(n:Int):=by
  rw[dy];conv=>lhs;rw[<-Al ns]
  apply fy;fin2
 have q_:ss.Perm ks:=by
  have:=hp.map lZ;rw[dy]at this;have e2:ks.map (lZ∘λn:Nat=>(n:Int))=ks:=by
   conv=>rhs;rw[<-Al ks]
   exact fy λn _=>by simp
  rwa[e2]at this
 have dL:=q_.nodup_iff.mpr hn
 have a9:ss.Pairwise (·< ·):=by
  have h1:ss.Pairwise (·<= ·):=by
   rw[e1,Qz]at hs
   lk
  exact(h1.and dL).imp λh=>Nat.lt_of_le_of_ne h.1 h.2
 cases iI:ss with
 |nil=>
  lk
 |cons a r=>
  have ha:a=0:=by
   have h:=q_.mem_iff.mpr h0
   rw[iI]at h a9
   rcases cO.mp h with h|h
   ·exact h.symm
   ·have:=(rM.mp a9).1 0 h
    lia
  subst ha
  refine⟨r,?_,⟨by rw[iI]at a9;exact a9,fun x hx=>?_⟩,λx=>?_⟩
  ·rw[e1,iI,dy];rfl
  ·rw[←iI]at hx
   exact hl x (q_.mem_iff.mp hx)
  ·rw[<-iI,q_.mem_iff]
section
variable{P:bj}{w:a_}{K:aP}{mg:Str->Option au}{base:Heap}{ad:Ad}
inductive XF(vs:List V)(H:Hp)(Q:VK)(z3:XK):Prop|mk:∀a ts steps,vs=[.ref a]->uC H a ts steps->(∀x∈steps,x.low<=x.high/\x.high<256)->(∀H' q ss,al H H'->H q=none->LI H' q (0::ss)->BM.fL (0::ss)->(∀x∈steps,x.low∈0::ss)->(∀x∈steps,x.high+1<256->x.high+1∈0::ss)->Q (.ref q) H')->XF vs H Q z3
def amt(T:cp K mg ad):bN P w K mg base bX 1 ad.D6 ad.D7 ["steps"] XF:=by
 refine T.WR.ok yL (λvs H Q E h=>?_) (λbB A aY s H vs Q E hr h=>?_)
 ·obtain⟨a,ts,steps,rfl,_⟩:=h
  rfl
 ·obtain⟨a,ts,steps,rfl,bW,hb,k⟩:=h;have hu:=ki hr;exists _,(aC (bP (i:=1) yL.nd (Mv (Mt bm GQ Ms) rfl rfl (by simp) (by room))) (aC (ib eR rfl (gY (pv 0)) (nh rfl (dt (bU (i:=2) yL.nd) (dt (bU (i:=3) yL.nd) (dt (bU (i:=4) yL.nd) (dt (bU (i:=5) yL.nd) jT))))) (aC (uh hu (pv 1) (pv 3) GQ rfl) (aK (dF (dY sv (df nu (pv 4) bm) (dD rfl T.Ie) (dG _)) (aK (uh hu (pv 1) (df nu (pv 4) bm) GQ rfl)) dE)))) (aK (bK (d4 (agK rfl) (by rfl) T.EC Q4 (ak (pv 1) ay))))))
  rfl'
  intro d hd;exists ao,[(bQ 0,.bl true)],rfl,(by show 1<=15;decide);rw[qB];have a1:=al.new (o:=.dK (mn [] [(bQ 0,.bl true)])) hd;have mx:aa H d (.dK (mn [] [(bQ 0,.bl true)])) d=some (.dK [(kn 0,.bl true)]):=ao;generalize aa H d (.dK (mn [] [(bQ 0,.bl true)]))=H1 at a1 mx⊢;refine⟨_,rfl,a,rfl,⟨_,aJ.of (a1 _ _ bW.af)⟩,su (K:=K) (a:=a) (xs:=ts.map V.ref) (λi σ H'=> ∃(v2 v3 v4 v5:Option V)(kvs:List (bR×V))(ks:aj),σ=[some (.ref a),some (.ref d),v2,v3,v4,v5]/\al H H'/\H' d=some (.dK kvs)/\kvs.map (·.1)=ks.map kn/\ks.Nodup/\0∈ks/\(∀x∈ks,x<256)/\∀j x,j<i->steps[j]?=some x->x.low∈ks/\(x.high+1<256->x.high+1∈ks)) ⟨none,none,none,none,_,[0],rfl,a1,mx,rfl,by simp,by simp,by simp,λj x hj=>by lia⟩ ?_ ?_ ?_⟩
  ·rintro i σ H' _ ⟨_,_,_,_,_,_,_,s2,_⟩;exact aJ.of (s2 _ _ bW.af)
  ·rintro i y σ H' hi ⟨v2,v3,v4,v5,kvs,ks,rfl,s2,jW,hk,dL,h0,hl,gI⟩;obtain⟨t,ht,rfl⟩: ∃t,ts[i]?=some t/\y=V.ref t:=by
    rw[gP]at hi
    cases e:ts[i]? with
    |none=>rw[e]at hi;cases hi
    |some t=>rw[e]at hi;exact⟨t,rfl,(bv hi).symm⟩
   obtain⟨x,hx⟩: ∃x,steps[i]?=some x:=⟨_,eh (by rw[<-bW.len];fin2)⟩
   have Om:x∈steps:=eF hx;obtain⟨MQ,qO⟩:=hb x Om;have oJ:kvs.length=ks.length:=by rw[<-ax (f:=λkv:bR×V=>kv.1),hk,ax]
   have cT:ks.length<=256:=BM.ip 256 ks dL hl;exists t,_,rfl,c8.of (s2 _ _ (bW.at_ i t x ht hx)),rfl,_,_,rfl,_,_,rfl,_,_,rfl,_,_,rfl,rfl;exists _,rfl,_,rfl,d,_,rfl,mj.k (k:=kn x.low) jW (by rw[oJ];exact cz (by lia));have s3: ∀b o,H b=some o->aa H' d (.dK (dI kvs (kn x.low) (.bl true))) b=some o:=λb o e=>by
    rw[aw (aF e hd)];exact s2 _ _ e
   have lm:aa H' d (.dK (dI kvs (kn x.low) (.bl true))) d=some (.dK (dI kvs (kn x.low) (.bl true))):=ao
   generalize aa H' d (.dK (dI kvs (kn x.low) (.bl true)))=H3 at s3 lm⊢
   have IA:=XE (n:=x.low) (v:=.bl true) hk
   generalize dI kvs (kn x.low) (.bl true)=amu at lm IA⊢
   have m3: ∀y,y∈BM.aB ks x.low↔y∈ks\/y=x.low:=λy=>BM.pj
   have y_:=BM.Gb (x:=x.low) dL
   have iS: ∀y∈BM.aB ks x.low,y<256:=λy hy=>by
    fin2
   have IB:amu.length=(BM.aB ks x.low).length:=by rw[<-ax (f:=λkv:bR×V=>kv.1),IA,ax]
   have atp:(BM.aB ks x.low).length<=256:=BM.ip 256 _ y_ iS
   exists _,rfl,_,_,rfl,rfl,_,_,rfl,rfl,_,rfl
   have done: ∀(za:aj),(∀y,y∈ks->y∈za)->x.low∈za->(x.high+1<256->x.high+1∈za)-> ∀j z,j<i+1->steps[j]?=some z->z.low∈za/\(z.high+1<256->z.high+1∈za):=λza h1 h2 h3 j z hj hz=>by
    fin2
   refine bq (λc=>?_) (λc=>?_)
   ·have c':x.high+1<256:=by
     fin2
    exists _,rfl,_,rfl,_,_,rfl,rfl,d,_,rfl,mj.k (k:=kn (x.high+1)) lm (by rw[IB];exact cz (by lia))
    refine⟨_,_,_,_,_,BM.aB (BM.aB ks x.low) (x.high+1),rfl,λb o e=>?_,ao,XE IA,BM.Gb y_,?_,?_,?_⟩
    ·rw[aw (aF e hd)];exact s3 _ _ e
    ·exact BM.pj.mpr (.inl ((m3 0).mpr (.inl h0)))
    ·intro y hy
     rcases BM.pj.mp hy with h|h
     ·exact iS y h
     ·rw[h];exact c'
    ·exact done _ (λy hy=>BM.pj.mpr (.inl ((m3 y).mpr (.inl hy)))) (BM.pj.mpr (.inl ((m3 _).mpr (.inr rfl)))) λ_=>BM.pj.mpr (.inr rfl)
   ·have c':¬x.high+1<256:=λq=>c (decide_eq_true (show((x.high:Nat):Int)+1<256 by lia))
    exact⟨_,_,_,_,_,BM.aB ks x.low,rfl,s3,lm,IA,y_,(m3 0).mpr (.inl h0),iS,done _ (λy hy=>(m3 y).mpr (.inl hy)) ((m3 _).mpr (.inr rfl)) λq=>(c' q).elim⟩
  ·rintro σ H' ⟨v2,v3,v4,v5,kvs,ks,rfl,s2,jW,hk,dL,h0,hl,gI⟩
   refine⟨_,rfl,d,kvs,ks.map (λ(n:Nat)=>(n:Int)),rfl,jW,by rw[hk,dy];rfl,λcK q hp hs hq=>?_⟩
   obtain⟨ss,e1,e2,e3⟩:=ams hp hs dL h0 hl
   have all: ∀x∈steps,x.low∈ks/\(x.high+1<256->x.high+1∈ks):=λx hx=>by
    obtain⟨j,hj,rfl⟩:=kD hx
    exact gI j _ (by rw[ax,bW.len];exact hj) (eh hj)
   refine k _ q ss (s2.trans (al.new hq)) (s2.free hq) ?_ e2 (λx hx=>(e3 _).mpr (all x hx).1) λx hx h=>(e3 _).mpr ((all x hx).2 h)
   show aa _ q _ q=_
   rw[ao,e1]
end
def On(x y:Nat):V.int (FN (x:Int) (y:Int))=iv (x|||y):=by
 rw[MG.agc (aby _) (aby _)];congr 2
def amv(b:Nat):(1:Int)*2^((b:Int).toNat)=((2^b:Nat):Int):=by
 simp
def amw{α:Type}{l:List α}{d x:α}(h:l[i]?=some x):l.getD i d=x:=by
 lk
def amx(m:Nat)(v:V):(cu m [v]).flatten=cu m v:=by
 induction m with
 |zero=>rfl
 |succ m ih=>rw[tF,xj,ih,tF];rfl
def Oo(m:Nat):(cu ((m:Int)).toNat [V.int 0]).flatten=(cu m 0).map iv:=by
 rw[jf,amx,ark];rfl
def amy{α:Type}{l:List α}{x:α}(h:l.Nodup)(hx:x∉l):(l++[x]).Nodup:=by
 rw[o6]
 exact⟨h,by simp,fun a ha b hb e=>hx (by rw[hZ]at hb;rw[←hb,←e];exact ha)⟩
def IC(h:j<n):nz n (j:Int)=some j:=by
 unfold nz;lk
def cD.put(R:cD H D as L)(dL:as.Nodup)(hD:D∉as)(hb:as[j]?=some b):
  cD (aa H b (.af (r.map iv))) D as (L.set j r):=by
 have hj:j<L.length:=by rw[<-R.len];fin2
 refine⟨?_,by rw[mN];exact R.len,λi c hc=>?_⟩
 ·rw[aw (λe:D=b=>hD (e▸eF hb))];exact R.af
 ·rw[BM.tU hj];by_cases e:j=i
  ·subst e;rw[hb]at hc;cases hc;rw[if_pos rfl];exact ao
  ·rw[if_neg e];show aa _ b _ c=_;rw[aw (λz:c=b=>e (agg dL hb (by lk)))];exact R.at_ i c hc
section
variable{P:bj}{w:a_}{K:aP}{mg:Str->Option au}{base:Heap}{ad:Ad}
inductive XG(vs:List V)(H:Hp)(Q:VK)(z3:XK):Prop|mk:∀n a q ts steps ss,vs=[iv n,.ref a,.ref q]->uC H a ts steps->LI H q ss->BM.fL ss->n<=64->(∀x∈steps,x.a<n/\x.b<n/\x.low∈ss/\(x.high+1=256\/x.high+1∈ss))->(∀H' pl as L,al H H'->H pl=none->cD H' pl as L->BM.rV steps ss n L->Q (.ref pl) H')->XG vs H Q z3
def amz(T:cp K mg ad):bN P w K mg base bX 1 ad.D8 ad.D9 ["size","steps","starts"] XG:=by
 refine T.WS.ok p6 (λvs H Q E h=>?_) (λbB A aY s H vs Q E hr h=>?_)
 ·grind[XG]
 ·obtain⟨n,a,q,ts,steps,ss,rfl,bW,hq,iI,hn,hx,k⟩:=h;have hu:=ki hr;exists _,(aC (bP (i:=3) p6.nd (Mv (Mt (dD rfl T.Ie) (d4 eX (by rfl) T.ee eI (ak (pv 2) ay)) Ms) rfl rfl (by simp) (by room))) (aC (ib eR rfl (qL rfl T.qV (ak (pv 2) ay)) (nh rfl (dt (bU (i:=4) p6.nd) (dt (bU (i:=5) p6.nd) jT))) (aK (uh hu (pv 3) (pv 5) (pv 4) rfl))) (aC (vV (i:=6) rfl p6.nd rfl rfl (vW rfl rfl rfl rfl) (Tc rfl T.yV (ak (pv 0) ay)) (bz:=[("state",11)]) (gZ (show gz ["size","steps","starts","spans","span","start","leads","source","low","high","target","state"] (bg NG) _ _=true by x_go)) (λ_ _ _ _ _=>(bU (i:=11) p6.nd)) (λ_ _ _ _ _=>i7) (λ_ _ _ _ _=>(df G_ (cH (ak bm ay)) (d4 (U0 K) (by rfl) T.ee eI (ak (pv 2) ay))))) (aC (ib eR rfl (gY (pv 1)) (nh rfl (dt (bU (i:=7) p6.nd) (dt (bU (i:=8) p6.nd) (dt (bU (i:=9) p6.nd) (dt (bU (i:=10) p6.nd) jT))))) (aK (ib eR rfl (aeF rfl T.yV (ak (Bx hu (pv 3) (pv 8) (λ_ _=>rfl)) (ak (Bx hu (pv 3) (df nu (pv 9) bm) (λ_ _=>rfl)) ay))) (bU (i:=4) p6.nd) (aK (aew (bD bY (pv 6) (pv 7)) (pv 4) agC (df Tg bm (pv 10)) (yx Tk) ye))))) (aK (bK (pv 6)))))))
  rfl'
  have cT:=BM.ip 256 ss (iI.1.imp λh=>d7 h) iI.2;intro d hd;refine⟨_,rfl,q,_,rfl,.inl (hq.aA (al.new hd)).sq,ao,[(kn 256,iv ss.length)],?_,(by show 1<=15;decide),?_⟩
  ·rw[ax];rfl
  rw[qB];have a1:=al.new (o:=.dK (mn [] [(kn 256,iv ss.length)])) hd;have mx:aa H d (.dK (mn [] [(kn 256,iv ss.length)])) d=some (.dK [(kn 256,iv ss.length)]):=ao;generalize aa H d (.dK (mn [] [(kn 256,iv ss.length)]))=H1 at a1 mx⊢;refine⟨_,rfl,q,_,rfl,(hq.aA a1).sq,uq (K:=K) (a:=q) (xs:=ss.map iv) (λi σ H'=> ∃(v4 v5:Option V)(kvs:List (bR×V)),σ=[some (iv n),some (.ref a),some (.ref q),some (.ref d),v4,v5,none,none,none,none,none,none]/\al H H'/\H' d=some (.dK kvs)/\kvs.length<=i+1/\cI kvs (kn 256)=some (iv ss.length)/\ ∀j x,j<i->ss[j]?=some x->cI kvs (kn x)=some (iv j)) ⟨none,none,_,rfl,a1,mx,by simp,rfl,λj x hj=>by lia⟩ ?_ ?_ ?_⟩
  ·rintro i σ H' _ ⟨_,_,_,_,s2,_⟩;exact(hq.aA s2).sq
  ·rintro i y Tt σ H' hi ⟨v4,v5,kvs,rfl,s2,jW,hl,hv,hj⟩ gj;have g7:i<ss.length:=by
    fin2
   rw[ca g7]at hi;obtain rfl:=(bv hi).symm;have Om:ss.getD i 0∈ss:=BM.eU g7;have atq:=iI.2 _ Om;exists Tt,_,rfl,c8.of ao,rfl,_,_,rfl,_,_,rfl,rfl;have s3:=al.new (o:=.aE [V.int (i:Nat),iv (ss.getD i 0)]) gj;exists _,rfl,_,rfl,_,rfl,d,_,rfl,mj.k (k:=kn (ss.getD i 0)) (s3 _ _ jW) (cz (by lia));refine⟨_,_,_,rfl,λb o e=>?_,ao,?_,?_,λj x uD XH=>?_⟩
   ·rw[aw (aF e hd)];exact s3 _ _ (s2 _ _ e)
   ·have:=vX kvs (kn (ss.getD i 0)) (V.int (i:Nat));lia
   ·rw[Mi,if_neg]
    ·exact hv
    ·intro e;have:=Oj e;lia
   ·rw[Mi];by_cases e:j=i
    ·subst e;rw[amw XH,if_pos rfl];rfl
    ·have wg:=(gm.mp XH)
     rw[if_neg]
     ·fin2
     ·intro e2;have e3:=Oj e2;obtain⟨hj1,sO⟩:=wg;have mono:=Fz.mp iI.1 j i hj1 g7 (by lia);lk
  ·rintro σ H' ⟨v4,v5,kvs,rfl,s2,jW,hl,hv,hj⟩;rw[ax]at hj hl;refine⟨_,rfl,_,rfl,by lia,by lia,λD hD=>afG (lo:=0) (n:=n)
    (λi H2=> ∃as:bp,H2 D=some (.af (as.map V.ref))/\as.length=i/\as.Nodup/\D∉as/\(∀b∈as,LI H2 b (cu ss.length 0)/\H' b=none)/\al H' H2)
    ⟨[],ao,rfl,by simp,by simp,by simp,al.new hD⟩ ?_ ?_⟩
   ·rintro i H2 hi ⟨as,qZ,uv,dL,Op,gU,s3⟩;refine⟨rfl,ja ?_⟩;refine⟨(cA rfl),λl hl=>?_⟩;have s4:=al.new (o:=.af [V.int 0]) hl;refine⟨_,rfl,q,_,rfl,.inl (hq.aA ((s2.trans s3).trans s4)).sq,l,_,_,rfl,rfl,ao,by lia,by fin2,by rw[ax];exact kr (by show 1*_<=_;lia),λr hr=>?_⟩;rw[ax,Oo];have s5:=al.new (o:=.af ((cu ss.length 0).map iv)) hr;have bn:=s5 _ _ (s4 _ _ qZ);have ra:LI (aa (aa H2 l (.af [V.int 0])) r (.af ((cu ss.length 0).map iv))) r (cu ss.length 0):=ao;have hrD:r≠D:=λe=>by rw[e,s4 _ _ qZ]at hr;cases hr
    have hra:r∉as:=λe=>by have:=s4 _ _ (gU r e).1;lk
    have hrH:H' r=none:=(s3.trans s4).free hr;refine⟨_,bn,by rw[ax,uv];exact cz (by lia),as++[r],?_,by lk,amy dL hra,?_,λb hb=>?_,λb o e=>?_⟩
    ·rw[ao,bI];rfl
    ·fin2
    ·rcases cN.mp hb with hb|hb
     ·refine⟨?_,(gU b hb).2⟩;show aa _ D _ b=_;rw[aw (λe:b=D=>Op (e▸hb))];exact s5 _ _ (s4 _ _ (gU b hb).1)
     ·rw[hZ.mp hb];refine⟨?_,hrH⟩;show aa _ D _ r=_;rw[aw hrD];exact ra
    ·rw[aw (aF e hD)];exact s5 _ _ (s4 _ _ (s3 _ _ e))
   ·rintro H2 ⟨as,qZ,uv,dL,Op,gU,s3⟩;have lm:=s3 _ _ jW;have rc:d∉as:=λe=>by have:=(gU d e).1;rw[LI,lm]at this;cases this
    have Bj:d≠D:=λe=>by lk
    have XI: ∀c,c=256\/c∈ss->cI kvs (kn c)=some (iv (BM.f8 ss c)):=λc hc=>by
     unfold BM.f8;fin2
    refine⟨_,rfl,a,rfl,⟨_,aJ.of ((s2.trans s3) _ _ bW.af)⟩,su (K:=K) (a:=a) (xs:=ts.map V.ref) (λi σ H4=> ∃(v4 v7 v8 v9 nI:Option V)(L:aZ),σ=[some (iv n),some (.ref a),some (.ref q),some (.ref d),v4,v5,some (.ref D),v7,v8,v9,nI,none]/\al H H4/\H4 d=some (.dK kvs)/\cD H4 D as L/\BM.rV (steps.take i) ss n L) ⟨_,_,_,_,_,cu n (cu ss.length 0),rfl,s2.trans s3,lm,⟨qZ,by rw[uv];simp,λi b e=>?_⟩,BM.rV.nil ss n⟩ ?_ ?_ ?_⟩
    ·fin2
    ·rintro i σ H4 _ ⟨_,_,_,_,_,_,_,s4,_⟩;exact aJ.of (s4 _ _ bW.af)
    ·rintro i y σ H4 hi ⟨ID,v7,v8,v9,nI,L,rfl,s4,sQ,hR,hL⟩;obtain⟨t,ht,rfl⟩: ∃t,ts[i]?=some t/\y=V.ref t:=by
      rw[gP]at hi
      cases e:ts[i]? with
      |none=>rw[e]at hi;cases hi
      |some t=>rw[e]at hi;exact⟨t,rfl,(bv hi).symm⟩
     have g7:i<steps.length:=by rw[<-bW.len];fin2
     obtain⟨x,Oq⟩: ∃x,steps[i]?=some x:=⟨_,eh g7⟩
     obtain⟨IE,hxb,qz,XJ⟩:=hx x (eF Oq);have atr:=iI.2 _ qz;have SI:=BM.ade iI qz XJ;exists t,_,rfl,c8.of (s4 _ _ (bW.at_ i t x ht Oq)),rfl,_,_,rfl,_,_,rfl,_,_,rfl,_,_,rfl,rfl;have hlo:BM.f8 ss x.low<=ss.length:=by
      unfold BM.f8;split
      ·exact aW _
      ·fin2
     refine⟨_,rfl,_,rfl,d,iv (BM.f8 ss x.low),rfl,?_,_,rfl,_,rfl,_,_,rfl,rfl,d,iv (BM.f8 ss (x.high+1)),rfl,?_,_,_,rfl,⟨by lia,by lia,by lia,by have:=SI.le;lia⟩,?_⟩
     ·have:=iO.k (k:=kn x.low) sQ;rw[XI _ (.inr qz)]at this;exact this
     ·have:=iO.k (k:=kn (x.high+1)) sQ;rw[XI _ XJ]at this;exact this
     obtain⟨b,hb⟩: ∃b,as[x.a]?=some b:=⟨_,eh (by rw[uv];exact IE)⟩
     have XM:=eF hb;have hbH:H b=none:=s2.free (gU b XM).2;have nv:d≠b:=λe=>rc (e▸XM);have XN:x.a<L.length:=by rw[hL.1];exact IE
     have IF:(L.getD x.a []).length=ss.length:=hL.2.1 _ IE;refine Tf (lo:=(BM.f8 ss x.low:Int)) (n:=(((BM.f8 ss (x.high+1):Nat):Int)-((BM.f8 ss x.low:Nat):Int)).toNat)
      (λm σ H5=> ∃v4:Option V,σ=[some (iv n),some (.ref a),some (.ref q),some (.ref d),v4,v5,some (.ref D),some (iv x.a),some (iv x.low),some (iv x.high),some (iv x.b),none]/\al H H5/\H5 d=some (.dK kvs)/\cD H5 D as (L.set x.a (BM.oh (L.getD x.a []) (BM.f8 ss x.low) (2^x.b) m)))
      ⟨_,rfl,s4,sQ,?_⟩ ?_ ?_
     ·rw[BM.oh,BM.cr XN,JV];exact hR
     ·rintro m σ H5 hm ⟨v4,rfl,s5,nJ,EJ⟩;have XO:BM.f8 ss x.low+m<ss.length:=by have:=SI.le;lia
      have EK:=EJ.at_ x.a b hb;rw[BM.tU XN,if_pos rfl]at EK;have sH:=BM.Gv (L.getD x.a []) (BM.f8 ss x.low) (2^x.b) m;rw[IF]at sH;have wF:((BM.f8 ss x.low:Nat):Int)+(m:Int)=((BM.f8 ss x.low+m:Nat):Int):=by lia
      have amA:qI ((BM.oh (L.getD x.a []) (BM.f8 ss x.low) (2^x.b) m).map iv) (((BM.f8 ss x.low:Nat):Int)+(m:Int))=some (iv ((BM.oh (L.getD x.a []) (BM.f8 ss x.low) (2^x.b) m).getD (BM.f8 ss x.low+m) 0)):=by
       rw[wF];exact bc (ca (by rw[sH];exact XO))
      refine⟨_,rfl,_,rfl,D,_,_,V.ref b,rfl,rfl,aJ.of EJ.af,bc (by lk),_,rfl,b,_,_,_,rfl,rfl,EK.sq,amA,_,rfl,_,_,rfl,rfl,⟨by lia,by lia,by room⟩,_,_,rfl,rfl,b,_,_,BM.f8 ss x.low+m,rfl,rfl,EK,?_,?_⟩
      ·rw[wF,ax,sH];exact IC XO
      ·dsimp only;rw[amv,On,<-Ai];refine⟨_,rfl,λc o e=>?_,?_,?_⟩
       ·rw[aw (aF e hbH)];exact s5 _ _ e
       ·rw[aw nv];exact nJ
       ·have:=EJ.put dL Op hb (r:=BM.oh (L.getD x.a []) (BM.f8 ss x.low) (2^x.b) (m+1));rw[asz]at this;exact this
     ·rintro σ H5 ⟨v4,rfl,s5,nJ,EJ⟩;exists _,_,_,_,_,_,rfl,s5,nJ,EJ;rw[show steps.take (i+1)=steps.take i++[x]from by rw[fJ g7,(gm.mp Oq).2]];have:=hL.step SI IE;lk
    ·rintro σ H4 ⟨ID,v7,v8,v9,nI,L,rfl,s4,sQ,hR,hL⟩;exists _,rfl;rw[ax,bW.len,fK]at hL;exact k H4 D as L s4 (s2.free hD) hR hL
end
def amB(m i:Nat):decide (V.int (QL ((m:Int)/2^((i:Int).toNat)) 1)=V.int 1)=m.testBit i:=by
 have h1:QL ((m:Int)/2^((i:Int).toNat)) 1=(((m/2^i%2:Nat)):Int):=by
  have e:(m:Int)/2^((i:Int).toNat)=((m/2^i:Nat):Int):=by
   simp
  have:=MG.agb (x:=((m/2^i:Nat):Int)) 1 (aby _);assumption
 fin2
def amC(h:j<(BM.jn r l).length):(BM.jn r l)[j]=r.getD j 0|||l.getD j 0:=by
 have h0:j<r.length/\j<l.length:=by
  unfold BM.jn at h;fin2
 have e:(BM.jn r l)[j]=r[j]'h0.1|||l[j]'h0.2:=by simp[BM.jn]
 lk
section
variable{P:bj}{w:a_}{K:aP}{mg:Str->Option au}{base:Heap}{ad:Ad}
inductive XQ(vs:List V)(H:Hp)(Q:VK)(z3:XK):Prop|mk:∀m W pl as L,vs=[iv m,.ref pl,iv W]->cD H pl as L->(∀s,s<L.length->(L.getD s []).length=W)->W<=256->L.length<=64->(∀H' q r,al H H'->H q=none->LI H' q r->BM.mV m L.length L W r->Q (.ref q) H')->XQ vs H Q z3
def amD(T:cp K mg ad):bN P w K mg base bX 1 ad.D_ ad.Ea ["members","leads","width"] XQ:=by
 refine T.WT.ok wu (λvs H Q E h=>?_) (λbB A aY s H vs Q E hr h=>?_)
 ·obtain⟨m,W,pl,as,L,rfl,_⟩:=h
  rfl
 ·obtain⟨m,W,pl,as,L,rfl,hR,IF,hW,hLn,k⟩:=h;exists _,(aC (bP (i:=3) wu.nd (df G_ (cH (ak bm ay)) (pv 2))) (aC (ib eR rfl (qL rfl T.qV (ak (pv 1) ay)) (nh rfl (dt (bU (i:=4) wu.nd) (dt (bU (i:=5) wu.nd) jT))) (aK (dF (dY me (df Th (df aeK (pv 0) (pv 4)) bm) bm (dG _)) (aK (vV (i:=3) rfl wu.nd rfl rfl (vW rfl rfl rfl rfl) (UF rfl T.Ig (ak (pv 3) (ak (pv 5) ay))) (bz:=[("one",6),("other",7)]) (gZ (show gz ["members","leads","width","joined","state","lead","one","other"] (bg NH) _ _=true by x_go)) (λ_ _ _ _ _=>(yB (n:=2) K rfl (dt (bU (i:=6) wu.nd) (dt (bU (i:=7) wu.nd) jT)))) (λ_ _ _ _ _=>i7) (λ_ _ _ _ _=>(df aeL (pv 6) (pv 7))))) dE))) (aK (bK (pv 3)))))
  rfl'
  refine⟨(cA rfl),λl hl=>?_⟩;have s1:=al.new (o:=.af [V.int 0]) hl;refine⟨_,rfl,l,_,_,rfl,rfl,ao,by lia,by lia,kr (by show 1*_<=_;lia),λq0 XR=>?_⟩;rw[Oo];have s2:=al.new (o:=.af ((cu W 0).map iv)) XR;have gB:LI (aa (aa H l (.af [V.int 0])) q0 (.af ((cu W 0).map iv))) q0 (cu W 0):=ao;have amE:=s1.free XR;have dQ:=s1.trans s2;generalize aa (aa H l (.af [V.int 0])) q0 (.af ((cu W 0).map iv))=H2 at s2 gB dQ⊢;refine⟨_,rfl,pl,_,rfl,aJ.of (dQ _ _ hR.af),uq (K:=K) (a:=pl) (xs:=as.map V.ref) (λi σ H'=> ∃(v4 v5:Option V)(q:ag)(r:aj),σ=[some (iv m),some (.ref pl),some (iv W),some (.ref q),v4,v5,none,none]/\al H H'/\H q=none/\LI H' q r/\BM.mV m i L W r) ⟨none,none,q0,_,rfl,dQ,amE,gB,BM.mV.zero m L W⟩ ?_ ?_ ?_⟩
  ·rintro i σ H' _ ⟨_,_,_,_,_,s3,_⟩;exact aJ.of (s3 _ _ hR.af)
  ·rintro i y Tt σ H' hi ⟨v4,v5,q,r,rfl,s3,fq,hq,hJ⟩ gj;obtain⟨b,hb,rfl⟩: ∃b,as[i]?=some b/\y=V.ref b:=by
    rw[gP]at hi
    cases e:as[i]? with
    |none=>rw[e]at hi;cases hi
    |some t=>rw[e]at hi;exact⟨t,rfl,(bv hi).symm⟩
   have g7:i<L.length:=by rw[<-hR.len];fin2
   have s4:=al.new (o:=.aE [V.int (i:Nat),V.ref b]) gj;exists Tt,_,rfl,c8.of ao,rfl,_,_,rfl,_,_,rfl,rfl,_,rfl,_,rfl,_,_,rfl,rfl,by lia,_,_,rfl,rfl,rfl,_,rfl;have eb:=amB m i;refine bq (λc=>?_) (λc=>?_)
   ·have Os:m.testBit i=true:=by rw[<-eb];exact c
    have oH:=(hR.at_ i b hb).aA (s3.trans s4);have qR:=hq.aA s4;have EL:=hJ.1;have Ot:=IF i g7
    refine⟨_,rfl,_,rfl,q,b,_,_,rfl,qR.sq,oH.sq,λD hD=>UZ (K:=K) (a:=q) (b:=b) (xs:=r.map iv) (ys:=(L.getD i []).map iv) (by fin2) (λj H5=>LI H5 D ((BM.jn r (L.getD i [])).take j)/\al (aa H' Tt (.aE [V.int (i:Nat),V.ref b])) H5) ⟨ao,al.new hD⟩ ?_ ?_ ?_⟩
    ·rintro j H5 _ ⟨_,s5⟩
     exact⟨(qR.aA s5).sq,(oH.aA s5).sq⟩
    ·rintro j x y T2 H5 hx hy ⟨bn,s5⟩ kg
     have hj:j<r.length:=by
      have:=(gm.mp hx).1
      rwa[ax]at this
     rw[ca hj]at hx
     rw[ca (by rw[Ot,←EL];exact hj)]at hy
     obtain rfl:=(bv hx).symm
     obtain rfl:=(bv hy).symm
     refine⟨T2,_,rfl,c8.of ao,rfl,_,_,rfl,_,_,rfl,rfl,rfl,ja ?_⟩
     have s6:=al.new (o:=.aE [iv (r.getD j 0),iv ((L.getD i []).getD j 0)]) kg
     refine⟨_,rfl,_,rfl,_,_,rfl,rfl,_,bn.aA s6,?_,?_,λc o e=>?_⟩
     ·rw[ax,il]
      have IG:(BM.jn r (L.getD i [])).length=W:=by unfold BM.jn;lk
      exact cz (by lia)
     ·show aa _ D _ D=_
      have IG:j<(BM.jn r (L.getD i [])).length:=by unfold BM.jn;lk
      rw[ao,fJ IG,bI]
      congr 3
      show[V.int (FN _ _)]=[iv _]
      rw[On,amC]
     ·rw[aw (aF e hD)]
      exact s6 _ _ (s5 _ _ e)
    ·rintro H5 ⟨bn,s5⟩
     have IG:(BM.jn r (L.getD i [])).length=W:=by unfold BM.jn;fin2
     rw[ax,EL,<-IG,fK]at bn
     exact⟨_,_,D,_,rfl,(s3.trans s4).trans s5,(s3.trans s4).free hD,bn,hJ.take Os Ot⟩
   ·have Os:m.testBit i=false:=by
     lk
    exact⟨_,_,q,r,rfl,s3.trans s4,fq,hq.aA s4,hJ.skip Os⟩
  ·rintro σ H' ⟨v4,v5,q,r,rfl,s3,fq,hq,hJ⟩
   exists _,rfl
   rw[ax,hR.len]at hJ
   exact k H' q r s3 fq hq hJ
inductive amF(C:ag)(vs:List V)(H:Hp)(Q:VK)(z4:XK):Prop|mk:∀d a q ts ss,vs=[iv d.takes.length,.ref a,.ref q]->uC H a ts d.steps->LI H q (0::ss)->BM.rS d ss->ab_ d->d.takes.length<=64->(∀H' p dx pS pR y as i L rs,al H H'->H' p=some (.aB C dx (km (.ref pS) y (.ref pR)))->LI H' pS L->cD H' pR as rs->BM.kW d ss i L rs->(1024<L.length\/(i=L.length/\L.length<=1024))->Q (.ref p) H')->amF C vs H Q z4
structure lp(C:ag)(H2 H:Hp)(p dx pS pD pR:ag)(as:bp)(L:aj)(rs:aZ):Prop where
 obj:H p=some (.aB C dx (km (.ref pS) (.ref pD) (.ref pR)))
 oK:LI H pS L
 p_:H pD=some (.dK (fu 0 L))
 rows:cD H pR as rs
 aA:al H2 H
 fS:H2 pS=none
 fD:H2 pD=none
 fR:H2 pR=none
 nS:pS∉as
 uE:pS≠pR
def qa(h:aa H p o b=none):H b=none:=by
 by_cases e:b=p
 ·rw[e,ao]at h;cases h
 ·rwa[aw e]at h
def lp.to(h:lp C H2 H p dx pS pD pR as L rs)(s:al H H'):lp C H2 H' p dx pS pD pR as L rs:=
 ⟨s _ _ h.obj,h.oK.aA s,s _ _ h.p_,h.rows.aA s,h.aA.trans s,h.fS,h.fD,h.fR,h.nS,h.uE⟩
def lp.add(h:lp C H2 H p dx pS pD pR as L rs)(m:Nat):
  lp C H2 (aa (aa H pD (.dK (fu 0 (L++[m])))) pS (.af ((L++[m]).map iv))) p dx pS pD pR as (L++[m]) rs:=by
 have Iz:=bx h.oK h.p_ (by intro q;cases q);have Oi:=bx h.obj h.oK (by intro q;cases q);have y9:=bx h.obj h.p_ (by intro q;cases q);have nRD:=bx h.rows.af h.p_ (by intro q;cases q);refine⟨?_,ao,?_,⟨?_,h.rows.len,λi b e=>?_⟩,λb o e=>?_,h.fS,h.fD,h.fR,h.nS,h.uE⟩
 ·rw[aw Oi,aw y9];exact h.obj
 ·rw[aw Iz.symm];exact ao
 ·rw[aw h.uE.symm,aw nRD];exact h.rows.af
 ·show aa _ _ _ b=_;have hb:=h.rows.at_ i b e;rw[aw (λq:b=pS=>h.nS (q▸eF e)),aw (bx hb h.p_ (by intro q;cases q))];exact hb
 ·rw[aw (aF e h.fS),aw (aF e h.fD)];exact h.aA _ _ e
def lp.wr(h:lp C H2 H p dx pS pD pR as L rs)(n1:D≠p)(n2:D≠pS)(n3:D≠pD)(n4:D≠pR)(n5:D∉as)(hD:H2 D=none):lp C H2 (aa H D o) p dx pS pD pR as L rs:=by
 refine⟨?_,?_,?_,⟨?_,h.rows.len,λi b e=>?_⟩,λb u e=>?_,h.fS,h.fD,h.fR,h.nS,h.uE⟩
 ·rw[aw n1.symm];exact h.obj
 ·show aa _ _ _ pS=_;rw[aw n2.symm];exact h.oK
 ·rw[aw n3.symm];exact h.p_
 ·rw[aw n4.symm];exact h.rows.af
 ·show aa _ _ _ b=_;rw[aw (λq:b=D=>n5 (q▸eF e))];exact h.rows.at_ i b e
 ·rw[aw (aF e hD)];exact h.aA _ _ e
def cD.fresh(h:cD H a as rs)(hD:H D=none):D∉as:=λq=>by
 obtain⟨i,hi⟩:=aba.mp q;have:=h.at_ i D hi;unfold LI at this;rw[hD]at this;cases this
def XS{ns:aj}(h:as≠[]):as.map V.ref≠ns.map iv:=by
 cases as with
 |nil=>exact absurd rfl h
 |cons a r=>
  cases ns with
  |nil=>intro q;cases q
  |cons n t=>intro q;cases q
def cD.push(h:cD H a as rs)(hb:LI H b r)(n:a≠b):cD (aa H a (.af (as.map V.ref++[V.ref b]))) a (as++[b]) (rs++[r]):=by
 refine⟨by rw[ao,bI];rfl,by rw[dS,dS,h.len];rfl,λi c e=>?_⟩;show aa _ _ _ c=_;by_cases hi:i<as.length
 ·rw[FB hi]at e;have hc:=h.at_ i c e;have nc:c≠a:=λq=>by
   rw[q]at hc;have e2:=h.af.symm.trans hc;have ne:as≠[]:=by fin2
   exact XS ne (HO.af.inj (bv e2))
  rw[aw nc];have:(rs++[r]).getD i []=rs.getD i []:=by
   rw[xb,xb,FB (by rw[<-h.len];exact hi)]
  rw[this];exact hc
 ·have a9:=(gm.mp e).1;have:i=as.length:=by simp at a9;lia
  subst this;simp at e;subst e;rw[aw n.symm];have:(rs++[r]).getD as.length []=r:=by
   rw[h.len,xb,JO (aW _)];simp
  rw[this];exact hb
def lp.push(h:lp C H2 H p dx pS pD pR as L rs)(hb:LI H b r)(n:pR≠b)(n':pS≠b):
  lp C H2 (aa H pR (.af (as.map V.ref++[V.ref b]))) p dx pS pD pR (as++[b]) L (rs++[r]):=by
 refine⟨?_,?_,?_,h.rows.push hb n,λb o e=>?_,h.fS,h.fD,h.fR,?_,h.uE⟩
 ·rw[aw (bx h.obj h.rows.af (by intro q;cases q))];exact h.obj
 ·show aa _ _ _ pS=_;rw[aw h.uE];exact h.oK
 ·rw[aw (bx h.p_ h.rows.af (by intro q;cases q))];exact h.p_
 ·rw[aw (aF e h.fR)];exact h.aA _ _ e
 ·intro q;rcases cN.mp q with q|q
  ·exact h.nS q
  ·lk
def amG(T:cp K mg ad):bN P w K mg base bX 3 ad.Eb ad.Ec ["size","steps","starts"] (amF ad.fY):=by
 refine T.WU.ok yM (λvs H Q E h=>?_) (λbB A aY s H vs Q E hr h=>?_)
 ·obtain⟨d,a,q,ts,ss,rfl,_⟩:=h;rfl
 ·obtain⟨d,a,q,ts,ss,rfl,bW,hq,lR,hG,hn,k⟩:=h;have hu:=ki hr;exists _,(aC (bP (i:=3) yM.nd (gy (amz T) hr.m rfl T.aks T.WS.kp T.akr .nil bE (ak (pv 0) (ak (pv 1) (ak (pv 2) ay))))) (aC (bP (i:=4) yM.nd (vN T.aiU (amp T) hr.m rfl T.aiV T.ajG .nil bE (ak (U1 (dY ua (pv 0) bm (dG _))) ay))) (aC (pN eR (PW.pt (GU (dY sv (d4 eX (by rfl) T.ee eI (ak (aV (pv 4)) ay)) (d4 eX (by rfl) T.ee eI (ak (aV (pv 4)) ay)) (dG _)) (LA (vD (A8 (mh (pv 4) T.jc T.WA (XD T) hr.m T.Wz .nil bE)))))) (aC (bP (i:=5) yM.nd (gy (amD T) hr.m rfl T.aku T.WT.kp T.akt .nil bE (ak (bD bY (aV (pv 4)) (d4 eX (by rfl) T.ee eI (ak (aV (pv 4)) ay))) (ak (pv 3) (ak (d4 eX (by rfl) T.ee eI (ak (pv 2) ay)) ay))))) (aK (ga (ic iB jJ j0 jy (aV (pv 4)) (ak (ke rfl yM.nd (gY (pv 5)) (bz:=[("members",6)]) (gZ (show gz ["size","steps","starts","leads","reached","lead","members"] (bg NI) _ _=true by x_go)) (λ_ _ _ _ _=>(bU (i:=6) yM.nd)) (λ_ _ _ _ _=>i7) (λ_ _ _ _ _=>(e_ (pv 4) T.jc T.ajJ (amq T) hr.m T.ajI .nil bE (ak (pv 6) ay)))) ay)))))) (aK (bK (pv 4))))))
  rfl'
  have cT:(0::ss).length<=256:=BM.ip 256 _ (lR.st.1.imp λh=>d7 h) lR.st.2;refine⟨_,rfl,_,rfl,_,rfl,d.takes.length,a,q,ts,d.steps,0::ss,rfl,bW,hq,lR.st,hn,λx hx=>?_,λH1 pl las Ls s1 ats hRl wG=>?_⟩
  ·have g:=hG x hx;exists g.1,g.2.1,lR.low x hx;by_cases e:x.high+1=256
   ·exact .inl e
   ·exact .inr (lR.high x hx (by lia))
  have amH:(if decide ((0:Int)<((d.takes.length:Nat):Int))=true then(1:Int)else 0)=(((if d.takes=[]then 0 else 1:Nat)):Int):=by
   by_cases e:d.takes=[]
   ·lk
   ·lk
  exists _,rfl,_,_,rfl,rfl,_,rfl;intro p dx hp re hne;refine⟨p,dx,if d.takes=[]then 0 else 1,by show[V.ref p,V.int _]=[V.ref p,V.int _];rw[amH],ao,λH3 pS pD pR o3 l3 d3 r3 fS fD fR s3=>⟨rfl,?_⟩⟩;have sm:al H1 H3:=al.made hp re s3;have uE:pS≠pR:=bx l3 r3 (by intro q;cases q);have R0:lp ad.fY H1 H3 p dx pS pD pR [] [if d.takes=[]then 0 else 1] []:=
   ⟨o3,l3,d3,⟨r3,rfl,λi b e=>by simp at e⟩,sm,qa (qa fS),qa (qa fD),qa (qa fR),by simp,uE⟩
  exists λm σ H'=> ∃(v5:Option V)(as:bp)(i:Nat)(L:aj)(rs:aZ),m=1100-i/\σ=[some (iv d.takes.length),some (.ref a),some (.ref q),some (.ref pl),some (.ref p),v5,none]/\lp ad.fY H1 H' p dx pS pD pR as L rs/\BM.kW d ss i L rs/\L.length<=2000,⟨1100,none,[],0,_,[],rfl,rfl,R0,BM.kW.start d ss,by simp⟩
  rintro m σ H4 ⟨v5,as,i,L,rs,rfl,rfl,R,Wk,UP⟩;have ra:rs.length=i:=by rw[Wk.rows,ax,il];have:=Wk.le;lia
  exists _,rfl,p,_,dx,_,_,rfl,R.obj,T.jc,T.Ez,Io,pR,_,rfl,.inl (aJ.of R.rows.af),_,rfl,p,_,dx,_,_,rfl,R.obj,T.jc,T.wA,yZ,pS,_,rfl,.inl R.oK.sq,_,_,rfl,rfl;have bM:(1024<L.length\/(i=L.length/\L.length<=1024))->Q (.ref p) H4:=λh=>k H4 p dx pS pR _ as i L rs (s1.trans R.aA) R.obj R.oK R.rows Wk h;have ea:((as.map V.ref).length:Nat)=i:=by rw[ax,R.rows.len,ra]
  have eL:((L.map iv).length:Nat)=L.length:=ax ..;have dJ:=Wk.le;refine⟨_,rfl,bq (λc=>?_) (λc=>iR ⟨_,rfl,bM ?_⟩)⟩
  ·have hi:i<L.length:=by
    lk
   exists _,rfl,p,dx,_,rfl,R.obj,N_ (by x_go) _ _ _,p,dx,pS,_,_,L,rfl,R.obj,R.oK,_,rfl;refine bq (λc2=>?_) (λc2=>?_)
   ·have hL:L.length<=1024:=by
     lk
    exists fun aL H'=> ∃m',m'<1100-i/\ ∃(v5:Option V)(as:bp)(i:Nat)(L:aj)(rs:aZ),m'=1100-i/\aL=[some (iv d.takes.length),some (.ref a),some (.ref q),some (.ref pl),some (.ref p),v5,none]/\lp ad.fY H1 H' p dx pS pD pR as L rs/\BM.kW d ss i L rs/\L.length<=2000,fun aL H' h=>h
    have qR:LI H4 q (0::ss):=hq.aA (s1.trans R.aA);exists _,rfl,p,_,dx,_,_,rfl,R.obj,T.jc,T.wA,yZ,_,rfl,p,_,dx,_,_,rfl,R.obj,T.jc,T.Ez,Io,pR,_,rfl,.inl (aJ.of R.rows.af),pS,_,_,iv (L.getD i 0),rfl,rfl,R.oK.sq,by rw[ea];exact bc (ca hi),_,rfl,_,rfl,q,_,rfl,.inl qR.sq
    refine⟨L.getD i 0,(0::ss).length,pl,las,Ls,by rw[ax];rfl,hRl.aA R.aA,λs hs=>wG.2.1 s (wG.1▸hs),cT,by rw[wG.1];exact hn,λH5 r5 r s5 IH EL hJ=>?_⟩;rw[wG.1]at hJ;have XT:BM.iG d ss (L.getD i 0) r:=hJ.eK hG wG;have R5:=R.to s5;have n1:r5≠pS:=λe=>by rw[e,R.oK]at IH;cases IH
    have n2:r5≠pD:=λe=>by rw[e,R.p_]at IH;cases IH
    refine⟨_,rfl,p,_,dx,_,_,rfl,R5.obj,T.jc,T.Ez,Io,.inl ⟨rfl,_,aJ.of R5.rows.af⟩,_,rfl,r5,rfl,⟨_,EL.sq⟩,λD hD=>?_⟩;have n3:D≠pS:=λe=>by rw[e,R5.oK]at hD;cases hD
    have n4:D≠pD:=λe=>by rw[e,R5.p_]at hD;cases hD
    have n5:D≠r5:=λe=>by rw[e,EL]at hD;cases hD
    have n6:D≠pR:=λe=>by rw[e,R5.rows.af]at hD;cases hD
    have n7:D≠p:=λe=>by rw[e,R5.obj]at hD;cases hD
    have n8:D∉as:=R5.rows.fresh hD;have amI:r.length<=256:=by rw[XT.len];exact cT
    have s6:=al.new (o:=.af []) hD;refine lN (K:=K) (a:=r5) (xs:=r.map iv)
     (λj H6=>lp ad.fY H1 H6 p dx pS pD pR as (BM.cP L (r.take j)) rs/\LI H6 r5 r/\LI H6 D ((r.take j).map λx=>(BM.cP L r).idxOf x))
     ⟨R5.to s6,EL.aA s6,ao⟩ ?_ ?_ ?_
    ·rintro j H6 _ ⟨_,h,_⟩;exact h.sq
    ·rintro j x H6 hx ⟨R6,h6,uF⟩;have hj:j<r.length:=by
      fin2
     rw[ca hj]at hx;obtain rfl:=(bv hx).symm;have II:=BM.K4 L (r.take j) L;rw[il]at II;have g8:=BM.adi (L:=L) hj;have amJ:BM.cP L (r.take (j+1))<+:BM.cP L r:=by
      have:=BM.Gc (r.drop (j+1)) (BM.cP L (r.take (j+1)));rwa[<-BM.vg,FD]at this
     have XU:((r.take (j+1)).map λx=>(BM.cP L r).idxOf x)=((r.take j).map λx=>(BM.cP L r).idxOf x)++[(BM.cP L r).idxOf (r.getD j 0)]:=by
      rw[fJ hj,bI,BM.cr hj];rfl
     have wF:(BM.cP L r).idxOf (r.getD j 0)=(BM.cP L (r.take (j+1))).idxOf (r.getD j 0):=BM.Sg amJ (by rw[g8];exact BM.pj.mpr (.inr rfl));refine⟨rfl,ja ⟨_,rfl,p,dx,_,rfl,R6.obj,N_ (by x_go) _ _ _,_,rfl,p,dx,pS,pD,_,_,r.getD j 0,rfl,R6.obj,R6.oK,R6.p_,by lia,λhm=>?_,λhm=>?_⟩⟩
     ·rw[BM.j6 hm]at g8;refine⟨_,uF,by rw[ax,ax,il];exact cz (by lia),?_,?_,?_⟩
      ·rw[g8];exact R6.wr n7 n3 n4 n6 n8 (R5.aA.free hD)
      ·show aa _ _ _ r5=_;rw[aw n5.symm];exact h6
      ·show aa _ _ _ D=_;rw[ao,XU,wF,g8,bI];rfl
     ·rw[BM.l0 hm]at g8;have R7:=R6.add (r.getD j 0);rw[<-g8]at R7;refine⟨_,(by rw[aw n3,aw n4];exact uF),by rw[ax,ax,il];exact cz (by lia),?_,?_,?_⟩
      ·rw[<-g8];exact R7.wr n7 n3 n4 n6 n8 (R5.aA.free hD)
      ·show aa _ _ _ r5=_;rw[aw n5.symm,aw n1,aw n2];exact h6
      ·show aa _ _ _ D=_;have e9:(BM.cP L (r.take j)++[r.getD j 0]).idxOf (r.getD j 0)=(BM.cP L (r.take j)).length:=by fin2
       rw[ao,XU,wF,g8,e9,bI];rfl
    ·rintro H6 ⟨R6,h6,uF⟩;rw[ax,fK]at R6 uF;have II:=BM.K4 L r L;refine⟨pR,_,_,rfl,rfl,R6.rows.af,?_,?_⟩
     ·rw[ax,R6.rows.len,ra];exact cz (by lia)
     ·exact⟨1100-(i+1),by lia,_,_,i+1,_,_,rfl,rfl,R6.push uF n6.symm n3.symm,Wk.step hG lR hi hL XT,by lia⟩
   ·refine⟨_,rfl,bM (.inl ?_)⟩;lk
  ·lia
end
def Ou:V->Nat
 |.int z=>z.toNat
 |_=>0
noncomputable def rd(H:Hp)(a:ag):aj:=
 match H a with
 |some (.af xs)=>xs.map Ou
 |_=>[]
def LI.rd(h:LI H a ns):rd H a=ns:=by
 unfold Bp.rd;rw[h];show(ns.map iv).map Ou=ns;rw[dy];have:(Ou∘iv)=id:=by funext n;show(lZ (n:Int))=n;lia
 rw[this,Al]
def cD.eq(h:cD H a as rs):rs=as.map (rd H):=by
 apply lC
 ·rw[ax,h.len]
 ·intro i h1 h2;rw[ax]at h2;have:=(h.at_ i as[i] (eh h2)).rd;lk
def cD.li(h:cD H a as rs)(hb:b∈as):LI H b (rd H b):=by
 obtain⟨i,hi⟩:=aba.mp hb;have:=h.at_ i b hi;rw[this.rd];exact this
def amK(h:H a=some (.af (as.map V.ref)))(hb: ∀b∈as,LI H b (rd H b)):cD H a as (as.map (rd H)):=by
 refine⟨h,by simp,λi b e=>?_⟩;fin2
def cD.bx(h:cD H a as rs)(hc:LI H c r)(hne:as≠[]):c≠a:=λq=>by
 rw[q]at hc;exact XS hne (HO.af.inj (bv (h.af.symm.trans hc)))
def cD.amL(h:cD H a as rs)(hj:j<as.length)(hc:LI H c r):cD (aa H a (.af ((as.map V.ref).set j (V.ref c)))) a (as.set j c) (rs.set j r):=by
 have hne:as≠[]:=by fin2
 refine⟨by rw[ao,Ai],by rw[mN,mN,h.len],λi b e=>?_⟩;show aa _ _ _ b=_;rw[arA]at e;by_cases q:j=i
 ·subst q;rw[if_pos rfl,if_pos hj]at e
  cases e;rw[aw (h.bx hc hne),BM.tU (by rw[<-h.len];exact hj),if_pos rfl];exact hc
 ·rw[if_neg q]at e;rw[aw (h.bx (h.at_ i b e) hne),BM.tU (by rw[<-h.len];exact hj),if_neg q];exact h.at_ i b e
structure fw(C:ag)(H:Hp)(p dx pb pm:ag)(as:bp)(b:aj)(ms:aZ):Prop where
 obj:H p=some (.aB C dx (sL (.ref pb) (.ref pm)))
 iw:LI H pb b
 mem:cD H pm as ms
 nb:pb∉as
 rh:pb≠pm
 ne:as≠[]
def fb(H H':Hp)(pb pm:ag):Prop:= ∀c o,H c=some o->c≠pb->c≠pm->H' c=some o
def fb.of(h:al H H'):fb H H' pb pm:=λc o e _ _=>h c o e
def fb.trans(h:fb H H' pb pm)(h':fb H' H2 pb pm):fb H H2 pb pm:=λc o e n m=>h' c o (h c o e n m) n m
def fb.wb(h:fb H H' pb pm):fb H (aa H' pb o) pb pm:=λc u e n m=>by rw[aw n];exact h c u e n m
def fb.wm(h:fb H H' pb pm):fb H (aa H' pm o) pb pm:=λc u e n m=>by rw[aw m];exact h c u e n m
def fb.EM(h:fb H H' pb pm)(hl:H l=none):fb H (aa H' l o) pb pm:=λc u e n m=>by rw[aw (aF e hl)];exact h c u e n m
def fw.to(h:fw C H p dx pb pm as b ms)(s:al H H'):fw C H' p dx pb pm as b ms:=
 ⟨s _ _ h.obj,h.iw.aA s,h.mem.aA s,h.nb,h.rh,h.ne⟩
def fw.wr(h:fw C H p dx pb pm as b ms)(n1:l≠p)(n2:l≠pb)(n3:l≠pm)(n4:l∉as):fw C (aa H l o) p dx pb pm as b ms:=by
 refine⟨?_,?_,⟨?_,h.mem.len,λi c e=>?_⟩,h.nb,h.rh,h.ne⟩
 ·rw[aw n1.symm];exact h.obj
 ·show aa _ _ _ pb=_;rw[aw n2.symm];exact h.iw
 ·rw[aw n3.symm];exact h.mem.af
 ·show aa _ _ _ c=_;rw[aw (λq:c=l=>n4 (q▸eF e))];exact h.mem.at_ i c e
def fw.amM(h:fw C H p dx pb pm as b ms):fw C (aa H pb (.af (b'.map iv))) p dx pb pm as b' ms:=by
 refine⟨?_,ao,⟨?_,h.mem.len,λi c e=>?_⟩,h.nb,h.rh,h.ne⟩
 ·rw[aw (bx h.obj h.iw (by intro q;cases q))];exact h.obj
 ·rw[aw h.rh.symm];exact h.mem.af
 ·show aa _ _ _ c=_;rw[aw (λq:c=pb=>h.nb (q▸eF e))];exact h.mem.at_ i c e
def fw.push(h:fw C H p dx pb pm as b ms)(hc:LI H c r)(n:pb≠c):fw C (aa H pm (.af (as.map V.ref++[V.ref c]))) p dx pb pm (as++[c]) b (ms++[r]):=by
 refine⟨?_,?_,h.mem.push hc (h.mem.bx hc h.ne).symm,?_,h.rh,by simp⟩
 ·rw[aw (bx h.obj h.mem.af (by intro q;cases q))];exact h.obj
 ·show aa _ _ _ pb=_;rw[aw h.rh];exact h.iw
 ·intro q;rcases cN.mp q with q|q
  ·exact h.nb q
  ·lk
def fw.amN(h:fw C H p dx pb pm as b ms)(hj:j<ms.length)(hc:LI H c r)(n:pb≠c):fw C (aa H pm (.af ((as.map V.ref).set j (V.ref c)))) p dx pb pm (as.set j c) b (ms.set j r):=by
 refine⟨?_,?_,h.mem.amL (by rw[h.mem.len];exact hj) hc,?_,h.rh,?_⟩
 ·rw[aw (bx h.obj h.mem.af (by intro q;cases q))];exact h.obj
 ·show aa _ _ _ pb=_;rw[aw h.rh];exact h.iw
 ·intro q;rcases List.mem_or_eq_of_mem_set q with q|q
  ·exact h.nb q
  ·exact n q
 ·intro q;have:=congrArg asJ q;rw[mN]at this;exact h.ne (Fy this)
section
variable{P:bj}{w:a_}{K:aP}{mg:Str->Option au}{base:Heap}{ad:Ad}
inductive XV(C:ag)(vs:List V)(H:Hp)(Q:VK)(z4:XK):Prop|mk:∀p dx n,vs=[.ref p,iv n]->H p=some (.aB C dx [])->n<=2000->(∀H' pb pm a0,fw C H' p dx pb pm [a0] (cu n 0) [aU n]->H pb=none->H pm=none->H a0=none->(∀b o,H b=some o->b≠p->H' b=some o)->Q .aX H')->XV C vs H Q z4
def amO(T:cp K mg ad):bN P w K mg base bX 1 ad.C5 ad.C6 ["self","size"] (XV ad.fG):=by
 refine T.ajt.ok aip (λvs H Q E h=>?_) (λbB A aY s H vs Q E hr h=>?_)
 ·obtain⟨p,dx,n,rfl,_⟩:=h
  rfl
 ·obtain⟨p,dx,n,rfl,hp,hn,k⟩:=h;have hu:=ki hr;exists _,(aC (eQ (pv 0) (df G_ (cH (ak bm ay)) (pv 1)) rfl) (aK (eQ (pv 0) (cH (ak (yb (UR rfl) (by rfl) T.EB JQ (ak (yb UQ (by rfl) T.yV Kt (ak (pv 1) ay)) ay)) ay)) rfl)))
  rfl'
  refine⟨(cA rfl),λl hl=>?_⟩;have s1:=al.new (o:=.af [V.int 0]) hl;refine⟨_,rfl,l,_,_,rfl,rfl,ao,by lia,by lia,kr (by show 1*_<=_;lia),λpb XW=>?_⟩;rw[Oo];have s2:=al.new (o:=.af ((cu n 0).map iv)) XW;have qO:LI (aa (aa H l (.af [V.int 0])) pb (.af ((cu n 0).map iv))) pb (cu n 0):=ao;have amP:=s1.free XW;have dQ:=s1.trans s2;generalize aa (aa H l (.af [V.int 0])) pb (.af ((cu n 0).map iv))=H2 at s2 qO dQ⊢;have cC:=dQ _ _ hp;have nb:pb≠p:=λe=>by lk
  exists _,rfl,p,_,dx,_,rfl,cC,T.lh,T.Ex,(by simp);have a3: ∀b o,H2 b=some o->b≠p->aa H2 p (.aB ad.fG dx (aM "block_of" (.ref pb) [])) b=some o:=λb o e hb=>by rw[aw hb];exact e
  have ii:aa H2 p (.aB ad.fG dx (aM "block_of" (.ref pb) [])) p=some (.aB ad.fG dx (aM "block_of" (.ref pb) [])):=ao;have oM:LI (aa H2 p (.aB ad.fG dx (aM "block_of" (.ref pb) []))) pb (cu n 0):=a3 _ _ qO nb;generalize aa H2 p (.aB ad.fG dx (aM "block_of" (.ref pb) []))=H3 at a3 ii oM⊢;refine⟨_,rfl,_,rfl,λg hg=>⟨g,n,rfl,ao,kr (by lia),λa0 XX=>⟨(cA rfl),λpm wH=>?_⟩⟩⟩;have s4:=al.new (o:=.kO 0 (n:Int)) hg;have s5:=al.new (o:=.af ((aU n).map λi=>V.int (i:Nat))) XX;have s6:=al.new (o:=.af [V.ref a0]) wH;have IJ:LI (aa (aa H3 g (.kO 0 (n:Int))) a0 (.af ((aU n).map λi=>V.int (i:Nat)))) a0 (aU n):=ao;have zb:aa (aa (aa H3 g (.kO 0 (n:Int))) a0 (.af ((aU n).map λi=>V.int (i:Nat)))) pm (.af [V.ref a0]) pm=some (.af ([a0].map V.ref)):=ao;have XY:=IJ.aA s6;have IK:=(s4.trans s5).trans s6;have Ov:=s4.free XX;have Ow:H3 pm=none:=(s4.trans s5).free wH;have nma:pm≠a0:=λe=>by rw[e,IJ]at wH;cases wH
  generalize aa (aa (aa H3 g (.kO 0 (n:Int))) a0 (.af ((aU n).map λi=>V.int (i:Nat)))) pm (.af [V.ref a0])=H6 at IK XY zb⊢;have rj:=IK _ _ ii;have Ox:=oM.aA IK;have na:a0≠p:=λe=>by lk
  have nm:pm≠p:=λe=>by lk
  have nba:pb≠a0:=λe=>by rw[<-e,oM]at Ov;cases Ov
  have rh:pb≠pm:=λe=>by rw[<-e,oM]at Ow;cases Ow
  have dn: ∀c,H3 c=none->c≠p->H c=none:=λc e hc=>by
   cases q:H c with
   |none=>rfl
   |some o=>have:=a3 _ _ (dQ _ _ q) hc;rw[e]at this;cases this
  exists _,rfl,p,_,dx,_,rfl,rj,T.lh,T.yR,(by show 1<1000;decide);rw[al4];refine k _ pb pm a0 ⟨ao,?_,⟨?_,rfl,λi c e=>?_⟩,by simpa using nba,rh,by simp⟩ amP (dn pm Ow nm) (dn a0 Ov na) λb o e hb=>?_
  ·show aa _ _ _ pb=_;rw[aw nb];exact Ox
  ·rw[aw nm];exact zb
  ·cases i with
   |zero=>
    have:a0=c:=bv e;subst this;show aa _ _ _ a0=_;rw[aw na];exact XY
   |succ i=>simp at e
  ·rw[aw hb];exact IK _ _ (a3 _ _ (dQ _ _ e) hb)
inductive XZ(C:ag)(vs:List V)(H:Hp)(Q:VK)(z4:XK):Prop|mk:∀p dx pb pm a as b r ms,vs=[.ref p,.ref a]->fw C H p dx pb pm as b ms->LI H a r->(∀x∈r,x<b.length)->r.length<=256->(∀H' q,al H H'->H q=none->H' q=some (.aE ((r.map λx=>b.getD x 0).map iv))->Q (.ref q) H')->XZ C vs H Q z4
def amQ(T:cp K mg ad):bN P w K mg base bX 1 ad.C7 ad.C8 ["self","row"] (XZ ad.fG):=by
 refine T.ajv.ok NP (λvs H Q E h=>?_) (λbB A aY s H vs Q E hr h=>?_)
 ·grind[XZ]
 ·obtain⟨p,dx,pb,pm,a,as,b,r,ms,rfl,B,ha,gI,cS,k⟩:=h;refine⟨_,(aK (bK (yb TX (by rfl) T.W9 aqo (ak (ke rfl NP.nd (gY (pv 1)) (bz:=[("target",2)]) (gZ (show gz ["self","row","target"] (bg Nz) _ _=true by x_go)) (λ_ _ _ _ _=>(bU (i:=2) NP.nd)) (λ_ _ _ _ _=>i7) (λ_ _ _ _ _=>(bD (nE K) (MR K (pv 0) rfl) (pv 2)))) ay)))),_,rfl,a,rfl,⟨_,ha.sq⟩,λD hD=>lN (K:=K) (a:=a) (xs:=r.map iv) (λj H5=>LI H5 D ((r.take j).map λx=>b.getD x 0)/\al H H5) ⟨ao,al.new hD⟩ ?_ ?_ ?_⟩
  ·rintro j H5 _ ⟨_,s5⟩;exact(ha.aA s5).sq
  ·rintro j x H5 hx ⟨bn,s5⟩;have hj:j<r.length:=by
    fin2
   rw[ca hj]at hx;obtain rfl:=(bv hx).symm;have a9:r.getD j 0<b.length:=gI _ (BM.eU hj);have B5:=B.to s5;refine⟨rfl,ja ⟨_,rfl,p,_,dx,_,_,rfl,B5.obj,T.lh,T.Ex,Il,_,rfl,pb,_,_,iv (b.getD (r.getD j 0) 0),rfl,rfl,B5.iw.sq,bc (ca a9),_,bn,?_,?_,λc o e=>?_⟩⟩
   ·rw[ax,ax,il];exact cz (by lia)
   ·show aa _ _ _ D=_;rw[ao,fJ hj,BM.cr hj,bI,bI];rfl
   ·rw[aw (aF e hD)];exact s5 _ _ e
  ·rintro H5 ⟨bn,s5⟩;rw[ax,fK]at bn;exact⟨D,_,rfl,.inl ⟨bn.sq,λl hl=>k _ l (s5.trans (al.new hl)) (s5.free hl) ao⟩⟩
end
def amR{b eW:aj}{id u:Nat}(hu:u<eW.length):BM.pA b (eW.take (u+1)) id=(BM.pA b (eW.take u) id).set (eW.getD u 0) id:=by
 unfold BM.pA;rw[fJ hu,FI,BM.cr hu];rfl
def amS{b:aj}:(b.map iv).set s (iv v)=(b.set s v).map iv:=by rw[Ai]
def amT{α:Type}(os:List (List α))(t:Nat):(os.take t).flatten.length<=os.flatten.length:=by
 have:os.flatten=(os.take t).flatten++(os.drop t).flatten:=by rw[<-Qw,FD]
 lk
section
variable{P:bj}{w:a_}{K:aP}{mg:Str->Option au}{base:Heap}{ad:Ad}
inductive X0(C:ag)(vs:List V)(H:Hp)(Q:VK)(z4:XK):Prop|mk:∀p dx pb pm pp as zc b ms ps n j,vs=[.ref p,iv j,.ref pp]->fw C H p dx pb pm as b ms->cD H pp zc ps->BM.io n b ms->j<ms.length->ps.flatten.Perm (ms.getD j [])->(∀p∈ps,p≠[])->pb∉zc->n<=2000->(∀H' q dP b' mv gH,fb H H' pb pm->fw C H' p dx pb pm dP b' gH->H q=none->LI H' q mv->BM.Gq n b ms j ps b' gH mv->(∀c∈dP,c∈as\/c∈zc)->Q (.ref q) H')->X0 C vs H Q z4
def X1(T:cp K mg ad):bN P w K mg base bX 1 ad.C9 ad.C_ ["self","block","parts"] (X0 ad.fG):=by
 refine T.ajy.ok Cf (λvs H Q E h=>?_) (λbB A aY s H vs Q E hr h=>?_)
 ·obtain⟨p,dx,pb,pm,pp,as,zc,b,ms,ps,n,j,rfl,_⟩:=h
  rfl
 ·obtain⟨p,dx,pb,pm,pp,as,zc,b,ms,ps,n,j,rfl,B,R,Pt,hj,sF,hne,nbp,hn,k⟩:=h;have hu:=ki hr;exists _,(aC (bP (i:=3) Cf.nd (agG rfl T.EC rfl T.ee (pv 2))) (aC (Bc (bD bY (pv 3) bm) (Bb (aV (pv 0)) (pv 1) ye)) (aC (bP (i:=4) Cf.nd (cH ay)) (aC (ib eR rfl (gY (yd yf (pv 3) (vO bm) Bn)) (bU (i:=5) Cf.nd) (aC (ib eR rfl (gY (pv 5)) (bU (i:=6) Cf.nd) (aK (Bc (d4 eX (by rfl) T.ee eI (ak (aV (pv 0)) ay)) (Bb (aV (pv 0)) (pv 6) ye)))) (aC (ga (ic iB jJ j0 jy (aV (pv 0)) (ak (pv 5) ay))) (aK (ga (ic iB JS Qo G9 (pv 4) (ak (pv 5) ay))))))) (aK (bK (pv 4)))))))
  rfl'
  refine⟨_,rfl,pp,zc,ps.map (·.map iv),rfl,aJ.of R.af,by rw[ax,R.len],λi c l hc hl=>?_,λdP po kS Oy=>?_⟩
  ·have h1:=R.at_ i c hc;have hi:i<ps.length:=by rw[←R.len];exact(gm.mp hc).1
   rw[gP,eh hi]at hl
   cases hl;rw[BM.cr hi]at h1;exact h1
  have att:ps≠[]:=by
   intro z;rw[z]at sF;exact Pt.ne j hj (List.nil_perm.mp sF)
  have eps:=R.eq;obtain⟨c0,cs,rfl⟩: ∃c0 cs,dP=c0::cs:=by
   cases dP with
   |nil=>
    lk
   |cons a l=>exact⟨a,l,rfl⟩
  have gI: ∀c∈c0::cs,c∈zc:=λc hc=>kS.mem_iff.mp hc;have mF:=λc hc=>R.li (gI c hc);have zd: ∀c∈c0::cs,c≠pb:=λc hc e=>nbp (e▸gI c hc);have uG:=λc hc=>B.mem.bx (mF c hc) B.ne;have X2:(rd H c0::cs.map (rd H)).Perm ps:=by
   fin2
  have S:=BM.ac_ Pt hj X2 sF hne;have X3:=X2.flatten.trans sF;have atu:(cs.map (rd H)).flatten.length<=n:=by
   have h1:=X3.length_eq;have h2:=Pt.KY hj;fin2
  have amI:ms.length+cs.length<=n:=by
   have:=S.eW.cT;rw[BM.vn,dS,mN,ax]at this;exact this
  have inB: ∀x∈(cs.map (rd H)).flatten,x<b.length:=λx hx=>by
   rw[Pt.len];exact(Pt.of j hj x (X3.mem_iff.mp (lV _ hx))).1
  have s1:=al.new (o:=.af ((c0::cs).map V.ref)) Oy;have Oz:aa H po (.af ((c0::cs).map V.ref)) po=some (.af ((c0::cs).map V.ref)):=ao;generalize aa H po (.af ((c0::cs).map V.ref))=H1 at s1 Oz⊢;have B1:=B.to s1;exists _,rfl,po,_,0,V.ref c0,rfl,rfl,aJ.of Oz,bc (j:=0) rfl,_,rfl,p,_,dx,_,_,rfl,B1.obj,T.lh,T.yR,EE,_,rfl,pm,_,_,j,rfl,rfl,B1.mem.af,IC (by rw[ax,B.mem.len];exact hj)
  have B2:=B1.amN hj ((mF c0 (eG ..)).aA s1) (zd c0 (eG ..)).symm;have F2:fb H (aa H1 pm (.af ((as.map V.ref).set j (V.ref c0)))) pb pm:=(fb.of s1).wm;have X4:aa H1 pm (.af ((as.map V.ref).set j (V.ref c0))) po=some (.af ((c0::cs).map V.ref)):=by
   rw[aw (λe:po=pm=>by rw[e,B.mem.af]at Oy;cases Oy)];exact Oz
  generalize aa H1 pm (.af ((as.map V.ref).set j (V.ref c0)))=H2 at B2 F2 X4⊢;refine⟨(by simp),λmv gC=>?_⟩;have s3:=al.new (o:=.af []) gC;have ze:LI (aa H2 mv (.af [])) mv []:=ao;have B3:=B2.to s3;have F3:=F2.trans (fb.of s3);have amU:mv≠p:=λe=>by rw[e,B2.obj]at gC;cases gC
  have OA:mv≠pb:=λe=>by rw[e,B2.iw]at gC;cases gC
  have OB:mv≠pm:=λe=>by rw[e,B2.mem.af]at gC;cases gC
  have atv:mv∉as.set j c0:=B2.mem.fresh gC;have IL:H mv=none:=by
   cases q:H mv with
   |none=>rfl
   |some o=>have:=F2 _ _ q OA OB;rw[gC]at this;cases this
  have amV: ∀c∈c0::cs,mv≠c:=λc hc e=>by
   have:=mF c hc;unfold LI at this;lk
  have X5:=s3 _ _ X4;generalize aa H2 mv (.af [])=H3 at s3 ze B3 F3 X5⊢;refine⟨_,rfl,_,rfl,po,_,rfl,aJ.of X5,λqs sR=>?_⟩;rw[show k5 ((c0::cs).map V.ref) (some 1) none=cs.map V.ref from by rw[Iq];rfl];have s4:=al.new (o:=.af (cs.map V.ref)) sR;have OC:aa H3 qs (.af (cs.map V.ref)) qs=some (.af (cs.map V.ref)):=ao;have B4:=B3.to s4;have F4:=F3.trans (fb.of s4);have X6:=ze.aA s4;have amW:qs≠pb:=λe=>by rw[e,B3.iw]at sR;cases sR
  have amX:qs≠pm:=λe=>by rw[e,B3.mem.af]at sR;cases sR
  have amY:qs≠mv:=λe=>by rw[e,ze]at sR;cases sR
  generalize aa H3 qs (.af (cs.map V.ref))=H4 at s4 OC B4 F4 X6⊢;refine⟨qs,rfl,⟨_,aJ.of OC⟩,su (K:=K) (a:=qs) (xs:=cs.map V.ref) (λt σ H'=> ∃v5 v6,σ=[some (.ref p),some (iv j),some (.ref pp),some (.ref po),some (.ref mv),v5,v6]/\fw ad.fG H' p dx pb pm (as.set j c0++cs.take t) (BM.eM ((cs.map (rd H)).take t) b (ms.set j (rd H c0))).1 (BM.eM ((cs.map (rd H)).take t) b (ms.set j (rd H c0))).2/\fb H H' pb pm/\H' qs=some (.af (cs.map V.ref))/\LI H' mv ((cs.map (rd H)).take t).flatten) ⟨none,none,rfl,by rw[List.take_zero,lE];exact B4,F4,OC,X6⟩ ?_ ?_ ?_⟩
  ·rintro t σ H' _ ⟨_,_,_,_,_,h,_⟩;exact aJ.of h
  ·rintro t x σ H' hx ⟨v5,v6,rfl,Bt,Ft,hq,hm⟩;have ht:t<cs.length:=by
    fin2
   rw[gP,eh ht]at hx;obtain rfl:=(bv hx).symm;have kh:cs[t]∈c0::cs:=e5 _ (nY ht);have EN:=mF _ kh;have EO:=zd _ kh;have IM:=uG _ kh;have nmc:=amV _ kh;have zf:LI H' cs[t] (rd H cs[t]):=Ft _ _ EN EO IM;have eok:(cs.map (rd H)).take (t+1)=(cs.map (rd H)).take t++[rd H cs[t]]:=by
    rw[fJ (by lk),iY]
   have X7:=BM.RZ (rd H cs[t]) ((cs.map (rd H)).take t) b (ms.set j (rd H c0));rw[<-eok]at X7;have amZ:(BM.eM ((cs.map (rd H)).take t) b (ms.set j (rd H c0))).1.length=b.length:=BM.K0 ..;have atw:(BM.eM ((cs.map (rd H)).take t) b (ms.set j (rd H c0))).2.length<=n:=by
    rw[BM.vn,dS,mN,il,ax];lia
   have am0: ∀x∈rd H cs[t],x<b.length:=λx hx=>inB x (QD.mpr ⟨_,xf (nY ht),hx⟩);have X8:((cs.map (rd H)).take (t+1)).flatten=((cs.map (rd H)).take t).flatten++rd H cs[t]:=by lk
   have am3:=amT (cs.map (rd H)) (t+1);rw[X8,dS]at am3;have am4:as.set j c0++cs.take (t+1)=(as.set j c0++cs.take t)++[cs[t]]:=by simp
   have nmt:mv∉(as.set j c0++cs.take t)++[cs[t]]:=by
    fin2
   generalize BM.eM ((cs.map (rd H)).take t) b (ms.set j (rd H c0))=G at*;generalize cs[t]=c at*;refine⟨_,rfl,c,rfl,⟨_,zf.sq⟩,su (K:=K) (a:=c) (xs:=(rd H c).map iv) (λu σ H5=> ∃v6,σ=[some (.ref p),some (iv j),some (.ref pp),some (.ref po),some (.ref mv),some (.ref c),v6]/\fw ad.fG H5 p dx pb pm (as.set j c0++cs.take t) (BM.pA G.1 ((rd H c).take u) G.2.length) G.2/\fb H H5 pb pm/\H5 qs=some (.af (cs.map V.ref))/\LI H5 mv ((cs.map (rd H)).take t).flatten) ⟨v6,rfl,Bt,Ft,hq,hm⟩ ?_ ?_ ?_⟩
   ·rintro u σ H5 _ ⟨_,_,_,F5,_⟩;exact LI.sq (F5 _ _ EN EO IM)
   ·rintro u x σ H5 hx ⟨OD,rfl,B5,F5,fW,EQ⟩;have g9:u<(rd H c).length:=by
     have:=(gm.mp hx).1
     rwa[ax]at this
    rw[ca g9]at hx;obtain rfl:=(bv hx).symm;have a9:(rd H c).getD u 0<b.length:=am0 _ (BM.eU g9);exists _,rfl,p,_,dx,_,_,rfl,B5.obj,T.lh,T.yR,EE,pm,_,rfl,.inl (aJ.of B5.mem.af),_,rfl,p,_,dx,_,_,rfl,B5.obj,T.lh,T.Ex,Il,_,rfl,pb,_,_,(rd H c).getD u 0,rfl,rfl,B5.iw,IC (by rw[ax,BM.xF,amZ];exact a9)
    have ev:V.int (((as.set j c0++cs.take t).map V.ref).length:Nat)=iv G.2.length:=by rw[ax,B5.mem.len];rfl
    rw[ev,amS,<-amR g9];refine⟨_,rfl,B5.amM,F5.wb,?_,?_⟩
    ·rw[aw amW];exact fW
    ·show aa _ _ _ mv=_;rw[aw OA];exact EQ
   ·rintro σ H5 ⟨OD,rfl,B5,F5,fW,EQ⟩;rw[ax,fK]at B5;refine⟨_,rfl,p,_,dx,_,_,rfl,B5.obj,T.lh,T.yR,EE,.inl ⟨rfl,_,aJ.of B5.mem.af⟩,_,rfl,pm,_,_,rfl,rfl,B5.mem.af,?_,?_⟩
    ·rw[ax,B5.mem.len];exact cz (by lia)
    have B6:=B5.push (F5 _ _ EN EO IM) EO.symm;have F6:fb H (aa H5 pm (.af ((as.set j c0++cs.take t).map V.ref++[V.ref c]))) pb pm:=F5.wm;have sJ:aa H5 pm (.af ((as.set j c0++cs.take t).map V.ref++[V.ref c])) qs=some (.af (cs.map V.ref)):=by rw[aw amX];exact fW
    have zb:LI (aa H5 pm (.af ((as.set j c0++cs.take t).map V.ref++[V.ref c]))) mv ((cs.map (rd H)).take t).flatten:=by
     show aa _ _ _ mv=_;rw[aw OB];exact EQ
    generalize aa H5 pm (.af ((as.set j c0++cs.take t).map V.ref++[V.ref c]))=H6 at B6 F6 sJ zb⊢;have zg:LI H6 c (rd H c):=F6 _ _ EN EO IM;refine⟨_,rfl,.inl ⟨rfl,_,zb.sq⟩,_,rfl,mv,c,_,_,rfl,rfl,zb,zg,?_,?_⟩
    ·rw[ax,ax];exact kr (by lia)
    refine⟨_,_,rfl,?_,F6.EM IL,?_,?_⟩
    ·rw[am4,X7];exact B6.wr amU OA OB nmt
    ·rw[aw amY];exact sJ
    ·show aa _ _ _ mv=_;rw[ao,X8,bI]
  ·rintro σ H' ⟨v5,v6,rfl,Bt,Ft,hq,hm⟩;rw[ax,<-ax (f:=rd H),fK]at Bt hm;refine⟨_,rfl,k H' mv _ _ _ _ Ft Bt IL hm S λc hc=>?_⟩;fin2
end
abbrev oN:=aj×ag×aj
abbrev lT:=Nat×ag×List oN
noncomputable def iV(L:List oN):List (aj×aj):=L.map λq=>(q.1,q.2.2)
noncomputable def jd(F:List lT):List (Nat×List (aj×aj)):=F.map λe=>(e.1,iV e.2.2)
def kT(l:aj):List bR:=l.map λ(x:Nat)=>(bQ (x:Int):bR)
def X9{l r:aj}(h:kT l=kT r):l=r:=by
 unfold kT at h;have:=congrArg (acb (λk=>match k with|.inl i=>i.toNat|.inr _=>0)) h;rw[dy,dy]at this;have e:((λ(k:bR)=>match k with|.inl i=>i.toNat|.inr _=>0)∘λ(x:Nat)=>(bQ (x:Int):bR))=id:=by fin2
 lk
def am5(l:aj):(kT l).map kV=l.map iv:=by
 unfold kT;rw[dy];rfl
noncomputable def gD(F:List lT):List (bR×V):=F.map λe=>(bQ (e.1:Int),V.ref e.2.1)
noncomputable def jZ(L:List oN):List (List bR×V):=L.map λq=>(kT q.1,V.ref q.2.1)
def am6(h:(F.map (·.1)).Nodup):((gD F).map (·.1)).Nodup:=by
 have e:(gD F).map (·.1)=(F.map (·.1)).map λx=>(bQ (x:Int):bR):=by
  unfold gD;simp
 fin2
def am7(h:(L.map (·.1)).Nodup):((jZ L).map (·.1)).Nodup:=by
 have e:(jZ L).map (·.1)=(L.map (·.1)).map kT:=by
  unfold jZ;simp
 rw[e];exact BM.Gf h λx _ y _ q=>X9 q
def OE(F:List lT):(jd F).map (·.1)=F.map (·.1):=by
 unfold jd;rw[dy];rfl
def am8(L:List oN):(iV L).map (·.1)=L.map (·.1):=by
 unfold iV;rw[dy];rfl
def kt(F:List lT)(i:Nat)(l:aj)(a:ag)(ss:aj):Prop:= ∃dd L,(i,dd,L)∈F/\(l,a,ss)∈L
structure g_(H0 H:Hp)(fd:ag)(F:List lT):Prop where
 dict:H fd=some (.dK (gD F))
 gR: ∀i dd L,(i,dd,L)∈F->H dd=some (.dT (jZ L))
 jQ: ∀i l a ss,kt F i l a ss->LI H a ss
 kF:(F.map (·.1)).Nodup
 kL: ∀i dd L,(i,dd,L)∈F->(L.map (·.1)).Nodup
 rl: ∀i i' dd L L',(i,dd,L)∈F->(i',dd,L')∈F->i=i'
 oC: ∀i l i' l' a ss gJ,kt F i l a ss->kt F i' l' a gJ->i=i'/\l=l'
 f0:H0 fd=none
 f1: ∀i dd L,(i,dd,L)∈F->H0 dd=none
 f2: ∀i l a ss,kt F i l a ss->H0 a=none
def g_.to(h:g_ H0 H fd F)(s:al H H'):g_ H0 H' fd F:=
 ⟨s _ _ h.dict,λi dd L he=>s _ _ (h.gR i dd L he),λi l a ss q=>(h.jQ i l a ss q).aA s,h.kF,h.kL,h.rl,h.oC,h.f0,h.f1,h.f2⟩
def g_.nil{H0 H:Hp}{fd:ag}(h:H fd=some (.dK []))(h0:H0 fd=none):g_ H0 H fd []:=
 ⟨h,λ_ _ _ q=>(by cases q),λ_ _ _ _⟨_,_,q,_⟩=>(by cases q),by simp,λ_ _ _ q=>(by cases q),λ_ _ _ _ _ q=>(by cases q),λ_ _ _ _ _ _ _⟨_,_,q,_⟩=>(by cases q),h0,λ_ _ _ q=>(by cases q),λ_ _ _ _⟨_,_,q,_⟩=>(by cases q)⟩
def g_.am9{H0 H:Hp}{fd da:ag}{F:List lT}{j:Nat}(h:g_ H0 H fd F)(rc:H da=some (.dT []))(pT: ∀i L,(i,da,L)∉F)(OF:H0 da=none)(hj:j∉F.map (·.1)):g_ H0 (aa H fd (.dK (gD (F++[(j,da,[])])))) fd (F++[(j,da,[])]):=by
 have mm: ∀i dd L,(i,dd,L)∈F++[(j,da,[])]->(i,dd,L)∈F\/(i=j/\dd=da/\L=[]):=λi dd L q=>by
  lk
 have m4: ∀i l a ss,kt (F++[(j,da,[])]) i l a ss->kt F i l a ss:=λi l a ss⟨dd,L,q,z⟩=>by
  rcases mm i dd L q with y|⟨_,_,y⟩
  ·exact⟨dd,L,y,z⟩
  ·rw[y]at z;cases z
 refine⟨ao,λi dd L q=>?_,λi l a ss q=>?_,?_,λi dd L q=>?_,λi i' dd L L' q q'=>?_,λi l i' l' a ss gJ q q'=>h.oC i l i' l' a ss gJ (m4 _ _ _ _ q) (m4 _ _ _ _ q'),h.f0,λi dd L q=>?_,λi l a ss q=>h.f2 i l a ss (m4 _ _ _ _ q)⟩
 ·rcases mm i dd L q with z|⟨rfl,rfl,rfl⟩
  ·rw[aw (bx (h.gR i dd L z) h.dict (by intro q;cases q))];exact h.gR i dd L z
  ·rw[aw (bx rc h.dict (by intro q;cases q))];exact rc
 ·have z:=h.jQ i l a ss (m4 _ _ _ _ q);show aa _ _ _ _=_;rw[aw (bx z h.dict (by intro q;cases q))];exact z
 ·rw[bI,o6];refine⟨h.kF,by simp,λa ha b hb e=>?_⟩;fin2
 ·rcases mm i dd L q with z|⟨rfl,rfl,rfl⟩
  ·exact h.kL i dd L z
  ·simp
 ·rcases mm i dd L q with z|⟨rfl,rfl,rfl⟩
  ·rcases mm i' dd L' q' with z'|⟨rfl,rfl,rfl⟩
   ·exact h.rl i i' dd L L' z z'
   ·exact(pT _ _ z).elim
  ·lk
 ·rcases mm i dd L q with z|⟨rfl,rfl,rfl⟩
  ·exact h.f1 i dd L z
  ·exact OF
def OG{F:List lT}{x j:Nat}(hk:(F.map (·.1)).Nodup)(hx:F[x]?=some (j,dd,L))(i:Nat)(da:ag)(M:List oN):
  (i,da,M)∈F.set x (j,dd,L1)↔(i=j/\da=dd/\M=L1)\/((i,da,M)∈F/\i≠j):=by
 obtain⟨a9,e⟩:=gm.mp hx;rw[BM.Sh hk a9 (by rw[e])];simp
def OH{F:List lT}{x j:Nat}(hx:F[x]?=some (j,dd,L)):(F.set x (j,dd,L1)).map (·.1)=F.map (·.1):=by
 obtain⟨a9,e⟩:=gm.mp hx;exact BM.K5 a9 (by rw[e])
def X_{F:List lT}{x j:Nat}(hx:F[x]?=some (j,dd,L)):gD (F.set x (j,dd,L1))=gD F:=by
 unfold gD;rw[Ai];obtain⟨a9,e⟩:=gm.mp hx;have:(F.map λe=>((bQ (e.1:Int):bR),V.ref e.2.1))[x]'(by lk)=(bQ (j:Int),V.ref dd):=by rw[iY,e]
 rw[<-this,JV]
def g_.am_{H0 H:Hp}{fd dd la:ag}{F:List lT}{x j:Nat}{l:aj}{L:List oN}(h:g_ H0 H fd F)(hx:F[x]?=some (j,dd,L))(wI:LI H la [])(pT: ∀i l ss,¬kt F i l la ss)(AM:H0 la=none)(hl:l∉L.map (·.1)):
  g_ H0 (aa H dd (.dT (jZ (L++[(l,la,[])])))) fd (F.set x (j,dd,L++[(l,la,[])])):=by
 have mm:=OG (L1:=L++[(l,la,[])]) h.kF hx;have hm:=eF hx;have hd:=h.gR _ _ _ hm;have m4: ∀i l' a ss,kt (F.set x (j,dd,L++[(l,la,[])])) i l' a ss->kt F i l' a ss\/(i=j/\l'=l/\a=la/\ss=[]):=λi l' a ss⟨da,M,q,z⟩=>by
  rcases(mm i da M).mp q with⟨rfl,rfl,rfl⟩|⟨y,_⟩
  ·rcases cN.mp z with z|z
   ·exact .inl ⟨_,L,hm,z⟩
   ·lk
  ·exact .inl ⟨da,M,y,z⟩
 refine⟨?_,λi da M q=>?_,λi l' a ss q=>?_,by rw[OH hx];exact h.kF,λi da M q=>?_,λi i' da M M' q q'=>?_,λi l' i' l2 a ss gJ q q'=>?_,h.f0,λi da M q=>?_,λi l' a ss q=>?_⟩
 ·rw[aw (bx h.dict hd (by intro q;cases q)),X_ hx];exact h.dict
 ·rcases(mm i da M).mp q with⟨rfl,rfl,rfl⟩|⟨y,hne⟩
  ·exact ao
  ·rw[aw (λe:da=dd=>hne (h.rl i j dd M L (e▸y) hm))];exact h.gR i da M y
 ·show aa _ _ _ _=_;rcases m4 i l' a ss q with z|⟨rfl,rfl,rfl,rfl⟩
  ·have y:=h.jQ i l' a ss z;rw[aw (bx y hd (by intro q;cases q))];exact y
  ·rw[aw (bx wI hd (by intro q;cases q))];exact wI
 ·rcases(mm i da M).mp q with⟨rfl,rfl,rfl⟩|⟨y,hne⟩
  ·rw[bI,o6];refine⟨h.kL _ _ _ hm,by simp,λa ha b hb e=>?_⟩;lk
  ·exact h.kL _ _ _ y
 ·rcases(mm i da M).mp q with⟨rfl,rfl,rfl⟩|⟨y,hne⟩
  ·rcases(mm i' da M').mp q' with⟨rfl,_,rfl⟩|⟨y',xH⟩
   ·rfl
   ·exact h.rl _ _ _ _ _ hm y'
  ·rcases(mm i' da M').mp q' with⟨rfl,rfl,rfl⟩|⟨y',xH⟩
   ·exact h.rl _ _ _ _ _ y hm
   ·exact h.rl _ _ _ _ _ y y'
 ·rcases m4 _ _ _ _ q with z|⟨rfl,rfl,rfl,rfl⟩
  ·rcases m4 _ _ _ _ q' with z'|⟨rfl,rfl,rfl,rfl⟩
   ·exact h.oC _ _ _ _ _ _ _ z z'
   ·exact(pT _ _ _ z).elim
  ·fin2
 ·rcases(mm i da M).mp q with⟨rfl,rfl,rfl⟩|⟨y,hne⟩
  ·exact h.f1 _ _ _ hm
  ·exact h.f1 _ _ _ y
 ·rcases m4 _ _ _ _ q with z|⟨rfl,rfl,rfl,rfl⟩
  ·exact h.f2 _ _ _ _ z
  ·exact AM
def X'{L:List oN}{y:Nat}(hk:(L.map (·.1)).Nodup)(hy:L[y]?=some (l,lq,ss))(l':aj)(a:ag)(tt:aj):
  (l',a,tt)∈L.set y (l,lq,gJ)↔(l'=l/\a=lq/\tt=gJ)\/((l',a,tt)∈L/\l'≠l):=by
 obtain⟨a9,e⟩:=gm.mp hy;rw[BM.Sh hk a9 (by rw[e])];simp
def ana{L:List oN}{y:Nat}(hy:L[y]?=some (l,lq,ss)):jZ (L.set y (l,lq,gJ))=jZ L:=by
 unfold jZ;rw[Ai];obtain⟨a9,e⟩:=gm.mp hy;have:(L.map λq=>(kT q.1,V.ref q.2.1))[y]'(by lk)=(kT l,V.ref lq):=by rw[iY,e]
 rw[<-this,JV]
def g_.app{H0 H:Hp}{fd dd lq:ag}{F:List lT}{x j y:Nat}{l ss gJ:aj}{L:List oN}(h:g_ H0 H fd F)(hx:F[x]?=some (j,dd,L))(hy:L[y]?=some (l,lq,ss)):
  g_ H0 (aa H lq (.af (gJ.map iv))) fd (F.set x (j,dd,L.set y (l,lq,gJ))):=by
 have mm:=OG (L1:=L.set y (l,lq,gJ)) h.kF hx;have hm:=eF hx;have IN:=eF hy;have ml:=X' (gJ:=gJ) (h.kL _ _ _ hm) hy;have h4:kt F j l lq ss:=⟨dd,L,hm,IN⟩
 have hq:=h.jQ _ _ _ _ h4;have m4: ∀i l' a tt,kt (F.set x (j,dd,L.set y (l,lq,gJ))) i l' a tt->(kt F i l' a tt/\¬(i=j/\l'=l))\/(i=j/\l'=l/\a=lq/\tt=gJ):=λi l' a tt⟨da,M,q,z⟩=>by
  rcases(mm i da M).mp q with⟨rfl,rfl,rfl⟩|⟨w,hne⟩
  ·rcases(ml l' a tt).mp z with⟨rfl,rfl,rfl⟩|⟨w,hne⟩
   ·simp
   ·exact .inl ⟨⟨_,L,hm,w⟩,λq=>hne q.2⟩
  ·exact .inl ⟨⟨da,M,w,z⟩,λq=>hne q.1⟩
 refine⟨?_,λi da M q=>?_,λi l' a tt q=>?_,by rw[OH hx];exact h.kF,λi da M q=>?_,λi i' da M M' q q'=>?_,λi l' i' l2 a tt tt' q q'=>?_,h.f0,λi da M q=>?_,λi l' a tt q=>?_⟩
 ·rw[aw (bx h.dict hq (by intro q;cases q)),X_ hx];exact h.dict
 ·rcases(mm i da M).mp q with⟨rfl,rfl,rfl⟩|⟨w,hne⟩
  ·rw[aw (bx (h.gR _ _ _ hm) hq (by intro q;cases q)),ana hy];exact h.gR _ _ _ hm
  ·rw[aw (bx (h.gR _ _ _ w) hq (by intro q;cases q))];exact h.gR _ _ _ w
 ·show aa _ _ _ _=_;rcases m4 i l' a tt q with⟨z,hne⟩|⟨rfl,rfl,rfl,rfl⟩
  ·rw[aw (λe:a=lq=>hne (h.oC _ _ _ _ _ _ _ (e▸z) h4))];exact h.jQ _ _ _ _ z
  ·exact ao
 ·rcases(mm i da M).mp q with⟨rfl,rfl,rfl⟩|⟨w,hne⟩
  ·obtain⟨a9,e⟩:=gm.mp hy;rw[BM.K5 a9 (by rw[e])];exact h.kL _ _ _ hm
  ·exact h.kL _ _ _ w
 ·rcases(mm i da M).mp q with⟨rfl,rfl,rfl⟩|⟨w,hne⟩
  ·rcases(mm i' da M').mp q' with⟨rfl,_,rfl⟩|⟨w',xH⟩
   ·rfl
   ·exact h.rl _ _ _ _ _ hm w'
  ·rcases(mm i' da M').mp q' with⟨rfl,rfl,rfl⟩|⟨w',xH⟩
   ·exact h.rl _ _ _ _ _ w hm
   ·exact h.rl _ _ _ _ _ w w'
 ·rcases m4 _ _ _ _ q with⟨z,hne⟩|⟨rfl,rfl,rfl,rfl⟩
  ·rcases m4 _ _ _ _ q' with⟨z',xH⟩|⟨rfl,rfl,rfl,rfl⟩
   ·exact h.oC _ _ _ _ _ _ _ z z'
   ·exact h.oC _ _ _ _ _ _ _ z h4
  ·rcases m4 _ _ _ _ q' with⟨z',xH⟩|⟨rfl,rfl,_,rfl⟩
   ·exact h.oC _ _ _ _ _ _ _ h4 z'
   ·exact⟨rfl,rfl⟩
 ·rcases(mm i da M).mp q with⟨rfl,rfl,rfl⟩|⟨w,hne⟩
  ·exact h.f1 _ _ _ hm
  ·exact h.f1 _ _ _ w
 ·rcases m4 _ _ _ _ q with⟨z,_⟩|⟨rfl,rfl,rfl,rfl⟩
  ·exact h.f2 _ _ _ _ z
  ·exact h.f2 _ _ _ _ h4
def rm:(i,M)∈jd F↔ ∃da N,(i,da,N)∈F/\M=iV N:=by
 unfold jd;fin2
def wJ:(l,tt)∈iV L↔ ∃a,(l,a,tt)∈L:=by
 unfold iV;simp
def anb{α β:Type}{F:List (α×β)}{k:α}{v:β}(h:(k,v)∈F):k∈F.map (·.1):=cQ.mpr ⟨_,h,rfl⟩
def anc{F F1:List lT}{L L1:List oN}{s j x y:Nat}
  (O:BM.iq n b ms db aI (jd F))(hs:s<n)(xK:s∉aI)(hj:b.getD s 0=j)(tY:j<ms.length)(h1:1<(ms.getD j []).length)
  (kF:(F1.map (·.1)).Nodup)(kL:(L1.map (·.1)).Nodup)(hx:F1[x]?=some (j,dd,L))(hy:L1[y]?=some (db s,lq,ss))
  (Ya:F1=F\/(F1=F++[(j,da,[])]/\j∉F.map (·.1)))(BO:L1=L\/(L1=L++[(db s,la,[])]/\db s∉L.map (·.1))):
  BM.iq n b ms db (aI++[s]) (jd (F1.set x (j,dd,L1.set y (db s,lq,ss++[s])))):=by
 have mm:=OG (L1:=L1.set y (db s,lq,ss++[s])) kF hx;have ml:=X' (gJ:=ss++[s]) kL hy;have hm:=eF hx;have IN:=eF hy;have sub: ∀i oO M,(i,oO,M)∈F->(i,oO,M)∈F1:=λi oO M q=>by
  fin2
 have sup: ∀i oO M,i≠j->(i,oO,M)∈F1->(i,oO,M)∈F:=λi oO M hne q=>by
  fin2
 have Yb: ∀oO M,(j,oO,M)∈F->M=L:=λoO M q=>(abU (BM.AK kF (sub _ _ _ q) hm)).2;have Yc:L≠[]->(j,dd,L)∈F:=λhne=>by
  fin2
 refine O.aB hs xK hj tY h1 (L':=iV (L1.set y (db s,lq,ss++[s]))) (gJ:=ss++[s]) ?_ ?_ (λi M hne=>?_) ?_ ?_ (λl tt hne=>?_) ?_
 ·rw[OE,OH hx];exact kF
 ·exact rm.mpr ⟨dd,_,(mm _ _ _).mpr (.inl ⟨rfl,rfl,rfl⟩),rfl⟩
 ·rw[rm,rm];fin2
 ·obtain⟨a9,e⟩:=gm.mp hy;rw[am8,BM.K5 a9 (by rw[e])];exact kL
 ·exact wJ.mpr ⟨lq,(ml _ _ _).mpr (.inl ⟨rfl,rfl,rfl⟩)⟩
 ·rw[wJ];constructor
  ·rintro⟨a,q⟩;rcases(ml _ _ _).mp q with⟨z,_,_⟩|⟨z,_⟩
   ·exact(hne z).elim
   ·have zL:(l,a,tt)∈L:=by
     fin2
    exact⟨iV L,rm.mpr ⟨dd,L,Yc (λe=>by lk),rfl⟩,wJ.mpr ⟨a,zL⟩⟩
  ·rintro⟨M,q,z⟩;obtain⟨oO,N,q2,rfl⟩:=rm.mp q;rw[Yb _ _ q2]at z;obtain⟨a,z⟩:=wJ.mp z;fin2
 ·rcases BO with rfl|⟨rfl,hln⟩
  ·exact .inl ⟨iV L1,ss,rm.mpr ⟨dd,L1,Yc (λe=>by fin2),rfl⟩,wJ.mpr ⟨lq,IN⟩,rfl⟩
  ·refine .inr ⟨λM tt q z=>?_,?_⟩
   ·obtain⟨oO,N,q2,rfl⟩:=rm.mp q;rw[Yb _ _ q2]at z;obtain⟨a,z⟩:=wJ.mp z;exact hln (anb z)
   ·lk
def Yd{α β:Type}{F:List (α×β)}{k:α}(h:k∈F.map (·.1)): ∃(x:Nat)(v:β),F[x]?=some (k,v):=by
 obtain⟨⟨k',v⟩,he,rfl⟩:=cQ.mp h;obtain⟨x,hx⟩:=aba.mp he;exact⟨x,v,hx⟩
def g_.wr(h:g_ H0 H fd F)(hl:H0 l≠none):g_ H0 (aa H l o) fd F:=by
 have ne: ∀c,H0 c=none->c≠l:=λc hc e=>hl (e▸hc);refine⟨?_,λi dd L he=>?_,λi l' a ss q=>?_,h.kF,h.kL,h.rl,h.oC,h.f0,h.f1,h.f2⟩
 ·rw[aw (ne _ h.f0)];exact h.dict
 ·rw[aw (ne _ (h.f1 i dd L he))];exact h.gR i dd L he
 ·show aa _ _ _ _=_;rw[aw (ne _ (h.f2 i l' a ss q))];exact h.jQ i l' a ss q
def cD.wr(h:cD H a as rs)(n1:l≠a)(n2:l∉as):cD (aa H l o) a as rs:=by
 refine⟨by rw[aw n1.symm];exact h.af,h.len,λi b e=>?_⟩;show aa _ _ _ b=_;rw[aw (λq:b=l=>n2 (q▸eF e))];exact h.at_ i b e
noncomputable def tK(aI:aj):List (bR×V):=aI.map λ(s:Nat)=>(bQ (s:Int),V.bl true)
def ane{k:bR}(h:(tK aI)[i]?=some (k,v)): ∃hi:i<aI.length,k=bQ ((aI[i]:Nat):Int):=by
 unfold tK at h;rw[gP]at h
 cases e:aI[i]? with
 |none=>rw[e]at h;cases h
 |some s=>
  fin2
theorem Ye{α:Type}: ∀{ls:List (List α)},(∀l∈ls,l≠[])->ls.length<=ls.flatten.length
 |[],_=>aW _
 |l::ls,h=>by
  have h1:=Ye λx hx=>h x (e5 _ hx);have h2:=Nat.pos_of_ne_zero λe=>h l (eG ..) (Fy e);fin2
def Yf{n:Nat}{b:aj}{ms:aZ}{db:Nat->aj}{aI:aj}{F:List lT}(O:BM.iq n b ms db aI (jd F))(P:BM.io n b ms):
  F.length<=n/\(∀i dd L,(i,dd,L)∈F->L.length<=n)/\ ∀i l a ss,kt F i l a ss->ss.length<=n:=by
 refine⟨?_,λi dd L h=>?_,λi l a ss⟨dd,L,h,h'⟩=>?_⟩
 ·have h1:=BM.ip ms.length _ O.j8 λj hj=>by
   obtain⟨⟨j',L⟩,h,rfl⟩:=cQ.mp hj;exact(O.gR _ _ h).2.2.1
  rw[OE,ax]at h1;exact gn h1 P.cT
 ·have hm:=rm.mpr ⟨dd,L,h,rfl⟩;have h1:=(O.perm P hm).1.length_eq;have h2:=P.KY (O.gR _ _ hm).2.2.1;have h3:((iV L).map (·.2)).length<=((iV L).map (·.2)).flatten.length:=Ye λx hx=>by
   obtain⟨⟨l,ss⟩,hq,rfl⟩:=cQ.mp hx;exact(O.jQ _ _ hm l ss hq).1
  unfold BM.kU at h1;rw[Qw,dS]at h1;have h4:((iV L).map (·.2)).length=L.length:=by unfold iV;simp
  lia
 ·have hm:=rm.mpr ⟨dd,L,h,rfl⟩;have q:=O.jQ _ _ hm l ss (wJ.mpr ⟨a,h'⟩);exact BM.ip n ss q.2.1 λx hx=>((q.2.2 x).mp hx).2.1
def anf(j:Nat)(FA:g_ H0 H fd F)(rc:H da=some (.dT []))(pT: ∀i L,(i,da,L)∉F)(OF:H0 da=none)(hz:F.length<bh):
  ∃(dd:ag)(xi:Nat)(L:List oN)(F1:List lT)(H7:Hp),Hw H fd (iv j) (.ref da) (.ref dd) H7/\g_ H0 H7 fd F1/\(∀c o,H c=some o->c≠fd->H7 c=some o)/\F1[xi]?=some (j,dd,L)/\(F1=F\/(F1=F++[(j,da,[])]/\j∉F.map (·.1))):=by
 have rX:(gD F).length<bh:=by unfold gD;lk
 by_cases hj:j∈F.map (·.1)
 ·obtain⟨xi,⟨dd,L⟩,hx⟩:=Yd hj;refine⟨dd,xi,L,F,H,.inl ⟨_,bQ (j:Int),FA.dict,rfl,rX,.inl ⟨?_,rfl⟩⟩,FA,λc o e _=>e,hx,.inl rfl⟩;refine MS (am6 FA.kF) ?_;exact cQ.mpr ⟨_,eF hx,rfl⟩
 ·have hv:cI (gD F) (bQ (j:Int))=none:=by
   refine MT λq=>hj ?_;obtain⟨⟨k,v⟩,hm,e⟩:=cQ.mp q;obtain⟨⟨i,d,L⟩,sS,e2⟩:=cQ.mp hm;fin2
  refine⟨da,F.length,[],F++[(j,da,[])],_,.inl ⟨_,bQ (j:Int),FA.dict,rfl,rX,.inr ⟨hv,rfl,rfl⟩⟩,?_,λc o e hc=>by rw[aw hc];exact e,?_,.inr ⟨rfl,hj⟩⟩
  ·have:=FA.am9 (j:=j) rc pT OF hj;rw[ue _ hv];have e:gD (F++[(j,da,[])])=gD F++[(bQ (j:Int),V.ref da)]:=by unfold gD;simp
   rwa[e]at this
  ·simp
def ang{x j:Nat}(FA:g_ H0 H fd F)(hx:F[x]?=some (j,dd,L))(uH:H tq=some (.aE (l.map iv)))(wI:LI H la [])(pT: ∀i l ss,¬kt F i l la ss)(AM:H0 la=none)(hz:L.length<bh):
  ∃(lq:ag)(yi:Nat)(ss:aj)(L1:List oN)(H8:Hp),Hw H dd (.ref tq) (.ref la) (.ref lq) H8/\g_ H0 H8 fd (F.set x (j,dd,L1))/\(∀c o,H c=some o->c≠dd->H8 c=some o)/\L1[yi]?=some (l,lq,ss)/\(L1=L\/(L1=L++[(l,la,[])]/\l∉L.map (·.1)))/\(ss=[]\/L1=L):=by
 have hm:=eF hx;have hd:=FA.gR _ _ _ hm;have rX:(jZ L).length<bh:=by unfold jZ;lk
 have Yg:H tq=some (.aE ((kT l).map kV)):=by rw[am5];exact uH
 by_cases hl:l∈L.map (·.1)
 ·obtain⟨yi,⟨lq,ss⟩,hy⟩:=Yd hl;refine⟨lq,yi,ss,L,H,.inr ⟨_,kT l,tq,hd,rfl,Yg,rX,.inl ⟨?_,rfl⟩⟩,?_,λc o e _=>e,hy,.inl rfl,.inr rfl⟩
  ·refine MS (am7 (FA.kL _ _ _ hm)) ?_;exact cQ.mpr ⟨_,eF hy,rfl⟩
  ·have:F.set x (j,dd,L)=F:=by
    obtain⟨a9,e⟩:=gm.mp hx;rw[<-e,JV]
   rw[this];exact FA
 ·have hv:cI (jZ L) (kT l)=none:=by
   refine MT λq=>hl ?_;obtain⟨⟨k,v⟩,hm,e⟩:=cQ.mp q;obtain⟨⟨l',a,tt⟩,sS,e2⟩:=cQ.mp hm
   cases e2;exact cQ.mpr ⟨(l',a,tt),sS,X9 e⟩
  refine⟨la,L.length,[],L++[(l,la,[])],_,.inr ⟨_,kT l,tq,hd,rfl,Yg,rX,.inr ⟨hv,rfl,rfl⟩⟩,?_,λc o e hc=>by rw[aw hc];exact e,?_,.inr ⟨rfl,hl⟩,.inl rfl⟩
  ·have:=FA.am_ hx wI pT AM hl;rw[ue _ hv];have e:jZ (L++[(l,la,[])])=jZ L++[(kT l,V.ref la)]:=by unfold jZ;simp
   rwa[e]at this
  ·simp
section
variable{P:bj}{w:a_}{K:aP}{mg:Str->Option au}{base:Heap}{ad:Ad}
def ER(rows:aZ)(b:aj)(s:Nat):aj:=(rows.getD s []).map λx=>b.getD x 0
structure zh(rows:aZ):Prop where
 jO: ∀s,s<rows.length->(rows.getD s []).length<=256
 d8: ∀s,s<rows.length-> ∀x∈rows.getD s [],x<rows.length
 cT:rows.length<=2000
inductive anh(C:ag)(vs:List V)(H:Hp)(Q:VK)(z4:XK):Prop|mk:∀p dx pb pm t r as fx b aI ms rows,vs=[.ref p,.ref t,.ref r]->fw C H p dx pb pm as b ms->BM.io rows.length b ms->cD H r fx rows->zh rows->H t=some (.dK (tK aI))->aI.Nodup->(∀s∈aI,s<rows.length)->(∀H' fd F,al H H'->g_ H H' fd F->BM.iq rows.length b ms (ER rows b) aI (jd F)->Q (.ref fd) H')->anh C vs H Q z4
def ani(T:cp K mg ad):bN P w K mg base bX 2 ad.Dc ad.Dd ["self","touched","rows"] (anh ad.fG):=by
 refine T.ajz.ok Cg (λvs H Q E h=>?_) (λbB A aY s H vs Q E hr h=>?_)
 ·obtain⟨p,dx,pb,pm,t,r,as,fx,b,aI,ms,rows,rfl,_⟩:=h;rfl
 ·obtain⟨p,dx,pb,pm,t,r,as,fx,b,aI,ms,rows,rfl,B,Pt,R,hR,ht,dL,gI,k⟩:=h;have hu:=ki hr;exists _,(aC (bP (i:=3) Cg.nd Hf) (aC (Uz (ib eR rfl (af7 (pv 1)) (bU (i:=4) Cg.nd) (aC (bP (i:=5) Cg.nd (bD bY (aV (pv 0)) (pv 4))) (aK (dF (dY ua (d4 eX (by rfl) T.ee eI (ak (bD bY (aV (pv 0)) (pv 5)) ay)) bm (dG _)) (aC (bP (i:=6) Cg.nd (MO hu (pv 3) (pv 5) Mq ⟨rfl,rfl,rfl,rfl⟩)) (aK (ga (ic iB jJ j0 jy (MO hu (pv 6) (e_ (pv 0) T.lh T.ajx (amQ T) hr.m T.ajw .nil bE (ak (bD bY (pv 2) (pv 4)) ay)) (cH ay) ⟨rfl,rfl,rfl,rfl⟩) (ak (pv 4) ay))))) dE))))) (aK (bK (pv 3)))))
  rfl'
  intro fd Yh;have s1:=al.new (o:=.dK []) Yh;have Yi:aa H fd (.dK []) fd=some (.dK []):=ao;generalize aa H fd (.dK [])=H1 at s1 Yi⊢;refine⟨t,_,s1 _ _ ht,ql,λod=>?_⟩;have nt1:=(bx B.obj ht (by intro q;cases q)).symm;have nt2:=(bx B.iw ht (by intro q;cases q)).symm;have nt3:=(bx B.mem.af ht (by intro q;cases q)).symm;have nt4:=λq=>(bx (B.mem.li q) ht (by intro q;cases q)) rfl;have nt5:=(bx R.af ht (by intro q;cases q)).symm;have nt6:=λq=>(bx (R.li q) ht (by intro q;cases q)) rfl;have Bk:fw ad.fG (aa H t (.bu od (.dK (tK aI)))) p dx pb pm as b ms:=B.wr nt1 nt2 nt3 nt4;have Rk:cD (aa H t (.bu od (.dK (tK aI)))) r fx rows:=R.wr nt5 nt6;have hk:aa H t (.bu od (.dK (tK aI))) t=some (.bu od (.dK (tK aI))):=ao;have tX:H t≠none:=by lk
  have Yj: ∀c,aa H t (.bu od (.dK (tK aI))) c=none->H c=none:=λc e=>qa e;have hn: ∀c,H c=none->aa H t (.bu od (.dK (tK aI))) c=none:=λc e=>by
   rw[aw (λz:c=t=>tX (z▸e))];exact e
  have unl: ∀H',al (aa H t (.bu od (.dK (tK aI)))) H'->al H (aa H' t (.dK (tK aI))):=λH' q c o e=>by
   by_cases z:c=t
   ·rw[z,ao,<-e,z,ht]
   ·rw[aw z];exact q c o (by rw[aw z];exact e)
  have sk:al (aa H t (.bu od (.dK (tK aI)))) (aa H1 t (.bu od (.dK (tK aI)))):=λc o e=>by
   by_cases z:c=t
   ·rw[z,ao];rw[z,ao]at e;exact e
   ·rw[aw z]at e⊢;exact s1 c o e
  have nft:fd≠t:=λe=>by lk
  have Yk:aa H1 t (.bu od (.dK (tK aI))) fd=some (.dK []):=by rw[aw nft];exact Yi
  generalize aa H1 t (.bu od (.dK (tK aI)))=H2 at sk Yk⊢;generalize aa H t (.bu od (.dK (tK aI)))=Hk at*;have ltk:(tK aI).length=aI.length:=by unfold tK;simp
  refine⟨_,rfl,t,od,rfl,.inl ⟨_,sk _ _ hk,ag0 (d:=t) (o:=od) (kvs:=tK aI) (λi σ H5=> ∃v4 v5 v6 F,σ=[some (.ref p),some (.ref t),some (.ref r),some (.ref fd),v4,v5,v6]/\al Hk H5/\g_ H H5 fd F/\BM.iq rows.length b ms (ER rows b) (aI.take i) (jd F)) ⟨none,none,none,[],rfl,sk,g_.nil Yk Yh,BM.iq.start⟩ ?_ ?_ ?_⟩⟩
  ·rintro i σ H5 _ ⟨_,_,_,_,_,s5,_⟩;exact s5 _ _ hk
  ·rintro i kk vv σ H5 hi ⟨v4,v5,v6,F,rfl,s5,FA,FO⟩;obtain⟨OI,rfl⟩:=ane hi;have Yl:aI[i]∈aI:=nY OI;have wK:=gI _ Yl;have g8:aI.take (i+1)=aI.take i++[aI[i]]:=fJ OI;have xK:aI[i]∉aI.take i:=λq=>by
    have:=dL;rw[<-FD i aI,o6]at this;exact this.2.2 _ q _ (by rw[JP OI];exact eG ..) rfl
   rw[g8];generalize aI[i]=x at Yl wK xK⊢;have B5:=Bk.to s5;have R5:=Rk.aA s5;have tY:=Pt.lt x wK;have zi:x<b.length:=by rw[Pt.len];exact wK
   obtain⟨am,ES⟩: ∃am,as[b.getD x 0]?=some am:=⟨_,eh (by rw[B.mem.len];exact tY)⟩
   have IP:=B5.mem.at_ _ _ ES;obtain⟨ar,zj⟩: ∃ar,fx[x]?=some ar:=⟨_,eh (by rw[R.len];exact wK)⟩
   have Ym:=R5.at_ _ _ zj;exists _,rfl,p,_,dx,_,_,rfl,B5.obj,T.lh,T.Ex,Il,_,rfl,pb,_,_,iv (b.getD x 0),rfl,rfl,B5.iw.sq,bc (ca zi);exists _,rfl,p,_,dx,_,_,rfl,B5.obj,T.lh,T.yR,EE,_,rfl,pm,_,_,V.ref am,rfl,rfl,aJ.of B5.mem.af,bc (by rw[gP,ES];rfl),am,_,rfl,.inl IP.sq,_,_,rfl,rfl,_,rfl;refine bq (λc=>?_) (λc=>?_)
   ·have anj:1<(ms.getD (b.getD x 0) []).length:=by
     fin2
    have cT:=Yf FO Pt;have hz:=hR.cT;refine⟨_,rfl,fd,rfl,.inl ⟨_,.inl FA.dict⟩,_,rfl,λda rc=>?_⟩;have s6:=al.new (o:=.dT []) rc;have Yn:aa H5 da (.dT []) da=some (.dT []):=ao;have Yo:=FA.to s6;have Yp:=s5.trans s6;generalize aa H5 da (.dT [])=H6 at s6 Yn Yo Yp⊢;have ank:Hk da=none:=s5.free rc;have nda: ∀i L,(i,da,L)∉F:=λi L q=>by
     have:=FA.gR _ _ _ q;rw[rc]at this;cases this
    obtain⟨dd,xi,L,F1,H7,D1,ET,k7,hx,Ya⟩:=anf (b.getD x 0) Yo Yn nda (Yj _ ank) (cz (by lia));exists _,H7,D1;have s7:al Hk H7:=λc o e=>k7 c o (Yp _ _ e) (aF e (hn _ FA.f0));have B7:=Bk.to s7;have R7:=Rk.aA s7;have OJ:(b.getD x 0,dd,L)∈F1:=eF hx;exists _,rfl,dd,rfl,.inr ⟨_,.inl (ET.gR _ _ _ OJ)⟩,_,rfl,p,dx,_,rfl,B7.obj,yY (by x_go) _ _,_,rfl,_,rfl,r,_,_,V.ref ar,rfl,rfl,aJ.of R7.af,bc (by lk);refine⟨p,dx,pb,pm,ar,as,b,rows.getD x [],ms,rfl,B7,R7.at_ _ _ zj,λy hy=>by rw[Pt.len];exact hR.d8 x wK y hy,hR.jO x wK,λH8 tq s8 atx uH=>?_⟩;refine⟨(by simp),λla wI=>?_⟩;have s9:=al.new (o:=.af []) wI;have Yq:LI (aa H8 la (.af [])) la []:=ao;have OK:=s8.trans s9;have Yr:=s9 _ _ uH;generalize aa H8 la (.af [])=H9 at s9 Yq OK Yr⊢;have FA9:=ET.to OK;have Ys:H7 la=none:=s8.free wI;have la0:Hk la=none:=s7.free Ys;have nla: ∀i l ss,¬kt F1 i l la ss:=λi l ss q=>by
     have:=ET.jQ _ _ _ _ q;unfold LI at this;rw[Ys]at this;cases this
    have anl:L.length<=2000:=by
     fin2
    obtain⟨lq,yi,ss,L1,vU,D2,IQ,k10,hy,BO,iI⟩:=ang (l:=ER rows b x) FA9 hx Yr Yq nla (Yj _ la0) (cz (by lia));exists _,vU,D2;obtain⟨qz,_⟩:=gm.mp hx;have tT:(F1.set xi (b.getD x 0,dd,L1))[xi]?=some (b.getD x 0,dd,L1):=by lk
    have sS:(b.getD x 0,dd,L1)∈F1.set xi (b.getD x 0,dd,L1):=eF tT;have h4:kt (F1.set xi (b.getD x 0,dd,L1)) (b.getD x 0) (ER rows b x) lq ss:=⟨dd,L1,sS,eF hy⟩
    have Yt:=IQ.jQ _ _ _ _ h4;have aty:ss.length<=2000:=by
     rcases iI with rfl|rfl
     ·simp
     ·have hne:L1≠[]:=λe=>by lk
      have:(b.getD x 0,dd,L1)∈F:=by
       fin2
      have:=cT.2.2 _ _ _ _ ⟨dd,L1,this,eF hy⟩;lia
    refine⟨.inl ⟨rfl,_,Yt.sq⟩,_,rfl,lq,_,_,rfl,rfl,Yt,by rw[ax];exact cz (by lia),?_⟩;have OL:=IQ.app (gJ:=ss++[x]) tT hy;have fo:=anc (da:=da) (la:=la) FO wK xK rfl tY anj ET.kF (IQ.kL _ _ _ sS) hx hy Ya BO;rw[asz]at OL;refine⟨_,_,_,_,rfl,?_,?_,fo⟩
    ·intro c o e;have n1:c≠lq:=aF e (hn _ (IQ.f2 _ _ _ _ h4));have n2:c≠dd:=aF e (hn _ (ET.f1 _ _ _ OJ));rw[aw n1];exact k10 c o (OK _ _ (s7 _ _ e)) n2
    ·rw[bI]at OL;exact OL
   ·refine⟨_,_,_,F,rfl,s5,FA,FO.skip λq=>c (decide_eq_true ?_)⟩;fin2
  ·rintro σ H5 ⟨v4,v5,v6,F,rfl,s5,FA,FO⟩;rw[ltk,fK]at FO;exact⟨s5 _ _ hk,_,rfl,k _ fd F (unl H5 s5) (FA.wr tX) FO⟩
end
theorem IR(s:Nat): ∀aI,cI (tK aI) (bQ (s:Int))=if s∈aI then some (V.bl true)else none
 |[]=>by rw[if_neg (by simp)];rfl
 |k::r=>by
  by_cases e:k=s
  ·subst e;rw[if_pos (eG ..)];exact kf rfl
  ·show cI ((bQ (k:Int),V.bl true)::tK r) _=_;rw[i8 (Xx e),IR s r];fin2
def oP(H H':Hp)(pb pm fd:ag):Prop:= ∀c o,H c=some o->c≠pb->c≠pm->c≠fd->H' c=some o
def oP.to(h:oP H H' pb pm fd)(s:al H' H2):oP H H2 pb pm fd:=λc o e n1 n2 n3=>s _ _ (h c o e n1 n2 n3)
def oP.step(h:oP H H' pb pm fd)(s:fb H' H2 pb pm):oP H H2 pb pm fd:=λc o e n1 n2 n3=>s _ _ (h c o e n1 n2 n3) n1 n2
def oP.EM(h:oP H H' pb pm fd)(hl:H l=none):oP H (aa H' l o) pb pm fd:=λc u e n1 n2 n3=>by rw[aw (aF e hl)];exact h c u e n1 n2 n3
section
variable{P:bj}{w:a_}{K:aP}{mg:Str->Option au}{base:Heap}{ad:Ad}
inductive anm(C:ag)(vs:List V)(H:Hp)(Q:VK)(z4:XK):Prop|mk:∀p dx pb pm t r as fx b aI ms rows,vs=[.ref p,.ref t,.ref r]->fw C H p dx pb pm as b ms->BM.io rows.length b ms->cD H r fx rows->zh rows->H t=some (.dK (tK aI))->aI.Nodup->(∀s∈aI,s<rows.length)->(∀H' q dP b' mv gH F,fb H H' pb pm->fw C H' p dx pb pm dP b' gH->H q=none->LI H' q mv->(∀c∈dP,c∈as\/H c=none)->BM.iq rows.length b ms (ER rows b) aI F->BM.pB rows.length b ms (BM.xI ms aI F) (F.map (·.1)) b' gH mv->Q (.ref q) H')->anm C vs H Q z4
def ann(T:cp K mg ad):bN P w K mg base bX 3 ad.De ad.Df ["self","touched","rows"] (anm ad.fG):=by
 refine T.ajC.ok uw (λvs H Q E h=>?_) (λbB A aY s H vs Q E hr h=>?_)
 ·obtain⟨p,dx,pb,pm,t,r,as,fx,b,aI,ms,rows,rfl,_⟩:=h;rfl
 ·obtain⟨p,dx,pb,pm,t,r,as,fx,b,aI,ms,rows,rfl,B,Pt,R,hR,ht,dL,gI,k⟩:=h;have hu:=ki hr;exists _,(aC (bP (i:=3) uw.nd (e_ (pv 0) T.lh T.ajB (ani T) hr.m T.ajA .nil bE (ak (pv 1) (ak (pv 2) ay)))) (aC (bP (i:=4) uw.nd (cH ay)) (aC (Uz (ib eR rfl (af8 (pv 3)) (nh rfl (dt (bU (i:=5) uw.nd) (dt (bU (i:=6) uw.nd) jT))) (aC (bP (i:=7) uw.nd (agR rfl rfl T.EB (pv 6))) (aC (vV (i:=8) rfl uw.nd rfl rfl (vW rfl rfl rfl rfl) (gY (bD bY (aV (pv 0)) (pv 5))) (bz:=[("state",9)]) (gZ (show gz ["self","touched","rows","found","moved","block","looks","parts","rest","state"] (bg NA) _ _=true by x_go)) (λ_ _ _ _ _=>(bU (i:=9) uw.nd)) (λ_ _ _ _ _=>(Hc (ng (Mp hu (pv 9) (pv 1))))) (λ_ _ _ _ _=>(pv 9))) (aC (dF (dY ua (d4 eX (by rfl) T.ee eI (ak (pv 8) ay)) bm (dG _)) (aK (ga (ic iB jJ j0 jy (pv 7) (ak (pv 8) ay)))) dE) (aK (ga (ic iB JS Qo G9 (pv 4) (ak (e_ (pv 0) T.lh T.Wy (X1 T) hr.m T.Wx .nil bE (ak (pv 5) (ak (pv 7) ay))) ay))))))))) (aK (bK (pv 4))))))
  rfl'
  refine⟨_,rfl,p,dx,_,rfl,B.obj,yY (by x_go) _ _,_,rfl,_,rfl,p,dx,pb,pm,t,r,as,fx,b,aI,ms,rows,rfl,B,Pt,R,hR,ht,dL,gI,λH1 fd F s1 FA FO=>?_⟩;refine⟨(by simp),λmv gC=>?_⟩
  have fp: ∀c o,H c=some o->fd≠c:=λc o e q=>by rw[<-q,FA.f0]at e;cases e
  have n1:=fp _ _ B.obj
  have n2:=fp _ _ B.iw
  have n3:=fp _ _ B.mem.af
  have n4:=λq=>fp _ _ (B.mem.li q) rfl
  have B1:=B.to s1
  have m1:mv≠p:=λe=>by rw[e,B1.obj]at gC;cases gC
  have m2:mv≠pb:=λe=>by rw[e,B1.iw]at gC;cases gC
  have m3:mv≠pm:=λe=>by rw[e,B1.mem.af]at gC;cases gC
  have m4:=B1.mem.fresh gC
  have m5:mv≠fd:=λe=>by rw[e,FA.dict]at gC;cases gC
  have IL:=s1.free gC
  have s2:=al.new (o:=.af []) gC
  have Yu:LI (aa H1 mv (.af [])) mv []:=ao
  have B2:=B1.to s2
  have Yv:=FA.to s2
  generalize aa H1 mv (.af [])=H2 at s2 Yu B2 Yv⊢
  refine⟨fd,_,Yv.dict,ql,λod=>?_⟩
  have B3:fw ad.fG (aa H2 fd (.bu od (.dK (gD F)))) p dx pb pm as b ms:=B2.wr n1 n2 n3 n4
  have F3:oP H1 (aa H2 fd (.bu od (.dK (gD F)))) pb pm fd:=λc o e _ _ n=>by rw[aw n];exact s2 _ _ e
  have OM:aa H2 fd (.bu od (.dK (gD F))) fd=some (.bu od (.dK (gD F))):=ao
  have ze:LI (aa H2 fd (.bu od (.dK (gD F)))) mv []:=by
   show aa _ _ _ _=_
   rw[aw m5];exact Yu
  generalize aa H2 fd (.bu od (.dK (gD F)))=H3 at B3 F3 OM ze⊢
  have ano:=OE F
  have II:(gD F).length=F.length:=by unfold gD;simp
  have fr: ∀c,H c=none->c≠pb/\c≠pm/\c≠p/\c≠t:=λc e=>⟨λq=>(by rw[q,B.iw]at e;cases e),λq=>(by rw[q,B.mem.af]at e;cases e),λq=>(by rw[q,B.obj]at e;cases e),λq=>(by lk)⟩
  have nt:t≠pb/\t≠pm/\t≠fd:=⟨bx ht B.iw (by intro q;cases q),bx ht B.mem.af (by intro q;cases q),(fp _ _ ht).symm⟩
  refine⟨_,rfl,fd,od,_,rfl,OM,ag1 (d:=fd) (o:=od) (kvs:=gD F) (λi σ H5=> ∃(v5 v6 v7 v8:Option V)(oQ:bp)(bi rn:aj)(rp:aZ),σ=[some (.ref p),some (.ref t),some (.ref r),some (.ref fd),some (.ref mv),v5,v6,v7,v8,none]/\fw ad.fG H5 p dx pb pm oQ bi rp/\oP H1 H5 pb pm fd/\H5 fd=some (.bu od (.dK (gD F)))/\LI H5 mv rn/\mv∉oQ/\(∀c∈oQ,c∈as\/H c=none)/\fd∉oQ/\BM.pB rows.length b ms (BM.xI ms aI (jd F)) (((jd F).map (·.1)).take i) bi rp rn) ⟨none,none,none,none,as,b,[],ms,rfl,B3,F3,OM,ze,m4,λc h=>.inl h,n4,BM.pB.start Pt⟩ ?_ ?_ ?_⟩
  ·fin2
  ·rintro i kk vv Tt σ H5 hi ⟨v5,v6,v7,v8,oQ,bi,rn,rp,rfl,B5,F5,ON,IS,mi,Yw,Yx,Sp⟩ gj
   obtain⟨⟨j,dd,L⟩,hF,e⟩: ∃e,F[i]?=some e/\(bQ (e.1:Int),V.ref e.2.1)=(kk,vv):=by
    unfold gD at hi
    rw[gP]at hi
    cases q:F[i]? with
    |none=>rw[q]at hi;cases hi
    |some e=>rw[q]at hi;exact⟨e,rfl,bv hi⟩
   cases e
   have zk:=eF hF
   have wL:=rm.mpr ⟨dd,L,zk,rfl⟩
   have Yy:=fr _ (FA.f1 _ _ _ zk)
   have anp:dd≠fd:=bx (FA.gR _ _ _ zk) FA.dict (by intro q;cases q)
   have s6:=al.new (o:=.aE [kV (bQ ((j:Nat):Int)),V.ref dd]) gj
   have anq:aa H5 Tt (.aE [kV (bQ ((j:Nat):Int)),V.ref dd]) Tt=some (.aE [kV (bQ ((j:Nat):Int)),V.ref dd]):=ao
   exists Tt,_,rfl,c8.of ao,rfl,_,_,rfl,_,_,rfl,rfl
   generalize aa H5 Tt (.aE [kV (bQ ((j:Nat):Int)),V.ref dd])=H6 at s6 anq⊢
   have anr:H6 dd=some (.dT (jZ L)):=s6 _ _ (F5 _ _ (FA.gR _ _ _ zk) Yy.1 Yy.2.1 anp)
   refine⟨_,rfl,dd,jZ L,rfl,anr,λpp EU=>?_⟩
   have elk:(jZ L).map (·.2)=(L.map (·.2.1)).map V.ref:=by unfold jZ;simp
   rw[elk]
   have s7:=al.new (o:=.af ((L.map (·.2.1)).map V.ref)) EU
   have Yz:aa H6 pp (.af ((L.map (·.2.1)).map V.ref)) pp=some (.af ((L.map (·.2.1)).map V.ref)):=ao
   have sT:=s6.trans s7
   have rq:H5 pp=none:=s6.free EU
   generalize aa H6 pp (.af ((L.map (·.2.1)).map V.ref))=H7 at s7 Yz sT⊢
   have B7:=B5.to sT
   have F7:=F5.to sT
   have ant:=sT _ _ ON
   have YA:=IS.aA sT
   have hj:j<ms.length:=(FO.gR _ _ wL).2.2.1
   have OO:j∉((jd F).map (·.1)).take i:=λq=>by
    have hn:=FO.j8
    have g7:i<((jd F).map (·.1)).length:=by fin2
    have uD:((jd F).map (·.1))[i]=j:=by
     fin2
    rw[<-FD i ((jd F).map (·.1)),o6]at hn
    exact hn.2.2 _ q j (by rw[JP g7,uD];simp) rfl
   have Gw:((jd F).map (·.1)).take (i+1)=((jd F).map (·.1)).take i++[j]:=by
    have g7:i<((jd F).map (·.1)).length:=by fin2
    have uD:((jd F).map (·.1))[i]=j:=by
     fin2
    rw[fJ g7,uD]
   have uD:j<rp.length:=iC hj Sp.more
   have OP:rp.getD j []=ms.getD j []:=Sp.left j hj OO
   obtain⟨am,ES⟩: ∃am,oQ[j]?=some am:=⟨_,eh (by rw[B5.mem.len];exact uD)⟩
   have IP:LI H7 am (ms.getD j []):=by have:=B7.mem.at_ _ _ ES;rwa[OP]at this
   have ht7:H7 t=some (.dK (tK aI)):=F7 _ _ (s1 _ _ ht) nt.1 nt.2.1 nt.2.2
   have atz:(ms.getD j []).length<=2000:=by have:=Pt.KY hj;have:=hR.cT;lia
   refine⟨_,rfl,p,_,dx,_,_,rfl,B7.obj,T.lh,T.yR,EE,_,rfl,pm,_,_,V.ref am,rfl,rfl,aJ.of B7.mem.af,bc (by lk),am,rfl,⟨_,IP.sq⟩,λD hD=>?_⟩
   refine lN (K:=K) (a:=am) (xs:=(ms.getD j []).map iv)
    (λu H8=>LI H8 D (((ms.getD j []).take u).filter λs=>!aI.contains s)/\al H7 H8) ⟨ao,al.new hD⟩ ?_ ?_ ?_
   ·rintro u H8 _ ⟨_,s8⟩
    exact(IP.aA s8).sq
   ·rintro u x H8 hx ⟨ku,s8⟩
    have g9:u<(ms.getD j []).length:=by
     fin2
    rw[ca g9]at hx
    obtain rfl:=(bv hx).symm
    have g8:(ms.getD j []).take (u+1)=(ms.getD j []).take u++[(ms.getD j []).getD u 0]:=by
     lk
    have og:=tE (λs=>!aI.contains s) ((ms.getD j []).take u)
    rw[il]at og
    have wj:=iO.k (k:=bQ (((ms.getD j []).getD u 0:Nat):Int)) (s8 _ _ ht7)
    rw[IR]at wj
    exists rfl,_,rfl,_,rfl,t,_,rfl,wj,_,rfl
    by_cases hm:(ms.getD j []).getD u 0∈aI
    ·fin2
    ·rw[if_neg hm]
     refine gA ⟨_,rfl,_,ku,?_,?_,λc o e=>?_⟩
     ·rw[ax];exact cz (by lia)
     ·show aa _ _ _ _=_
      have:List.filter (λs=>!aI.contains s) [(ms.getD j []).getD u 0]=[(ms.getD j []).getD u 0]:=by
       lk
      rw[ao,g8,xh,this,bI];rfl
     ·rw[aw (aF e hD)];exact s8 _ _ e
   rintro H8 ⟨ku,s8⟩
   rw[ax,fK]at ku
   have B8:=B7.to s8
   have F8:=F7.to s8
   have YB:=s8 _ _ ant
   have YC:=YA.aA s8
   have OQ:=s8 _ _ Yz
   have OR: ∀q∈L,kt F j q.1 q.2.1 q.2.2:=λq hq=>⟨dd,L,zk,hq⟩
   have OS: ∀c∈L.map (·.2.1),H c=none/\c≠mv/\c≠fd:=λc hc=>by
    obtain⟨q,hq,rfl⟩:=cQ.mp hc
    have h1:=FA.jQ _ _ _ _ (OR q hq)
    refine⟨FA.f2 _ _ _ _ (OR q hq),λe=>?_,bx h1 FA.dict (by intro q;cases q)⟩
    unfold LI at h1
    rw[e,gC]at h1;cases h1
   have anu:D≠pb:=λe=>by rw[e,B7.iw]at hD;cases hD
   have anv:D≠pm:=λe=>by rw[e,B7.mem.af]at hD;cases hD
   have anw:D≠fd:=λe=>by fin2
   have atA:D≠mv:=λe=>by rw[e,YA]at hD;cases hD
   have anx:D≠pp:=λe=>by fin2
   have jF:H1 D=none:=by
    cases q:H1 D with
    |none=>rfl
    |some o=>have:=F7 _ _ q anu anv anw;rw[hD]at this;cases this
   have YD:H D=none:=s1.free jF
   have YE:cD H8 pp (L.map (·.2.1)) ((iV L).map (·.2)):=by
    refine⟨OQ,by unfold iV;simp,λu c e=>?_⟩
    rw[gP]at e
    cases hq:L[u]? with
    |none=>rw[hq]at e;cases e
    |some q=>
     rw[hq]at e
     cases e
     have YF:=eF hq
     have h0:=OS _ (cQ.mpr ⟨q,YF,rfl⟩)
     have h1:=fr _ h0.1
     have:((iV L).map (·.2)).getD u []=q.2.2:=by
      unfold iV
      rw[xb,dy,gP,hq];rfl
     rw[this]
     exact F8 _ _ (FA.jQ _ _ _ _ (OR q YF)) h1.1 h1.2.1 h0.2.2
   have anl:=(Yf FO Pt).2.1 _ _ _ zk
   have sU:pp≠mv/\pp≠fd/\pp≠p/\pp≠pb/\pp≠pm/\pp∉oQ:=⟨λe=>(by rw[e,IS]at rq;cases rq),λe=>(by fin2),λe=>(by rw[e,B5.obj]at rq;cases rq),λe=>(by rw[e,B5.iw]at rq;cases rq),λe=>(by rw[e,B5.mem.af]at rq;cases rq),B5.mem.fresh rq⟩
   have anz:H1 pp=none:=by
    cases q:H1 pp with
    |none=>rfl
    |some o=>have:=F5 _ _ q sU.2.2.2.1 sU.2.2.2.2.1 sU.2.1;rw[rq]at this;cases this
   refine⟨_,rfl,D,_,rfl,.inl ku.sq,_,_,rfl,rfl,_,rfl,bq (λc=>?_) (λc=>?_)⟩
   ·have hne:(ms.getD j []).filter (λs=>!aI.contains s)≠[]:=λz=>by
     fin2
    have OT:BM.kU ms aI j (iV L)=(iV L).map (·.2)++[(ms.getD j []).filter (λs=>!aI.contains s)]:=by unfold BM.kU;rw[if_neg hne]
    refine⟨_,rfl,.inl ⟨rfl,_,aJ.of OQ⟩,_,rfl,pp,_,_,rfl,rfl,OQ,by rw[ax,ax];exact cz (by have:=hR.cT;lia),?_⟩
    have RP:=YE.push ku anx.symm
    rw[<-OT]at RP
    have B9:fw ad.fG (aa H8 pp (.af ((L.map (·.2.1)).map V.ref++[V.ref D]))) p dx pb pm oQ bi rp:=B8.wr sU.2.2.1 sU.2.2.2.1 sU.2.2.2.2.1 sU.2.2.2.2.2
    have F9:oP H1 (aa H8 pp (.af ((L.map (·.2.1)).map V.ref++[V.ref D]))) pb pm fd:=F8.EM anz
    have IT:aa H8 pp (.af ((L.map (·.2.1)).map V.ref++[V.ref D])) fd=some (.bu od (.dK (gD F))):=by rw[aw sU.2.1.symm];exact YB
    have zm:LI (aa H8 pp (.af ((L.map (·.2.1)).map V.ref++[V.ref D]))) mv rn:=by
     show aa _ _ _ _=_
     rw[aw sU.1.symm];exact YC
    have OU: ∀c∈L.map (·.2.1)++[D],H c=none/\c≠mv/\c≠fd:=λc hc=>by
     rcases cN.mp hc with z|z
     ·exact OS c z
     ·fin2
    generalize aa H8 pp (.af ((L.map (·.2.1)).map V.ref++[V.ref D]))=H9 at RP B9 F9 IT zm⊢
    refine⟨_,rfl,.inl ⟨rfl,_,zm.sq⟩,_,rfl,p,dx,_,rfl,B9.obj,yY (by x_go) _ _,_,rfl,_,rfl,p,dx,pb,pm,pp,oQ,_,bi,rp,_,rows.length,j,rfl,B9,RP,Sp.eW,uD,(by rw[OP];exact(FO.perm Pt wL).1),(FO.perm Pt wL).2,(λq=>(fr pb (OU pb q).1).1 rfl),hR.cT,λvU EV dP b' pC gH sV EW YG EX SO sub=>?_⟩
    have OV:LI vU mv rn:=sV _ _ zm m2 m3
    have EY:=BM.pB.step (b2:=b') (AJ:=gH) (pC:=pC) Pt Sp hj OO (by rw[FO.pf wL];exact SO)
    have OW:=BM.ip rows.length _ EY.AE λx hx=>(EY.d8 x hx).1
    rw[dS]at OW
    have anA:=hR.cT
    refine⟨mv,EV,_,_,rfl,rfl,OV,EX,by rw[ax,ax];exact kr (by lia),?_⟩
    have EZ:mv∉dP:=λq=>by
     fin2
    have OX:fd∉dP:=λq=>by
     fin2
    refine⟨_,_,_,_,dP,b',rn++pC,gH,rfl,EW.wr m1 m2 m3 EZ,(F9.step sV).EM gC,?_,?_,EZ,λc hc=>?_,OX,by fin2⟩
    ·rw[aw m5.symm];exact sV _ _ IT n2 n3
    ·show aa _ _ _ _=_
     rw[ao,bI]
    ·fin2
   ·have he:(ms.getD j []).filter (λs=>!aI.contains s)=[]:=by
     by_cases z:(ms.getD j []).filter (λs=>!aI.contains s)=[]
     ·exact z
     ·refine(c (decide_eq_true ?_)).elim
      have:=List.length_pos_iff.mpr z
      fin2
    have OT:BM.kU ms aI j (iV L)=(iV L).map (·.2):=by unfold BM.kU;fin2
    have RP:=YE
    rw[<-OT]at RP
    have B9:=B8
    have F9:=F8
    have IT:=YB
    have zm:=YC
    have OU:=OS
    refine⟨_,rfl,.inl ⟨rfl,_,zm.sq⟩,_,rfl,p,dx,_,rfl,B9.obj,yY (by x_go) _ _,_,rfl,_,rfl,p,dx,pb,pm,pp,oQ,_,bi,rp,_,rows.length,j,rfl,B9,RP,Sp.eW,uD,(by rw[OP];exact(FO.perm Pt wL).1),(FO.perm Pt wL).2,(λq=>(fr pb (OU pb q).1).1 rfl),hR.cT,λvU EV dP b' pC gH sV EW YG EX SO sub=>?_⟩
    have OV:LI vU mv rn:=sV _ _ zm m2 m3
    have EY:=BM.pB.step (b2:=b') (AJ:=gH) (pC:=pC) Pt Sp hj OO (by rw[FO.pf wL];exact SO)
    have OW:=BM.ip rows.length _ EY.AE λx hx=>(EY.d8 x hx).1
    rw[dS]at OW
    have anA:=hR.cT
    refine⟨mv,EV,_,_,rfl,rfl,OV,EX,by rw[ax,ax];exact kr (by lia),?_⟩
    have EZ:mv∉dP:=λq=>by
     fin2
    have OX:fd∉dP:=λq=>by
     fin2
    refine⟨_,_,_,_,dP,b',rn++pC,gH,rfl,EW.wr m1 m2 m3 EZ,(F9.step sV).EM gC,?_,?_,EZ,λc hc=>?_,OX,by fin2⟩
    ·rw[aw m5.symm];exact sV _ _ IT n2 n3
    ·show aa _ _ _ _=_
     rw[ao,bI]
    ·fin2
  ·rintro σ H5 ⟨v5,v6,v7,v8,oQ,bi,rn,rp,rfl,B5,F5,ON,IS,mi,Yw,Yx,Sp⟩
   rw[II,<-ax (f:=λ(e:lT)=>e.1),<-ano,fK]at Sp
   refine⟨ON,_,rfl,k _ mv oQ bi rn rp (jd F) (λc o e q1 q2=>?_) (B5.wr n1 n2 n3 Yx) IL ?_ Yw FO Sp⟩
   ·rw[aw (fp _ _ e).symm]
    exact F5 _ _ (s1 _ _ e) q1 q2 (fp _ _ e).symm
   ·show aa _ _ _ _=_
    rw[aw m5];exact IS
end
def anB(aI:aj)(s:Nat):dI (tK aI) (bQ (s:Int)) (V.bl true)=tK (BM.aB aI s):=by
 by_cases hn:s∈aI
 ·rw[BM.j6 hn];have Ol:((tK aI).any λkv=>decide (kv.1=bQ (s:Int)))=true:=by
   rw[qJ,IR,if_pos hn];rfl
  unfold dI;rw[if_pos Ol];have: ∀kv∈tK aI,(if kv.1=bQ (s:Int)then(kv.1,V.bl true)else kv)=kv:=λkv h=>by
   obtain⟨x,_,rfl⟩:=cQ.mp h;split<;>rfl
  rw[fy this,asA]
 ·rw[BM.l0 hn,ue _ (by rw[IR,if_neg hn])];unfold tK;rw[bI];rfl
section
variable{P:bj}{w:a_}{K:aP}{mg:Str->Option au}{base:Heap}{ad:Ad}
inductive YH(vs:List V)(H:Hp)(Q:VK)(z3:XK):Prop|mk:∀q so rA mv eP n,vs=[.ref q,.ref so]->LI H q mv->cD H so rA eP->(∀s∈mv,s<eP.length)->(∀s,s<eP.length-> ∀x∈eP.getD s [],x<n)->n<=2000->(∀H' t aI,al H H'->H t=none->H' t=some (.dK (tK aI))->aI.Nodup->(∀s,s∈aI↔ ∃m∈mv,s∈eP.getD m [])->Q (.ref t) H')->YH vs H Q z3
def anC(T:cp K mg ad):bN P w K mg base bX 1 ad.DZ ad.D0 ["moved","sources"] YH:=by
 refine T.WP.ok HY (λvs H Q E h=>?_) (λbB A aY s H vs Q E hr h=>?_)
 ·obtain⟨q,so,rA,mv,eP,n,rfl,_⟩:=h
  rfl
 ·obtain⟨q,so,rA,mv,eP,n,rfl,hq,R,gC,gI,hn,k⟩:=h;have hu:=ki hr;exists _,(aC (bP (i:=2) HY.nd Hf) (aC (ib eR rfl (gY (pv 0)) (bU (i:=3) HY.nd) (aK (ib eR rfl (gY (bD bY (pv 1) (pv 3))) (bU (i:=4) HY.nd) (aK (uh hu (pv 2) (pv 4) GQ rfl))))) (aK (bK (pv 2)))))
  rfl'
  intro t ht;have s1:=al.new (o:=.dK []) ht;have gE:aa H t (.dK []) t=some (.dK []):=ao;generalize aa H t (.dK [])=H1 at s1 gE⊢;refine⟨_,rfl,q,rfl,⟨_,(hq.aA s1).sq⟩,su (K:=K) (a:=q) (xs:=mv.map iv) (λi σ H'=> ∃v3 v4 aI,σ=[some (.ref q),some (.ref so),some (.ref t),v3,v4]/\al H H'/\H' t=some (.dK (tK aI))/\aI.Nodup/\ ∀s,s∈aI↔ ∃m∈mv.take i,s∈eP.getD m []) ⟨none,none,[],rfl,s1,gE,by simp,by simp⟩ ?_ ?_ ?_⟩
  ·rintro i σ H' _ ⟨_,_,_,_,s2,_⟩;exact(hq.aA s2).sq
  ·rintro i x σ H' hx ⟨v3,v4,aI,rfl,s2,lr,dL,jX⟩;have hi:i<mv.length:=by
    have:=(gm.mp hx).1
    rwa[ax]at this
   rw[ca hi]at hx;obtain rfl:=(bv hx).symm;have hm:mv.getD i 0∈mv:=BM.eU hi;have hms:=gC _ hm;obtain⟨a,ha⟩: ∃a,rA[mv.getD i 0]?=some a:=⟨_,eh (by rw[R.len];exact hms)⟩
   have YI:=R.at_ _ _ ha;have g8:mv.take (i+1)=mv.take i++[mv.getD i 0]:=by lk
   refine⟨_,rfl,_,rfl,so,_,_,V.ref a,rfl,rfl,aJ.of (s2 _ _ R.af),bc (by rw[gP,ha];rfl),a,rfl,⟨_,(YI.aA s2).sq⟩,su (K:=K) (a:=a) (xs:=(eP.getD (mv.getD i 0) []).map iv) (λu σ H'=> ∃v4 pr,σ=[some (.ref q),some (.ref so),some (.ref t),some (iv (mv.getD i 0)),v4]/\al H H'/\H' t=some (.dK (tK pr))/\pr.Nodup/\ ∀s,s∈pr↔s∈aI\/s∈(eP.getD (mv.getD i 0) []).take u) ⟨_,aI,rfl,s2,lr,dL,by simp⟩ ?_ ?_ ?_⟩
   ·rintro u σ H' _ ⟨_,_,_,s3,_⟩;exact(YI.aA s3).sq
   ·rintro u x σ H' hx ⟨ID,pr,rfl,s3,IU,y_,anD⟩;have g9:u<(eP.getD (mv.getD i 0) []).length:=by
     have:=(gm.mp hx).1
     rwa[ax]at this
    rw[ca g9]at hx;obtain rfl:=(bv hx).symm;have atB:=BM.ip n pr y_ λs hs=>by
     fin2
    exists _,rfl,_,rfl,t,_,rfl,mj.k (k:=bQ (((eP.getD (mv.getD i 0) []).getD u 0:Nat):Int)) IU (by unfold tK;rw[ax];exact cz (by lia));rw[anB];refine⟨_,_,rfl,λc o e=>?_,ao,BM.Gb y_,λs=>?_⟩
    ·rw[aw (aF e ht)];exact s3 _ _ e
    ·rw[BM.pj,anD s,fJ g9,cN,hZ,BM.cr g9,or_assoc]
   ·fin2
  ·rintro σ H' ⟨v3,v4,aI,rfl,s2,lr,dL,jX⟩;rw[ax,fK]at jX;exact⟨_,rfl,k H' t aI s2 ht lr dL jX⟩
end
def cD.fr2(h:cD H a as rs)(f:fb H H' pb pm)(n1:a≠pb)(n2:a≠pm)(n3:pb∉as)(n4:pm∉as):cD H' a as rs:=
 ⟨f _ _ h.af n1 n2,h.len,λi b e=>f _ _ (h.at_ i b e) (λq=>n3 (q▸eF e)) (λq=>n4 (q▸eF e))⟩
def OY(x k:Nat):decide (V.int (x:Int)=V.int (k:Int))=(x==k):=by
 fin2
section
variable{P:bj}{w:a_}{K:aP}{mg:Str->Option au}{base:Heap}{ad:Ad}
inductive E1(vs:List V)(H:Hp)(Q:VK)(z3:XK):Prop|mk:∀r fx rows,vs=[.ref r]->cD H r fx rows->zh rows->(∀H' so rA eP,al H H'->H so=none->cD H' so rA eP->(∀c∈rA,H c=none)->eP.length=rows.length->(∀x s,x<rows.length->(s∈eP.getD x []↔s<rows.length/\x∈rows.getD s []))->Q (.ref so) H')->E1 vs H Q z3
inductive anE(vs:List V)(H:Hp)(Q:VK)(z3:XK):Prop|mk:∀r tk fx rows bw W,vs=[.ref r,.ref tk]->cD H r fx rows->zh rows->BM.gq rows W->0<rows.length->LI H tk bw->bw.length=rows.length->(∀s,s<rows.length->bw.getD s 0=0\/bw.getD s 0=1)->(∀H' q b,al H H'->H q=none->LI H' q b->b.length=rows.length->BM.l6 rows W (bw.map λx=>decide (x=1)) b->BM.kN rows W (bw.map λx=>decide (x=1)) b->Q (.ref q) H')->anE vs H Q z3
def anF(T:cp K mg ad)(E2:bN P w K mg base bX 1 ad.ux ad.uz ["rows"] E1):bN P w K mg base bX 4 ad.D4 ad.D5 ["rows","taking"] anE:=by
 refine T.WQ.ok nG (λvs H Q E h=>?_) (λbB A aY s H vs Q E hr h=>?_)
 ·obtain⟨r,tk,fx,rows,bw,W,rfl,_⟩:=h;rfl
 ·obtain⟨r,tk,fx,rows,bw,W,rfl,R,hR,hT,mE,lu,jY,wM,k⟩:=h;have hu:=ki hr;have sx:=hR.cT;exists _,(aC (bP (i:=2) nG.nd (vN T.aiS (amO T) hr.m rfl T.aiT T.aju .nil bE (ak (d4 eX (by rfl) T.ee eI (ak (pv 0) ay)) ay))) (aC (vV (i:=3) rfl nG.nd rfl rfl (vW rfl rfl rfl rfl) (qL rfl T.qV (ak (pv 1) ay)) (bz:=[("state",7),("takes",8)]) (gZ (show gz ["rows","taking","blocks","takers","others","moved","sources","state","takes","part"] (bg Ce) _ _=true by x_go)) (λ_ _ _ _ _=>(yB (n:=2) K rfl (dt (bU (i:=7) nG.nd) (dt (bU (i:=8) nG.nd) jT)))) (λ_ _ _ _ _=>(Hc (dY me (pv 8) bm (dG _)))) (λ_ _ _ _ _=>(pv 7))) (aC (vV (i:=4) rfl nG.nd rfl rfl (vW rfl rfl rfl rfl) (qL rfl T.qV (ak (pv 1) ay)) (bz:=[("state",7),("takes",8)]) (gZ (show gz ["rows","taking","blocks","takers","others","moved","sources","state","takes","part"] (bg Ce) _ _=true by x_go)) (λ_ _ _ _ _=>(yB (n:=2) K rfl (dt (bU (i:=7) nG.nd) (dt (bU (i:=8) nG.nd) jT)))) (λ_ _ _ _ _=>(Hc (dY me (pv 8) bm (dG _)))) (λ_ _ _ _ _=>(pv 7))) (aC (bP (i:=5) nG.nd (e_ (pv 2) T.lh T.Wy (X1 T) hr.m T.Wx .nil bE (ak bm (ak (ke rfl nG.nd (Ta (G5 (ak (pv 3) (ak (pv 4) ay)))) (bz:=[("part",9)]) (gZ (show gz ["rows","taking","blocks","takers","others","moved","sources","state","takes","part"] (bg Ce) _ _=true by x_go)) (λ_ _ _ _ _=>(bU (i:=9) nG.nd)) (λ_ _ _ _ _=>(Hc (dY ua (d4 (U0 K) (by rfl) T.ee eI (ak (pv 9) ay)) bm (dG _)))) (λ_ _ _ _ _=>(pv 9))) ay)))) (aC (bP (i:=6) nG.nd (gy E2 hr.m rfl T.akk T.WO.kp T.akj .nil bE (ak (pv 0) ay))) (aC (pN eR (dY ua (d4 eX (by rfl) T.ee eI (ak (pv 5) ay)) bm (dG _)) (aK (bP (i:=5) nG.nd (e_ (pv 2) T.lh T.ajE (ann T) hr.m T.ajD .nil bE (ak (gy (anC T) hr.m rfl T.akm T.WP.kp T.akl .nil bE (ak (pv 5) (ak (pv 6) ay))) (ak (pv 0) ay)))))) (aK (bK (aV (pv 2))))))))))
  rfl'
  refine⟨_,rfl,r,_,rfl,.inl (aJ.of R.af),λp dx hp re hne=>?_⟩;refine⟨p,dx,rows.length,by rw[ax,R.len];rfl,ao,sx,λH1 pb pm a0 B1 fpb fpm fa0 s1'=>⟨rfl,?_⟩⟩;have s1:=al.made hp re s1';have zd:=qa (qa fpb);have uG:=qa (qa fpm);refine⟨_,rfl,tk,_,rfl,(lu.aA s1).sq,λaT IV=>UY (K:=K) (a:=tk) (xs:=bw.map iv) (λj H5=>LI H5 aT ((aU j).filter λs=>bw.getD s 0==1)/\al H1 H5) ⟨ao,al.new IV⟩ ?_ ?_ ?_⟩
  ·rintro j H5 _ ⟨_,s5⟩;exact(lu.aA (s1.trans s5)).sq
  ·rintro j x Tt H5 hx ⟨bn,s5⟩ gj;have hj:j<bw.length:=by
    fin2
   rw[ca hj]at hx;obtain rfl:=(bv hx).symm;have s6:=al.new (o:=.aE [V.int (j:Nat),iv (bw.getD j 0)]) gj;have og:=tE (λs=>bw.getD s 0==1) (aU j);rw[iX]at og;exists Tt,_,rfl,c8.of ao,rfl,_,_,rfl,_,_,rfl,rfl,rfl,_,rfl,rfl,_,rfl;have et:decide (iv (bw.getD j 0)=V.int 1)=(bw.getD j 0==1):=OY _ 1;refine bq (λc=>?_) (λc=>?_)
   ·have c':(bw.getD j 0==1)=true:=by rw[<-et];exact c
    refine⟨_,rfl,_,s6 _ _ bn,?_,?_,λc o e=>?_⟩
    ·rw[ax];exact cz (by lia)
    ·show aa _ _ _ _=_;rw[ao,lD,xh,xc (p:=λs=>bw.getD s 0==1) (a:=j) c',bI];rfl
    ·rw[aw (aF e IV)];exact s6 _ _ (s5 _ _ e)
   ·have c':¬(bw.getD j 0==1)=true:=by rw[<-et];exact c
    refine⟨?_,s5.trans s6⟩;have:=bn.aA s6;show _=_;rw[lD,xh,FC (p:=λs=>bw.getD s 0==1) (a:=j) c',arV,lE];exact this
  rintro H2 ⟨kg,dQ⟩;rw[ax,jY]at kg;have s2:=s1.trans dQ;have B2:=B1.to dQ;refine⟨_,rfl,tk,_,rfl,(lu.aA s2).sq,λaO zn=>UY (K:=K) (a:=tk) (xs:=bw.map iv) (λj H5=>LI H5 aO ((aU j).filter λs=>bw.getD s 0==0)/\al H2 H5) ⟨ao,al.new zn⟩ ?_ ?_ ?_⟩
  ·rintro j H5 _ ⟨_,s5⟩;exact(lu.aA (s2.trans s5)).sq
  ·rintro j x Tt H5 hx ⟨bn,s5⟩ gj;have hj:j<bw.length:=by
    fin2
   rw[ca hj]at hx;obtain rfl:=(bv hx).symm;have s6:=al.new (o:=.aE [V.int (j:Nat),iv (bw.getD j 0)]) gj;have og:=tE (λs=>bw.getD s 0==0) (aU j);rw[iX]at og;exists Tt,_,rfl,c8.of ao,rfl,_,_,rfl,_,_,rfl,rfl,rfl,_,rfl,rfl,_,rfl;have et:decide (iv (bw.getD j 0)=V.int 0)=(bw.getD j 0==0):=OY _ 0;refine bq (λc=>?_) (λc=>?_)
   ·have c':(bw.getD j 0==0)=true:=by rw[<-et];exact c
    refine⟨_,rfl,_,s6 _ _ bn,?_,?_,λc o e=>?_⟩
    ·rw[ax];exact cz (by lia)
    ·show aa _ _ _ _=_;rw[ao,lD,xh,xc (p:=λs=>bw.getD s 0==0) (a:=j) c',bI];rfl
    ·rw[aw (aF e zn)];exact s6 _ _ (s5 _ _ e)
   ·have c':¬(bw.getD j 0==0)=true:=by rw[<-et];exact c
    refine⟨?_,s5.trans s6⟩;have:=bn.aA s6;show _=_;rw[lD,xh,FC (p:=λs=>bw.getD s 0==0) (a:=j) c',arV,lE];exact this
  rintro H3 ⟨YJ,OZ⟩;rw[ax,jY]at YJ;have s3:=s2.trans OZ;have B3:=B2.to OZ;have hT3:=kg.aA OZ;have n1:aT≠aO:=λe=>by rw[<-e,kg]at zn;cases zn
  have eT:=hT3.rd;have eO:=YJ.rd;have mF: ∀a∈[aT,aO],LI H3 a (rd H3 a):=λa ha=>by
   fin2
  have anG: ∀a∈[aT,aO],a≠pb:=λa ha=>by
   rcases cO.mp ha with rfl|ha
   ·exact λe=>by rw[e,B1.iw]at IV;cases IV
   ·rw[hZ.mp ha];exact λe=>by rw[e,B2.iw]at zn;cases zn
  have og: ∀a∈[aT,aO],(rd H3 a).length<=2000:=λa ha=>by
   fin2
  refine⟨_,rfl,p,dx,_,rfl,B3.obj,yY (by x_go) _ _,_,rfl,_,rfl,(cA rfl),λtq uH=>?_⟩;have O0:=al.new (o:=.aE [V.ref aT,V.ref aO]) uH;have O1:aa H3 tq (.aE [V.ref aT,V.ref aO]) tq=some (.aE [V.ref aT,V.ref aO]):=ao;generalize aa H3 tq (.aE [V.ref aT,V.ref aO])=H4 at O0 O1⊢;refine⟨tq,rfl,⟨_,c8.of O1⟩,λD hD=>Uk (K:=K) (a:=tq) (xs:=[V.ref aT,V.ref aO]) (λj H5=>al H4 H5/\H5 D=some (.af ((([aT,aO].take j).filter λa=>!(rd H3 a).isEmpty).map V.ref))) ⟨al.new hD,ao⟩ ?_ ?_ ?_⟩
  ·rintro j H5 _ ⟨s5,_⟩;exact c8.of (s5 _ _ O1)
  ·rintro j x H5 hx ⟨s5,bn⟩;obtain⟨a,O2,rfl⟩: ∃a,[aT,aO][j]?=some a/\x=V.ref a:=by
    have:[V.ref aT,V.ref aO]=[aT,aO].map V.ref:=rfl;rw[this,gP]at hx
    cases q:[aT,aO][j]? with
    |none=>rw[q]at hx;cases hx
    |some a=>rw[q]at hx;exact⟨a,rfl,(bv hx).symm⟩
   have ES:=eF O2;have sO:=(gm.mp O2).1;have g8:[aT,aO].take (j+1)=[aT,aO].take j++[a]:=by
    rw[fJ sO,(gm.mp O2).2]
   have IJ:LI H5 a (rd H3 a):=(mF a ES).aA (O0.trans s5);exists rfl,_,rfl,a,_,rfl,.inl IJ.sq,_,_,rfl,rfl,_,rfl;refine bq (λc=>?_) (λc=>?_)
   ·have c':(!(rd H3 a).isEmpty)=true:=by
     cases q:rd H3 a with
     |nil=>rw[q]at c;exact absurd c (by room)
     |cons=>rfl
    refine⟨_,rfl,_,bn,?_,λc o e=>?_,?_⟩
    ·rw[ax];have:=tE (λa=>!(rd H3 a).isEmpty) ([aT,aO].take j);rw[il]at this;have atC:j<2:=sO;exact cz (by lia)
    ·rw[aw (aF e hD)];exact s5 _ _ e
    ·rw[ao,g8,xh,xc (p:=λa=>!(rd H3 a).isEmpty) c',bI];rfl
   ·lk
  rintro H5 ⟨s45,bn⟩;have bn:H5 D=some (.af (([aT,aO].filter λa=>!(rd H3 a).isEmpty).map V.ref)):=bn;have IW:=O0.trans s45;have B5:=B3.to IW;have IX: ∀a∈[aT,aO].filter λa=>!(rd H3 a).isEmpty,a∈[aT,aO]:=λa ha=>(tG.mp ha).1;have RP:cD H5 D ([aT,aO].filter λa=>!(rd H3 a).isEmpty) (([aT,aO].filter λa=>!(rd H3 a).isEmpty).map (rd H3)):=by
   have:=amK bn λb hb=>by
    have:=(mF b (IX b hb)).aA IW;rw[this.rd];exact this
   have e:([aT,aO].filter λa=>!(rd H3 a).isEmpty).map (rd H5)=([aT,aO].filter λa=>!(rd H3 a).isEmpty).map (rd H3):=by
    apply fy;intro a ha;exact((mF a (IX a ha)).aA IW).rd
   rwa[e]at this
  have anH: ∀l:bp,((l.filter λa=>!(rd H3 a).isEmpty).map (rd H3)).flatten=(l.map (rd H3)).flatten:=λl=>by
   induction l with
   |nil=>rfl
   |cons a l ih=>
    cases q:rd H3 a with
    |nil=>
     lk
    |cons x y=>
     lk
  have sF:((([aT,aO].filter λa=>!(rd H3 a).isEmpty).map (rd H3)).flatten).Perm (aU rows.length):=by
   rw[anH];show(rd H3 aT++(rd H3 aO++[])).Perm _;rw[lE,eT,eO];exact BM.adl wM
  have anI: ∀p∈([aT,aO].filter λa=>!(rd H3 a).isEmpty).map (rd H3),p≠[]:=λp hp e=>by
   obtain⟨a,ha,rfl⟩:=cQ.mp hp;fin2
  have anJ: ∀s t,s<rows.length->t<rows.length->((∃p∈([aT,aO].filter λa=>!(rd H3 a).isEmpty).map (rd H3),s∈p/\t∈p)↔bw.getD s 0=bw.getD t 0):=λs t hs ht=>by
   have mT: ∀x,x∈rd H3 aT↔x<rows.length/\bw.getD x 0=1:=λx=>by rw[eT,tG,lF,beq_iff_eq]
   have mO: ∀x,x∈rd H3 aO↔x<rows.length/\bw.getD x 0=0:=λx=>by rw[eO,tG,lF,beq_iff_eq]
   have inn: ∀a∈[aT,aO],∀x,x∈rd H3 a->rd H3 a∈([aT,aO].filter λa=>!(rd H3 a).isEmpty).map (rd H3):=λa ha x hx=>by
    refine cQ.mpr ⟨a,tG.mpr ⟨ha,?_⟩,rfl⟩
    cases q:rd H3 a with
    |nil=>rw[q]at hx;cases hx
    |cons=>rfl
   constructor
   ·rintro⟨p,hp,h1,h2⟩;obtain⟨a,ha,rfl⟩:=cQ.mp hp;rcases cO.mp (IX a ha)with rfl|ha
    ·fin2
    ·fin2
   ·intro e;rcases wM s hs with h|h
    ·have a1:=(mO s).mpr ⟨hs,h⟩;exact⟨_,inn aO (by simp) s a1,a1,(mO t).mpr ⟨ht,e▸h⟩⟩
    ·fin2
  refine⟨p,dx,pb,pm,D,[a0],_,_,_,_,rows.length,0,rfl,B5,RP,BM.io.start mE,by simp,sF,anI,λq=>anG pb (IX pb q) rfl,sx,λH6 q dP b mv ms F6 B6 fW sJ SO sub=>?_⟩;have rd1:=BM.adm (W:=W) wM anJ jY SO;have s5:=s3.trans IW;have YK:al H H6:=λc o e=>F6 _ _ (s5 _ _ e) (aF e zd) (aF e uG);refine⟨_,rfl,r,fx,rows,rfl,R.aA YK,hR,λH7 so rA eP s7 zo RS YL E3 AN=>?_⟩;have B7:=B6.to s7;have yG:=sJ.aA s7;have YM: ∀H8,fb H7 H8 pb pm->al H H8:=λH8 f c o e=>f _ _ (s7 _ _ (YK _ _ e)) (aF e zd) (aF e uG);have YN:so≠pb/\so≠pm:=⟨λe=>(by rw[e,B6.iw]at zo;cases zo),λe=>(by rw[e,B6.mem.af]at zo;cases zo)⟩
  have YO:pb∉rA/\pm∉rA:=⟨λe=>(by have:=YL _ e;rw[B6.iw]at this;cases this),λe=>(by have:=YL _ e;rw[B6.mem.af]at this;cases this)⟩
  exists λm σ H8=> ∃(q as b mv:_)(ms:aZ)(bo:aj)(N:Nat),m=(rows.length-ms.length)+(if mv=[]then 0 else 1)/\σ=[some (.ref r),some (.ref tk),some (.ref p),some (.ref aT),some (.ref aO),some (.ref q),some (.ref so),none,none,none]/\fw ad.fG H8 p dx pb pm as b ms/\BM.io rows.length b ms/\LI H8 q mv/\fb H7 H8 pb pm/\(∀s∈mv,s<rows.length)/\BM.pz rows W (bw.map λx=>decide (x=1)) bo b N (λx=>x∈mv),⟨_,q,dP,b,mv,ms,_,1,rfl,rfl,B7,SO.eW,yG,fb.of (al.refl _),λs hs=>(SO.d8 s hs).1,rd1⟩
  rintro m σ H8 ⟨q8,as8,b8,zp,IY,bo,N,rfl,rfl,B8,P8,pZ,F8,anK,Rd⟩;exists _,rfl,q8,_,rfl,.inl pZ.sq,_,_,rfl,rfl,_,rfl;refine bq (λc=>?_) (λc=>?_)
  ·have hne:zp≠[]:=λe=>by
    lk
   exists fun aL H'=> ∃m',m'<(rows.length-IY.length)+(if zp=[]then 0 else 1)/\ ∃(q as b mv:_)(ms:aZ)(bo:aj)(N:Nat),m'=(rows.length-ms.length)+(if mv=[]then 0 else 1)/\aL=[some (.ref r),some (.ref tk),some (.ref p),some (.ref aT),some (.ref aO),some (.ref q),some (.ref so),none,none,none]/\fw ad.fG H' p dx pb pm as b ms/\BM.io rows.length b ms/\LI H' q mv/\fb H7 H' pb pm/\(∀s∈mv,s<rows.length)/\BM.pz rows W (bw.map λx=>decide (x=1)) bo b N (λx=>x∈mv),fun aL H' h=>h
   have RS8:=RS.fr2 F8 YN.1 YN.2 YO.1 YO.2;refine⟨_,rfl,p,dx,_,rfl,B8.obj,yY (by x_go) _ _,_,rfl,_,rfl,q8,so,rA,zp,eP,rows.length,rfl,pZ,RS8,λs hs=>by lk,λs hs x hx=>((AN s x (E3▸hs)).mp hx).1,sx,λH9 t aI s9 ht9 ht dL jX=>?_⟩;have B9:=B8.to s9;have R9:=(R.aA (YM H8 F8)).aA s9;have cC: ∀s,s<rows.length->(s∈aI↔BM.oa rows W (λx=>x∈zp) s):=λs hs=>by
    rw[jX s];exact BM.adk hT E3 anK AN hs
   have anL: ∀s∈aI,s<rows.length:=λs hs=>by
    obtain⟨m,hm,h⟩:=(jX s).mp hs;lk
   refine⟨_,rfl,p,dx,pb,pm,t,r,as8,fx,b8,aI,IY,rows,rfl,B9,P8,R9,hR,ht,dL,anL,λvU EV anM b10 IZ YQ F sV EW YG EX atD FO Sp=>?_⟩;have pr:=BM.adc P8 FO cC (λs t hs ht=>BM.adj hT b8 hs ht) Sp;have Rn:=Rd.next (N':=IY.length) (KR:=λx=>x∈IZ) hT pr (λi hi=>P8.lt i hi) (λi hi hm=>(Sp.fi i hi hm).symm) (λi hi hm=>Sp.xG i hi hm);have atE:=Sp.eW.cT;have more:=Sp.more;have grown:=Sp.grown;refine⟨(rows.length-YQ.length)+(if IZ=[]then 0 else 1),?_,EV,anM,b10,IZ,YQ,b8,IY.length,rfl,rfl,EW,Sp.eW,EX,(F8.trans (fb.of s9)).trans sV,λs hs=>(Sp.d8 s hs).1,Rn⟩;rw[if_neg hne];by_cases z:IZ=[]
   ·rw[if_pos z];lia
   ·fin2
  ·have he:zp=[]:=by
    cases q:zp with
    |nil=>rfl
    |cons x l=>
     lk
   exists _,rfl,p,_,dx,_,_,rfl,B8.obj,T.lh,T.Ex,Il;exact k H8 pb b8 (YM H8 F8) zd B8.iw P8.len Rd.xC (Rd.acV hT λi hm=>by lk)
end
def anN(x b:Nat):((x:Int))*2^((b:Int).toNat)=((x*2^b:Nat):Int):=by
 simp
def anO{ts:List Bool}(hj:j<ts.length)(h: ∀q,T.testBit q=(decide (q<j)&&ts.getD q false)): ∀q,(T|||(ts.getD j false).toNat*2^j).testBit q=(decide (q<j+1)&&ts.getD q false):=λq=>by
 rw[Nat.testBit_or,h q]
 have e:((ts.getD j false).toNat*2^j).testBit q=(decide (q=j)&&ts.getD j false):=by
  cases ts.getD j false with
  |false=>simp
  |true=>
   show(1*2^j).testBit q=_
   rw[Nat.one_mul,Nat.testBit_two_pow,Bool.and_true]
   apply decide_eq_decide.mpr
   constructor<;>intro h<;>exact h.symm
 rw[e]
 by_cases h1:q<j
 ·have h2:¬q=j:=by lia
  have h3:q<j+1:=by lia
  simp[h1,h2,h3]
 ·by_cases h2:q=j
  ·subst h2;simp
  ·have h3:¬q<j+1:=by lia
   simp[h1,h2,h3]
section
variable{P:bj}{w:a_}{K:aP}{mg:Str->Option au}{base:Heap}{ad:Ad}
inductive YR(vs:List V)(H:Hp)(Q:VK)(z3:XK):Prop|mk:∀(a tk:ag)(L:aj)(ts:List Bool),vs=[.ref a,.ref tk]->LI H a L->LI H tk (ts.map dz)->ts.length<=64->L.length<=2000->(∀H' q M,al H H'->H q=none->(∀q,M.testBit q=ts.getD q false)->LI H' q (L.map λm=>(decide (m&&&M≠0)).toNat)->Q (.ref q) H')->YR vs H Q z3
def anP(T:cp K mg ad):bN P w K mg base bX 1 ad.Ed ad.Ee ["sets","taking"] YR:=by
 refine T.WV.ok ww (λvs H Q E h=>?_) (λbB A aY s H vs Q E hr h=>?_)
 ·obtain⟨a,tk,L,ts,rfl,_⟩:=h
  rfl
 ·obtain⟨a,tk,L,ts,rfl,ha,lu,YS,hL,k⟩:=h;exists _,(aC (bP (i:=2) ww.nd bm) (aC (ib eR rfl (qL rfl T.qV (ak (pv 1) ay)) (nh rfl (dt (bU (i:=3) ww.nd) (dt (bU (i:=4) ww.nd) jT))) (aK (Bd (i:=2) ww.nd (df Tg (pv 4) (pv 3)) (yx Tk)))) (aK (bK (ke rfl ww.nd (gY (pv 0)) (bz:=[("members",5)]) (gZ (show gz ["sets","taking","takers","state","takes","members"] (bg NJ) _ _=true by x_go)) (λ_ _ _ _ _=>(bU (i:=5) ww.nd)) (λ_ _ _ _ _=>i7) (λ_ _ _ _ _=>(U1 (dY vJ (df Th (pv 5) (pv 2)) bm (dG _)))))))))
  rfl'
  refine⟨_,rfl,tk,_,rfl,lu.sq,uq (K:=K) (a:=tk) (xs:=(ts.map dz).map iv) (λi σ H'=> ∃v3 v4 M,σ=[some (.ref a),some (.ref tk),some (iv M),v3,v4,none]/\al H H'/\ ∀q,M.testBit q=(decide (q<i)&&ts.getD q false)) ⟨none,none,0,rfl,al.refl _,by simp⟩ ?_ ?_ ?_⟩
  ·rintro i σ H' _ ⟨_,_,_,_,s2,_⟩;exact(lu.aA s2).sq
  ·rintro i y Tt σ H' hi ⟨v3,v4,M,rfl,s2,hM⟩ gj;have g7:i<(ts.map dz).length:=by
    have:=(gm.mp hi).1
    rwa[ax]at this
   rw[ca g7]at hi;obtain rfl:=(bv hi).symm;rw[ax]at g7;have ev:(ts.map dz).getD i 0=(ts.getD i false).toNat:=by
    lk
   rw[ev];have s4:=al.new (o:=.aE [V.int (i:Nat),iv (ts.getD i false).toNat]) gj;have hb:(ts.getD i false).toNat<=1:=by cases ts.getD i false<;>simp
   refine⟨Tt,_,rfl,c8.of ao,rfl,_,_,rfl,_,_,rfl,rfl,_,rfl,_,rfl,_,rfl,_,_,rfl,rfl,⟨by lia,by lia,by lia⟩,_,_,rfl,rfl,some (V.int (i:Nat)),some (iv (ts.getD i false).toNat),M|||(ts.getD i false).toNat*2^i,?_,s2.trans s4,anO g7 hM⟩;show[_,_,some (V.int (FN ((M:Nat):Int) (((ts.getD i false).toNat:Int)*2^((i:Int).toNat)))),_,_,_]=_;rw[anN,On]
  ·rintro σ H' ⟨v3,v4,M,rfl,s2,hM⟩;rw[ax,ax]at hM;have E4: ∀q,M.testBit q=ts.getD q false:=λq=>by
    fin2
   have zq:=ha.aA s2;refine⟨_,rfl,a,rfl,⟨_,zq.sq⟩,λD hD=>lN (K:=K) (a:=a) (xs:=L.map iv) (λj H5=>LI H5 D ((L.take j).map λm=>(decide (m&&&M≠0)).toNat)/\al H' H5) ⟨ao,al.new hD⟩ ?_ ?_ ?_⟩
   ·rintro j H5 _ ⟨_,s5⟩;exact(zq.aA s5).sq
   ·rintro j x H5 hx ⟨bn,s5⟩;have hj:j<L.length:=by
     fin2
    rw[ca hj]at hx;obtain rfl:=(bv hx).symm;refine⟨rfl,ja ⟨_,rfl,_,rfl,_,_,rfl,rfl,rfl,_,rfl,_,bn,?_,?_,λc o e=>?_⟩⟩
    ·rw[ax,ax,il];exact cz (by lia)
    ·show aa _ _ _ _=_;rw[ao,fJ hj,bI,bI,BM.cr hj];congr 3;show[V.int _]=[V.int _]
     congr 2;show(if(!decide (V.int ((L[j]&&&M:Nat):Int)=V.int ((0:Nat):Int)))=true then(1:Int)else 0)=((decide (L[j]&&&M≠0)).toNat:Int)
     rw[OY];fin2
    ·rw[aw (aF e hD)];exact s5 _ _ e
   ·rintro H5 ⟨bn,s5⟩;rw[ax,fK]at bn;exact k H5 D M (s2.trans s5) (s2.free hD) E4 bn
end
def wN(rows:aZ)(b:aj)(i:Nat):aj:=(rows.getD i []).map λj=>(BM.Ek b rows.length).idxOf (b.getD j 0)
section
variable{P:bj}{w:a_}{K:aP}{mg:Str->Option au}{base:Heap}{ad:Ad}
inductive anQ(C:ag)(vs:List V)(H:Hp)(Q:VK)(z4:XK):Prop|mk:∀bC r tk fx rows bw W ss,vs=[.ref bC,.ref r,.ref tk]->LI H bC ss->BM.fL ss->0<ss.length->cD H r fx rows->zh rows->BM.gq rows W->0<rows.length->LI H tk bw->bw.length=rows.length->(∀s,s<rows.length->bw.getD s 0=0\/bw.getD s 0=1)->(∀H' p dx am at_ bG br b,al H H'->H p=none/\H am=none/\H at_=none/\H bG=none/\(∀c∈br,H c=none)->H' p=some (.aB C dx (iU (.ref bC) (.ref am) (.ref at_) (.ref bG)))->LI H' bG (BM.dU ss)->cD H' am br ((BM.c6 b rows.length).map (wN rows b))->LI H' at_ ((BM.c6 b rows.length).map λi=>bw.getD i 0)->b.length=rows.length->BM.l6 rows W (bw.map λx=>decide (x=1)) b->BM.kN rows W (bw.map λx=>decide (x=1)) b->Q (.ref p) H')->anQ C vs H Q z4
def anR(T:cp K mg ad)(E2:bN P w K mg base bX 1 ad.ux ad.uz ["rows"] E1):bN P w K mg base bX 5 ad.Ef ad.Eg ["starts","rows","taking"] (anQ ad.dB):=by
 have anS:=anF T E2;refine T.WW.ok oF (λvs H Q E h=>?_) (λbB A aY s H vs Q E hr h=>?_)
 ·obtain⟨bC,r,tk,fx,rows,bw,W,ss,rfl,_⟩:=h;rfl
 ·obtain⟨bC,r,tk,fx,rows,bw,W,ss,rfl,anT,bW,anU,R,hR,hT,mE,lu,jY,wM,k⟩:=h;have hu:=ki hr;have sx:=hR.cT;exists _,(aC (bP (i:=3) oF.nd (gy anS hr.m rfl T.ako T.WQ.kp T.akn .nil bE (ak (pv 1) (ak (pv 2) ay)))) (aC (bP (i:=4) oF.nd Hf) (aC (bP (i:=5) oF.nd (cH ay)) (aC (ib eR rfl (qL rfl T.qV (ak (pv 3) ay)) (nh rfl (dt (bU (i:=6) oF.nd) (dt (bU (i:=7) oF.nd) jT))) (aK (dF (ng (Mp hu (pv 7) (pv 4))) (aC (uh hu (pv 4) (pv 7) (d4 eX (by rfl) T.ee eI (ak (pv 5) ay)) rfl) (aK (ga (ic iB jJ j0 jy (pv 5) (ak (pv 6) ay))))) dE))) (aC (bP (i:=8) oF.nd (cH ay)) (aC (ib eR rfl (gY (pv 5)) (bU (i:=6) oF.nd) (aK (ga (ic iB jJ j0 jy (pv 8) (ak (ke rfl oF.nd (gY (bD bY (pv 1) (pv 6))) (bz:=[("target",9)]) (gZ (show gz ["starts","rows","taking","blocks","numbers","firsts","state","block","merged","target"] (bg HQ) _ _=true by x_go)) (λ_ _ _ _ _=>(bU (i:=9) oF.nd)) (λ_ _ _ _ _=>i7) (λ_ _ _ _ _=>(Bx hu (pv 4) (bD (nE K) (pv 3) (pv 9)) (λ_ _=>rfl)))) ay))))) (aK (bK (vN T.aiK (amm T) hr.m rfl T.aiL T.aja .nil bE (ak (pv 0) (ak (pv 8) (ak (ke rfl oF.nd (gY (pv 5)) (bz:=[("state",6)]) (gZ (show gz ["starts","rows","taking","blocks","numbers","firsts","state","block","merged","target"] (bg HQ) _ _=true by x_go)) (λ_ _ _ _ _=>(bU (i:=6) oF.nd)) (λ_ _ _ _ _=>i7) (λ_ _ _ _ _=>(bD (nE K) (pv 2) (pv 6)))) ay))))))))))))
  rfl'
  refine⟨_,rfl,_,rfl,r,tk,fx,rows,bw,W,rfl,R,hR,hT,mE,lu,jY,wM,λH1 ab b s1 gU hb zi hC hS=>?_⟩;intro pn q_;have s2:=al.new (o:=.dK []) q_;have YT:aa H1 pn (.dK []) pn=some (.dK (fu 0 (BM.Ek b 0))):=ao;generalize aa H1 pn (.dK [])=H2 at s2 YT⊢;refine⟨(by simp),λpf YU=>?_⟩;have s3:=al.new (o:=.af []) YU;have YV:LI (aa H2 pf (.af [])) pf (BM.c6 b 0):=ao;have YW:=s3 _ _ YT;have YX:pf≠pn:=λe=>by fin2
  have qb:=s2.trans s3;have anV:=s2.free YU;generalize aa H2 pf (.af [])=H3 at s3 YV YW qb⊢;have YY: ∀i,i<=rows.length->(BM.c6 b i).length<=2000:=λi hi=>by
   have:=tE (λj=>!(BM.Ek b j).contains (b.getD j 0)) (aU i);rw[iX]at this;unfold BM.c6;lia
  have hEk: ∀i,(BM.Ek b i).length=(BM.c6 b i).length:=λi=>by rw[BM.vi,ax]
  refine⟨_,rfl,ab,_,rfl,(hb.aA qb).sq,uq (K:=K) (a:=ab) (xs:=b.map iv) (λi σ H'=> ∃v6 v7,σ=[some (.ref bC),some (.ref r),some (.ref tk),some (.ref ab),some (.ref pn),some (.ref pf),v6,v7,none,none]/\al H1 H'/\H' pn=some (.dK (fu 0 (BM.Ek b i)))/\LI H' pf (BM.c6 b i)) ⟨none,none,rfl,qb,YW,YV⟩ ?_ ?_ ?_⟩
  ·rintro i σ H' _ ⟨_,_,_,s4,_⟩;exact(hb.aA s4).sq
  ·rintro i y Tt σ H' hi ⟨v6,v7,rfl,s4,I0,E5⟩ gj;have g7:i<b.length:=by
    fin2
   rw[ca g7]at hi;obtain rfl:=(bv hi).symm;have hir:i<rows.length:=by lia
   have s5:=al.new (o:=.aE [V.int (i:Nat),iv (b.getD i 0)]) gj;have wO:=s5 _ _ I0;have uI:=E5.aA s5;exists Tt,_,rfl,c8.of ao,rfl,_,_,rfl,_,_,rfl,rfl;generalize aa H' Tt (.aE [V.int (i:Nat),iv (b.getD i 0)])=H5 at s5 wO uI⊢;have ev:=iO.k (k:=bQ ((b.getD i 0:Nat):Int)) wO;rw[y8,tL]at ev;exists _,rfl,_,rfl,pn,_,rfl,ev,_,rfl;have eY:=YY i (by lia);have ed:=hEk i;by_cases hm:b.getD i 0∈BM.Ek b i
   ·rw[if_pos hm];refine iR ⟨_,_,rfl,s4.trans s5,?_,?_⟩
    ·rw[BM.xz,BM.j6 hm];exact wO
    ·rw[BM.KO,if_pos hm,lE];exact uI
   ·rw[if_neg hm];refine gA ⟨_,rfl,pf,_,rfl,.inl uI.sq,_,rfl,_,rfl,pn,_,rfl,mj.k (k:=bQ ((b.getD i 0:Nat):Int)) wO (by rw[Oh];exact cz (by lia)),?_⟩;have EI:dI (fu 0 (BM.Ek b i)) (bQ ((b.getD i 0:Nat):Int)) (V.int ((BM.c6 b i).map iv).length)=fu 0 (BM.Ek b (i+1)):=by
     rw[ue _ (by rw[y8,if_neg hm]),BM.xz,BM.l0 hm,Og,ax,tL,ed];rfl
    rw[EI];have wP:LI (aa H5 pn (.dK (fu 0 (BM.Ek b (i+1))))) pf (BM.c6 b i):=by
     show aa _ _ _ _=_;rw[aw YX];exact uI
    refine⟨_,rfl,.inl ⟨rfl,_,wP.sq⟩,_,rfl,pf,_,_,rfl,rfl,wP,by rw[ax];exact cz (by lia),?_⟩;refine⟨_,_,rfl,λc o e=>?_,?_,?_⟩
    ·rw[aw (aF e anV),aw (aF e q_)];exact s5 _ _ (s4 _ _ e)
    ·rw[aw YX.symm];exact ao
    ·show aa _ _ _ _=_;rw[ao,BM.KO,if_neg hm,bI];rfl
  rintro σ H4 ⟨v6,v7,rfl,s4,I0,E5⟩;rw[ax,zi]at I0 E5;refine⟨(by simp),λpr jX=>?_⟩;have s5:=al.new (o:=.af []) jX;have YZ:cD (aa H4 pr (.af [])) pr [] []:=⟨ao,rfl,λi b e=>by simp at e⟩
  have Y0:=s4.trans s5;have wO:=s5 _ _ I0;have uI:=E5.aA s5;have Y1:H1 pr=none:=s4.free jX;have npn:pr≠pn:=λe=>by fin2
  have npf:pr≠pf:=λe=>by rw[e,E5]at jX;cases jX
  generalize aa H4 pr (.af [])=H5 at s5 YZ Y0 wO uI⊢;have og:=YY rows.length (aW _);have O3: ∀x∈BM.c6 b rows.length,x<rows.length:=λx hx=>(BM.vj.mp hx).1;refine⟨_,rfl,pf,rfl,⟨_,uI.sq⟩,su (K:=K) (a:=pf) (xs:=(BM.c6 b rows.length).map iv) (λi σ H'=> ∃v6 br,σ=[some (.ref bC),some (.ref r),some (.ref tk),some (.ref ab),some (.ref pn),some (.ref pf),v6,v7,some (.ref pr),none]/\al H1 H'/\H' pn=some (.dK (fu 0 (BM.Ek b rows.length)))/\LI H' pf (BM.c6 b rows.length)/\(∀c∈br,H c=none)/\cD H' pr br (((BM.c6 b rows.length).take i).map (wN rows b))) ⟨v6,[],rfl,Y0,wO,uI,λc hc=>(by cases hc),YZ⟩ ?_ ?_ ?_⟩
  ·rintro i σ H' _ ⟨_,_,_,_,_,h,_⟩;exact h.sq
  ·rintro i x σ H6 hx ⟨OD,br,rfl,s6,E6,wP,fm,RM⟩;have hi:i<(BM.c6 b rows.length).length:=by
    fin2
   rw[ca hi]at hx;obtain rfl:=(bv hx).symm;have g8:(BM.c6 b rows.length).take (i+1)=(BM.c6 b rows.length).take i++[(BM.c6 b rows.length).getD i 0]:=by rw[fJ hi,BM.cr hi]
   have I_:=O3 _ (BM.eU (d:=0) hi);rw[g8,bI];generalize(BM.c6 b rows.length).getD i 0=st at I_⊢;obtain⟨ar,zj⟩: ∃ar,fx[st]?=some ar:=⟨_,eh (by rw[R.len];exact I_)⟩
   have R6:=R.aA (s1.trans s6);have Y2:=R6.at_ _ _ zj;have Ox:=hb.aA s6;have anW:=hR.jO st I_;refine⟨_,rfl,.inl ⟨rfl,_,aJ.of RM.af⟩,_,rfl,_,rfl,r,_,_,V.ref ar,rfl,rfl,aJ.of R6.af,bc (by lk),ar,rfl,⟨_,Y2.sq⟩,λD hD=>?_⟩;have anX:D≠pr:=λe=>by rw[e,RM.af]at hD;cases hD
   refine lN (K:=K) (a:=ar) (xs:=(rows.getD st []).map iv)
    (λu H8=>LI H8 D (((rows.getD st []).take u).map λj=>(BM.Ek b rows.length).idxOf (b.getD j 0))/\al H6 H8) ⟨ao,al.new hD⟩ ?_ ?_ ?_
   ·rintro u H8 _ ⟨_,s8⟩;exact(Y2.aA s8).sq
   ·rintro u x H8 hx ⟨ku,s8⟩;have g9:u<(rows.getD st []).length:=by
     have:=(gm.mp hx).1
     rwa[ax]at this
    rw[ca g9]at hx;obtain rfl:=(bv hx).symm;have Ja:=hR.d8 st I_ _ (BM.eU (d:=0) g9);have O4:(rows.getD st []).take (u+1)=(rows.getD st []).take u++[(rows.getD st []).getD u 0]:=by rw[fJ g9,BM.cr g9]
    have ev:=iO.k (k:=bQ ((b.getD ((rows.getD st []).getD u 0) 0:Nat):Int)) (s8 _ _ E6);rw[y8,tL,if_pos (BM.vh.mpr ⟨_,Ja,rfl⟩)]at ev;refine⟨rfl,ja ⟨_,rfl,_,rfl,_,rfl,ab,_,_,iv (b.getD ((rows.getD st []).getD u 0) 0),rfl,rfl,(Ox.aA s8).sq,bc (ca (by rw[zi];exact Ja)),pn,_,rfl,ev,_,ku,?_,?_,λc o e=>?_⟩⟩
    ·rw[ax,ax,il];exact cz (by lia)
    ·show aa _ _ _ _=_;rw[ao,O4,bI,bI];rfl
    ·rw[aw (aF e hD)];exact s8 _ _ e
   rintro H8 ⟨ku,s8⟩;rw[ax,fK]at ku;have Y3:=RM.aA s8;have IN:br.length<=2000:=by
    rw[RM.len,ax,il];lia
   refine⟨pr,_,_,rfl,rfl,Y3.af,by rw[ax];exact cz (by lia),?_⟩;refine⟨_,_,rfl,λc o e=>?_,?_,?_,λc hc=>(by
    rcases cN.mp hc with hc|hc
    ·exact fm c hc
    ·rw[hZ.mp hc];exact(s1.trans s6).free hD),Y3.push ku anX.symm⟩
   ·rw[aw (aF e Y1)];exact s8 _ _ (s6 _ _ e)
   ·rw[aw npn.symm];exact s8 _ _ E6
   ·show aa _ _ _ _=_;rw[aw npf.symm];exact wP.aA s8
  rintro σ H6 ⟨OD,br,rfl,s6,E6,wP,fm,RM⟩;rw[ax,fK]at RM;have anY:=lu.aA (s1.trans s6);refine⟨_,rfl,_,rfl,_,rfl,pf,rfl,⟨_,wP.sq⟩,λD hD=>?_⟩;refine lN (K:=K) (a:=pf) (xs:=(BM.c6 b rows.length).map iv)
   (λu H8=>LI H8 D (((BM.c6 b rows.length).take u).map λi=>bw.getD i 0)/\al H6 H8) ⟨ao,al.new hD⟩ ?_ ?_ ?_
  ·rintro u H8 _ ⟨_,s8⟩;exact(wP.aA s8).sq
  ·rintro u x H8 hx ⟨ku,s8⟩;have g9:u<(BM.c6 b rows.length).length:=by
    fin2
   rw[ca g9]at hx;obtain rfl:=(bv hx).symm;have Ja:=O3 _ (BM.eU (d:=0) g9);have O4:(BM.c6 b rows.length).take (u+1)=(BM.c6 b rows.length).take u++[(BM.c6 b rows.length).getD u 0]:=by rw[fJ g9,BM.cr g9]
   refine⟨rfl,ja ⟨_,rfl,_,rfl,tk,_,_,iv (bw.getD ((BM.c6 b rows.length).getD u 0) 0),rfl,rfl,(anY.aA s8).sq,bc (ca (by rw[jY];exact Ja)),_,ku,?_,?_,λc o e=>?_⟩⟩
   ·rw[ax,ax,il];exact cz (by lia)
   ·show aa _ _ _ _=_;rw[ao,O4,bI,bI];rfl
   ·rw[aw (aF e hD)];exact s8 _ _ e
  rintro H8 ⟨ku,s8⟩;rw[ax,fK]at ku;intro p dx hp re hne;have Jb:=(s1.trans s6).trans s8;have sM:al H8 (aa (aa H8 dx (.bz p)) p (.aB ad.dB dx [])):=λc o e=>by
   rw[aw (aF e hp),aw (aF e re)];exact e
  refine⟨p,dx,bC,_,_,ss,rfl,ao,(anT.aA Jb).aA sM,bW,anU,λH9 bG b9 hp9 anZ an0=>⟨rfl,?_⟩⟩;have sP:al H8 H9:=λc o e=>b9 c o (aF e hp) (sM c o e);exact k _ p dx pr D bG br b (Jb.trans sP) ⟨Jb.free hp,s1.free Y1,(s1.trans s6).free hD,Jb.free (sM.free an0),fm⟩ hp9 anZ ((RM.aA s8).aA sP) (ku.aA sP) zi hC hS
end
structure jG(C:ag)(H:Hp)(p dx bC am at_ bG:ag)(br:bp)(ss:aj)(mr:aZ)(M:o8):Prop where
 obj:H p=some (.aB C dx (iU (.ref bC) (.ref am) (.ref at_) (.ref bG)))
 zr:LI H bC ss
 rows:cD H am br mr
 takes:LI H at_ (M.takes.map dz)
 dU:LI H bG (BM.dU ss)
 mG:BM.cZ ss mr M
def jG.to(h:jG C H p dx bC am at_ bG br ss mr M)(s:al H H'):jG C H' p dx bC am at_ bG br ss mr M:=
 ⟨s _ _ h.obj,h.zr.aA s,h.rows.aA s,h.takes.aA s,h.dU.aA s,h.mG⟩
def an1(W:BM.kW d ss L.length L rs):BM.gq (BM.lJ (BM.tW d ss) L) (0::ss).length:=by
 have hl:=W.eK;have hi:=W.d8;rw[fK]at hl hi;unfold BM.lJ;refine⟨λr hr=>?_,λr hr t ht=>?_⟩
 ·obtain⟨m,hm,rfl⟩:=cQ.mp hr;rw[ax,(hl m hm).len]
 ·fin2
section
variable{P:bj}{w:a_}{K:aP}{mg:Str->Option au}{base:Heap}{ad:Ad}
inductive Y4(C:ag)(vs:List V)(H:Hp)(Q:VK)(z4:XK):Prop|mk:∀tk a ts d,vs=[.ref tk,.ref a]->LI H tk (d.takes.map dz)->uC H a ts d.steps->ab_ d->d.takes.length<=64->(∀H',al H H'->(Kd d=none->Q .aX H')/\∀p dx bC am at_ bG br ss mr M,Kd d=some M->H p=none->(∀H2,Bs (c_ H) H' H2->jG C H2 p dx bC am at_ bG br ss mr M)->Q (.ref p) H')->Y4 C vs H Q z4
def an2(T:cp K mg ad)(E2:bN P w K mg base bX 1 ad.ux ad.uz ["rows"] E1):bN P w K mg base bX 6 ad.yN ad.yO ["taking","steps"] (Y4 ad.dB):=by
 have an3:=anR T E2;refine T.WX.ok NQ (λvs H Q E h=>?_) (λbB A aY s H vs Q E hr h=>?_)
 ·obtain⟨tk,a,ts,d,rfl,_⟩:=h;rfl
 ·obtain⟨tk,a,ts,d,rfl,lu,bW,hG,hn,k⟩:=h;have hu:=ki hr;exists _,(aC (bP (i:=2) NQ.nd (gy (amt T) hr.m rfl T.akq T.WR.kp T.akp .nil bE (ak (pv 1) ay))) (aC (bP (i:=3) NQ.nd (gy (amG T) hr.m rfl T.akw T.WU.kp T.akv .nil bE (ak (d4 eX (by rfl) T.ee eI (ak (pv 0) ay)) (ak (pv 1) (ak (pv 2) ay))))) (aC (dF (A8 (mh (pv 3) T.jc T.WA (XD T) hr.m T.Wz .nil bE)) (aK (bK si)) dE) (aK (bK (gy an3 hr.m rfl T.akA T.WW.kp T.akz .nil bE (ak (pv 2) (ak (aV (pv 3)) (ak (gy (anP T) hr.m rfl T.aky T.WV.kp T.akx .nil bE (ak (aV (pv 3)) (ak (pv 0) ay))) ay)))))))))
  rfl'
  refine⟨_,rfl,a,ts,d.steps,rfl,bW,λx hx=>(hG x hx).2.2,λH1 q ss s1 hq fF uB wE Iy=>?_⟩;have lR:BM.rS d ss:=⟨uB,wE,Iy⟩
  refine⟨_,rfl,tk,_,rfl,.inl (lu.aA s1).sq,_,rfl,_,rfl,d,a,q,ts,ss,by rw[ax,ax];rfl,bW.aA s1,fF,lR,hG,hn,λH2 p dx pS pR y as i L rs s2 hp hL hR Wk O3=>?_⟩;have dQ:=s1.trans s2;exists _,rfl,p,dx,_,rfl,hp,N_ (by x_go) _ _ _,p,dx,pS,_,_,L,rfl,hp,hL,_,rfl;refine bq (λc=>?_) (λc=>?_)
  ·have hm:=Wk.adh (of_decide_eq_true c);exact(k H2 dQ).1 (BM.acT hm)
  ·have dJ:=λz=>c (decide_eq_true z);obtain⟨rfl,dJ⟩:i=L.length/\L.length<=1024:=by
    lia
   have zt:=an1 Wk;obtain⟨an4,Jc,wQ,an5⟩:=Wk.done;have cT:=BM.ip 256 _ (lR.st.1.imp λh=>d7 h) lR.st.2;have ra:rs.length=L.length:=by rw[Jc];unfold BM.lJ;simp
   have mE:0<rs.length:=by rw[ra];exact Wk.pos
   rw[<-Jc]at zt;have an6:zh rs:=⟨λs hs=>by rw[zt.l5 hs];exact cT,λs hs x hx=>zt.d8 _ (BM.eU hs) x hx,by lia⟩
   refine⟨_,rfl,_,rfl,p,_,dx,_,_,rfl,hp,T.jc,T.Ez,Io,_,rfl,p,_,dx,_,_,rfl,hp,T.jc,T.wA,yZ,_,rfl,pS,tk,L,d.takes,rfl,hL,lu.aA dQ,hn,by lia,λH3 tq M s3 uH hM an7=>?_⟩;have jY:(L.map λm=>(decide (m&&&M≠0)).toNat).length=rs.length:=by rw[ax,ra]
   have wM: ∀s,s<rs.length->(L.map λm=>(decide (m&&&M≠0)).toNat).getD s 0=0\/(L.map λm=>(decide (m&&&M≠0)).toNat).getD s 0=1:=λs hs=>by
    rw[BM.cr (by rw[jY];exact hs),iY]
    cases decide (L[s]&&&M≠0)
    ·exact .inl rfl
    ·exact .inr rfl
   have g8:((L.map λm=>(decide (m&&&M≠0)).toNat).map λx=>decide (x=1))=L.map λm=>decide (m&&&M≠0):=by
    simp
   refine⟨q,pR,tq,as,rs,_,(0::ss).length,0::ss,rfl,(fF.aA s2).aA s3,lR.st,by simp,hR.aA s3,an6,zt,mE,an7,jY,wM,λH4 pM dM am at_ bG br b s4 zu an8 an9 O5 hTM zi hC hSt=>?_⟩;rw[g8]at hC hSt;have nf: ∀{c:ag},H3 c=none->¬c_ H c:=λhc=>Xv ((dQ.trans s3).free hc)
   have Y5:=BM.made (b:=b) (T:=M) hG lR Wk.lt wQ an4 an5 hM (by rw[<-Jc];exact hC) (by lk)
   rw[<-Jc,<-ra]at Y5
   have Y6:=s3.trans s4
   have hfe:(BM.c6 b rs.length).length=(BM.Ek b rs.length).length:=by rw[BM.vi,ax]
   have wo:=tE (λj=>!(BM.Ek b j).contains (b.getD j 0)) (aU rs.length)
   have wo:(BM.c6 b rs.length).length<=rs.length:=by rwa[iX]at wo
   have Y7: ∀i,i<((BM.c6 b rs.length).map (wN rs b)).length-> ∃j,j<rs.length/\((BM.c6 b rs.length).map (wN rs b)).getD i []=wN rs b j:=λi hi=>by
    rw[ax]at hi
    exists(BM.c6 b rs.length)[i],(BM.vj.mp (nY hi)).1
    rw[BM.cr (by rw[ax];exact hi),iY]
   refine(k H4 (dQ.trans Y6)).2 pM dM q am at_ bG br (0::ss) _ _ Y5 ((dQ.trans s3).free zu.1) λH9 b9=>⟨b9 _ _ (nf zu.1) an8,LI.bs ((fF.aA s2).aA Y6) b9 (Xv hq),⟨b9 _ _ (nf zu.2.1) O5.af,O5.len,λi c ec=>LI.bs (O5.at_ i c ec) b9 (nf (zu.2.2.2.2 c (eF ec)))⟩,?_,LI.bs an9 b9 (nf zu.2.2.2.1),lR.st,⟨_,rfl⟩,?_,λi hi=>?_,λi hi x hx=>?_,?_,?_,?_⟩
   ·have e:((BM.c6 b rs.length).map λi=>(L.map λm=>decide (m&&&M≠0)).getD i false).map dz=(BM.c6 b rs.length).map λi=>(L.map λm=>(decide (m&&&M≠0)).toNat).getD i 0:=by
     rw[dy]
     apply fy
     fin2
    show LI H9 at_ (((BM.c6 b rs.length).map λi=>(L.map λm=>decide (m&&&M≠0)).getD i false).map dz)
    rw[e];exact hTM.bs b9 (nf zu.2.2.1)
   ·rw[dy];rfl
   ·obtain⟨j,hj,e⟩:=Y7 i hi
    rw[e]
    unfold wN
    rw[ax,zt.l5 hj]
   ·obtain⟨j,hj,e⟩:=Y7 i hi
    rw[e]at hx
    unfold wN at hx
    obtain⟨y,hy,rfl⟩:=cQ.mp hx
    rw[ax,hfe]
    exact List.idxOf_lt_length_of_mem (BM.vh.mpr ⟨y,zt.d8 _ (BM.eU hj) y hy,rfl⟩)
   ·simp
   ·rw[ax]
    exact List.length_pos_of_mem (BM.vj.mpr ⟨mE,by intro z;obtain⟨j,hj,_⟩:=BM.vh.mp z;lia⟩)
   ·rw[ax];lia
end
def O6{row:aj}{cK:List Int}(hn:cK.Nodup)(hm: ∀x,x∈cK↔x∈row.map λ(n:Nat)=>(n:Int)): ∃ts:aj,cK.map V.int=ts.map iv/\ts.Nodup/\ ∀x,x∈ts↔x∈row:=by
 have e1:cK=(cK.map lZ).map λ(n:Nat)=>(n:Int):=by
  rw[dy];conv=>lhs;rw[<-Al cK]
  apply fy;lk
 refine⟨cK.map lZ,?_,?_,λx=>?_⟩
 ·conv=>lhs;rw[e1]
  rw[dy];rfl
 ·rw[e1]at hn;exact at7 _ (λa b h q=>h (by rw[q])) hn
 ·constructor
  ·intro h
   obtain⟨z,hz,rfl⟩:=cQ.mp h
   obtain⟨n,eV,e⟩:=cQ.mp ((hm z).mp hz)
   have:z.toNat=n:=by rw[<-e];rfl
   rw[this];exact eV
  ·intro h
   have:=(hm (x:Int)).mpr (cQ.mpr ⟨x,h,rfl⟩)
   exact cQ.mpr ⟨_,this,rfl⟩
noncomputable def sW(rows:aZ)(i x:Nat):aj:=(aU i).filter λs=>decide (x∈rows.getD s [])
def an_(rows:aZ)(i x:Nat):sW rows (i+1) x=sW rows i x++(if x∈rows.getD i []then[i]else[]):=by
 unfold sW;rw[lD,xh];fin2
noncomputable def oR(rows:aZ)(n i:Nat)(ts:aj):aZ:=(aU n).map λx=>sW rows i x++(if x∈ts then[i]else[])
def Y8(h:x<n):(oR rows n i ts).getD x []=sW rows i x++(if x∈ts then[i]else[]):=by
 unfold oR;lk
def aoa(hy:y<n)(hn:y∉ts):(oR rows n i ts).set y (sW rows i y++[i])=oR rows n i (ts++[y]):=by
 unfold oR;apply lC
 ·rw[mN,ax,ax]
 ·intro x h1 h2;rw[arM,iY,xg,iY,xg];fin2
def aob(h: ∀x,x∈ts↔x∈rows.getD i []):oR rows n i ts=oR rows n (i+1) []:=by
 apply fy;intro x _;rw[an_,if_neg (by simp:¬x∈([]:aj)),lE];lk
section
variable{P:bj}{w:a_}{K:aP}{mg:Str->Option au}{base:Heap}{ad:Ad}
def aoc(T:cp K mg ad):bN P w K mg base bX 1 ad.ux ad.uz ["rows"] E1:=by
 refine T.WO.ok yK (λvs H Q E h=>?_) (λbB A aY s H vs Q E hr h=>?_)
 ·obtain⟨r,fx,rows,rfl,_⟩:=h
  rfl
 ·obtain⟨r,fx,rows,rfl,R,hR,k⟩:=h;have hu:=ki hr;have sx:=hR.cT;exists _,(aC (vV (i:=1) rfl yK.nd rfl rfl (vW rfl rfl rfl rfl) (gY (pv 0)) (bz:=[("row",3)]) (gZ (show gz ["rows","sources","state","row","target"] (bg NF) _ _=true by x_go)) (λ_ _ _ _ _=>(bU (i:=3) yK.nd)) (λ_ _ _ _ _=>i7) (λ_ _ _ _ _=>(cH ay))) (aC (ib eR rfl (qL rfl T.qV (ak (pv 0) ay)) (nh rfl (dt (bU (i:=2) yK.nd) (dt (bU (i:=3) yK.nd) jT))) (aK (ib eR rfl (gY (Vq rfl rfl T.EC rfl T.N6 (pv 3))) (bU (i:=4) yK.nd) (aK (ga (ic iB jJ j0 jy (bD bY (pv 1) (pv 4)) (ak (pv 2) ay))))))) (aK (bK (pv 1)))))
  rfl'
  refine⟨_,rfl,r,rfl,⟨_,aJ.of R.af⟩,λD hD=>lN (K:=K) (a:=r) (xs:=fx.map V.ref) (λj H5=> ∃as,cD H5 D as (cu j [])/\as.Nodup/\D∉as/\(∀c∈as,H c=none)/\al H H5) ⟨[],⟨ao,rfl,λi b e=>by simp at e⟩,by simp,by simp,by simp,al.new hD⟩ ?_ ?_ ?_⟩
  ·rintro j H5 _ ⟨as,_,_,_,_,s5⟩;exact aJ.of (s5 _ _ R.af)
  ·rintro j x H5 hx ⟨as,RD,nd,nD,fr,s5⟩;have hj:j<fx.length:=by
    fin2
   rw[R.len]at hj;refine⟨rfl,ja ⟨(by simp),λc hc=>?_⟩⟩;have s6:=al.new (o:=.af []) hc;have Y9:=RD.aA s6;have zg:LI (aa H5 c (.af [])) c []:=ao;have O7:D≠c:=λe=>by rw[<-e,RD.af]at hc;cases hc
   have hl:as.length=j:=by rw[RD.len,FE]
   refine⟨_,Y9.af,by rw[ax,hl];exact cz (by lia),as++[c],?_,?_,?_,λb hb=>?_,λb o e=>?_⟩
   ·have:=Y9.push zg O7;rw[List.replicate_succ'];exact this
   ·rw[o6];refine⟨nd,by simp,λx hx y hy e=>?_⟩;rw[hZ]at hy;subst hy;subst e;exact RD.fresh hc hx
   ·lk
   ·rcases cN.mp hb with q|q
    ·exact fr b q
    ·rw[hZ.mp q];exact s5.free hc
   ·rw[aw (aF e hD)];exact s6 _ _ (s5 _ _ e)
  rintro H1 ⟨as,RD,nd,nD,fr,s1⟩;rw[ax,R.len]at RD;have e0:cu rows.length []=oR rows rows.length 0 []:=by
   unfold oR;apply lC
   ·simp
   ·intro x h1 h2;rw[aqQ,iY];rfl
  rw[e0]at RD;have uv:as.length=rows.length:=by rw[RD.len];fin2
  refine⟨_,rfl,r,_,rfl,aJ.of (s1 _ _ R.af),uq (K:=K) (a:=r) (xs:=fx.map V.ref) (λi σ H'=> ∃v2 v3 v4,σ=[some (.ref r),some (.ref D),v2,v3,v4]/\al H H'/\cD H' D as (oR rows rows.length i [])) ⟨none,none,none,rfl,s1,RD⟩ ?_ ?_ ?_⟩
  ·rintro i σ H' _ ⟨_,_,_,_,s2,_⟩;exact aJ.of (s2 _ _ R.af)
  ·rintro i y Tt σ H' hi ⟨v2,v3,v4,rfl,s2,Jd⟩ gj;obtain⟨ar,zj,rfl⟩: ∃b,fx[i]?=some b/\y=V.ref b:=by
    rw[gP]at hi
    cases e:fx[i]? with
    |none=>rw[e]at hi;cases hi
    |some t=>rw[e]at hi;exact⟨t,rfl,(bv hi).symm⟩
   have g7:i<rows.length:=by rw[<-R.len];fin2
   have s3:=al.new (o:=.aE [V.int (i:Nat),V.ref ar]) gj;have Je:=Jd.aA s3;have Ym:=R.at_ i ar zj;exists Tt,_,rfl,c8.of ao,rfl,_,_,rfl,_,_,rfl,rfl;generalize aa H' Tt (.aE [V.int (i:Nat),V.ref ar])=H3 at s3 Je⊢;have uJ:=s2.trans s3;have hw:=hR.jO i g7;have E7:((rows.getD i []).map λ(n:Nat)=>(n:Int)).map V.int=(rows.getD i []).map iv:=by rw[dy];rfl
   refine⟨_,rfl,ar,(rows.getD i []).map λ(n:Nat)=>(n:Int),rfl,by rw[E7];exact(Ym.aA uJ).sq,by rw[ax];unfold mS;lia,λcK p eV _ sE hp=>?_⟩;obtain⟨ts,zw,wR,uK⟩:=O6 eV sE;rw[zw];have s4:=al.new (o:=.af (ts.map iv)) hp;have oI:LI (aa H3 p (.af (ts.map iv))) p ts:=ao;have Y_:=Je.aA s4;have E8:=uJ.trans s4;have pH:=uJ.free hp;have y9:p≠D:=λe=>by rw[e,Je.af]at hp;cases hp
   have npa:p∉as:=Je.fresh hp;generalize aa H3 p (.af (ts.map iv))=H4 at s4 oI Y_ E8⊢;refine⟨p,rfl,⟨_,oI.sq⟩,su (K:=K) (a:=p) (xs:=ts.map iv) (λu σ H5=> ∃v4,σ=[some (.ref r),some (.ref D),some (V.int (i:Nat)),some (.ref ar),v4]/\al H H5/\cD H5 D as (oR rows rows.length i (ts.take u))/\LI H5 p ts) ⟨v4,rfl,E8,Y_,oI⟩ ?_ ?_ ?_⟩
   ·rintro u σ H5 _ ⟨_,_,_,_,h⟩;exact h.sq
   ·rintro u x σ H5 hx ⟨ID,rfl,s5,zx,rB⟩;have g9:u<ts.length:=by
     fin2
    rw[ca g9]at hx;obtain rfl:=(bv hx).symm;have hym:ts.getD u 0∈ts:=BM.eU g9;have O8:ts.getD u 0<rows.length:=hR.d8 i g7 _ ((uK _).mp hym);have g8:ts.take (u+1)=ts.take u++[ts.getD u 0]:=by lk
    have HH:ts.getD u 0∉ts.take u:=λq=>by
     have:=wR;rw[<-FD u ts,o6]at this;exact this.2.2 _ q _ (by rw[JP g9,BM.cr g9];exact eG ..) rfl
    obtain⟨b,hb⟩: ∃b,as[ts.getD u 0]?=some b:=⟨_,eh (by rw[uv];exact O8)⟩
    have oH:=zx.at_ _ _ hb;rw[Y8 O8,if_neg HH,lE]at oH;have og:=tE (λs=>decide (ts.getD u 0∈rows.getD s [])) (aU i);rw[iX]at og;have E3:(sW rows i (ts.getD u 0)).length<=i:=og;refine⟨_,rfl,_,rfl,D,_,_,V.ref b,rfl,rfl,aJ.of zx.af,bc (by lk),.inl ⟨rfl,_,oH.sq⟩,_,rfl,b,_,_,rfl,rfl,oH,by rw[ax];exact cz (by lia),?_⟩;have put:=zx.put nd nD (r:=sW rows i (ts.getD u 0)++[i]) hb;rw[aoa O8 HH,<-g8,bI]at put;have hbn:=fr b (eF hb);refine⟨_,rfl,λc o e=>?_,put,?_⟩
    ·rw[aw (aF e hbn)];exact s5 _ _ e
    ·show aa _ _ _ _=_;rw[aw (λq:p=b=>npa (q▸eF hb))];exact rB
   ·rintro σ H5 ⟨ID,rfl,s5,zx,rB⟩;rw[ax,fK,aob uK]at zx;exact⟨_,_,_,rfl,s5,zx⟩
  ·rintro σ H' ⟨v2,v3,v4,rfl,s2,Jd⟩;rw[ax,R.len]at Jd;refine⟨_,rfl,k H' D as _ s2 hD Jd fr (by unfold oR;simp) λx t hx=>?_⟩;rw[Y8 hx,if_neg (by simp),lE];unfold sW;simp
end
def aod{K:aP}{ad:Ad}(T:cp K mg ad):bN P w K mg base bX 6 ad.yN ad.yO ["taking","steps"] (Y4 ad.dB):=an2 T (aoc T)
inductive dk(CL CJ:ag)(n:Nat)(H:Hp):Nat->ag->ag->aj->Nat->List (aj×Nat)->Prop
 |nM (k:Nat) {p dx tg kd:ag} {col ts ks:aj} {w:Nat}:H p=some (.aB CL dx (oG (iv w) (.ref tg) (.ref kd)))->LI H tg ts->LI H kd ks->ks.length=n->(∀i,i<n->ks.getD i 0<ts.length/\ts.getD (ks.getD i 0) 0=col.getD i 0)->(∀t∈ts,t<n)->w<=256->ts.length<=n->dk CL CJ n H k p kd ks ts.length [(col,w)]
 |oS {k:Nat} {p dx p1 p2 k1 k2 pr kd:ag} {ks fZ f6:aj} {m1 m2:Nat} {D1 D2:List (aj×Nat)} {qs:bp} {dR:List (Nat×Nat)}:dk CL CJ n H k p1 k1 fZ m1 D1->dk CL CJ n H k p2 k2 f6 m2 D2->H p=some (.aB CJ dx (kj (.ref p1) (.ref p2) (.ref pr) (.ref kd)))->H pr=some (.af (qs.map V.ref))->qs.length=dR.length->(∀(i:Nat)(q:ag),qs[i]?=some q->H q=some (.aE [iv (dR.getD i (0,0)).1,iv (dR.getD i (0,0)).2]))->LI H kd ks->ks.length=n->(∀i,i<n->ks.getD i 0<dR.length/\dR.getD (ks.getD i 0) (0,0)=(fZ.getD i 0,f6.getD i 0))->(∀x∈dR,x.1<m1/\x.2<m2)->dR.length<=n->dk CL CJ n H (k+1) p kd ks dR.length (D1++D2)
def dk.more(h:dk CL CJ n H k p kd ks m D):dk CL CJ n H (k+1) p kd ks m D:=by
 induction h with
 |nM k a b c d e f g h=>exact .nM _ a b c d e f g h
 |oS _ _ a b c d e f g h i j1 j2=>exact .oS j1 j2 a b c d e f g h i
def dk.le(h:dk CL CJ n H k p kd ks m D)(hj:k<=j):dk CL CJ n H j p kd ks m D:=by
 induction hj with
 |refl=>exact h
 |step _ ih=>exact ih.more
def dk.aA(h:dk CL CJ n H k p kd ks m D)(s:al H H'):dk CL CJ n H' k p kd ks m D:=by
 induction h with
 |nM k a b c d e f g h=>exact .nM _ (s _ _ a) (b.aA s) (c.aA s) d e f g h
 |oS _ _ a b c d e f g h i j1 j2=>exact .oS j1 j2 (s _ _ a) (s _ _ b) c (λi q z=>s _ _ (d i q z)) (e.aA s) f g h i
def dk.kind(h:dk CL CJ n H k p kd ks m D):
  ks.length=n/\LI H kd ks/\(∀i,i<n->ks.getD i 0<m)/\m<=n/\ ∃C dx fs,H p=some (.aB C dx fs)/\((C=CL/\ ∃a b,fs=oG a b (.ref kd))\/(C=CJ/\ ∃a b c,fs=kj a b c (.ref kd))):=by
 cases h with
 |nM _ a b c d e f g h=>exact⟨d,c,λi hi=>(e i hi).1,h,_,_,_,a,.inl ⟨rfl,_,_,rfl⟩⟩
 |oS j1 j2 a b c d e f g h i=>exact⟨f,e,λi hi=>(g i hi).1,i,_,_,_,a,.inr ⟨rfl,_,_,_,rfl⟩⟩
section
variable{P:bj}{w:a_}{K:aP}{mg:Str->Option au}{base:Heap}{ad:Ad}
inductive E9(CL:ag)(CJ:ag)(k:Nat)(C:ag)(vs:List V)(H:Hp)(Q:VK)(z7:XK):Prop|mk:∀p kd a ks l n m D,vs=[.ref p,.ref a]->dk CL CJ n H k p kd ks m D->(∃dx fs,H p=some (.aB C dx fs))->LI H a l->l.length=n->n<=1024->(∀x∈l,x<=BM.f9)->(∀H' q S,al H H'->LI H' q S->H q=none->S.length=m->(∀i,i<n->S.getD (ks.getD i 0) 0=BM.jo D l i)->Q (.ref q) H')->E9 CL CJ k C vs H Q z7
def O9(T:cp K mg ad)(hne:ad.b0≠ad.cb)(k:Nat):bN P w K mg base bX 1 ad.CO ad.CQ ["self","numbers"] (E9 ad.cb ad.b0 k ad.cb):=by
 refine T.ajk.ok NM (λvs H Q E h=>?_) (λbB A aY s H vs Q E hr h=>?_)
 ·obtain⟨p,kd,a,ks,l,n,m,D,rfl,_⟩:=h
  rfl
 ·obtain⟨p,kd,a,ks,l,n,m,D,rfl,hP,⟨Y',Za,hC⟩,ha,hl,hn,hx,k⟩:=h;exists _,(aK (bK (ke rfl NM.nd (gY (aV (pv 0))) (bz:=[("target",2)]) (gZ (show gz ["self","numbers","target"] (bg Nu) _ _=true by x_go)) (λ_ _ _ _ _=>(bU (i:=2) NM.nd)) (λ_ _ _ _ _=>i7) (λ_ _ _ _ _=>(df LN (bD (nE K) (pv 1) (pv 2)) (MR K (pv 0) rfl))))))
  rfl'
  cases hP with
  |oS j1 j2 hp=>exact absurd (hp.symm.trans hC) (by lk)
  |@nM _ _ dx tg _ col ts _ w hp zy Jf oJ O_ tX hw jY=>
   have hw':=hw;refine⟨_,rfl,p,_,dx,_,_,rfl,hp,T.qU,T.NT,alu,tg,rfl,⟨_,zy.sq⟩,λD hD=>lN (K:=K) (a:=tg) (xs:=ts.map iv) (λj H5=>LI H5 D ((ts.take j).map λt=>l.getD t 0*w)/\al H H5) ⟨ao,al.new hD⟩ ?_ ?_ ?_⟩
   ·rintro j H5 _ ⟨_,s5⟩;exact(zy.aA s5).sq
   ·rintro j x H5 mH ⟨bn,s5⟩;have hj:j<ts.length:=by
     fin2
    rw[ca hj]at mH;obtain rfl:=(bv mH).symm;have ht:=tX _ (BM.eU (d:=0) hj);refine⟨rfl,ja ⟨_,rfl,_,rfl,a,_,_,iv (l.getD (ts.getD j 0) 0),rfl,rfl,(ha.aA s5).sq,bc (ca (by rw[hl];exact ht)),_,rfl,p,_,dx,_,_,rfl,s5 _ _ hp,T.qU,T.Wj,alt,_,_,rfl,rfl,.inr ⟨?_,?_⟩,_,bn,?_,?_,λc o e=>?_⟩⟩
    ·lia
    ·lia
    ·rw[ax,ax,il];exact cz (by lia)
    ·show aa _ _ _ _=_;rw[ao,fJ hj,bI,bI,BM.cr hj];congr 3
    ·rw[aw (aF e hD)];exact s5 _ _ e
   ·rintro H5 ⟨bn,s5⟩;rw[ax,fK]at bn;refine k H5 D _ s5 bn hD (by rw[ax]) fun i hi=>?_;have h1:=O_ i hi;rw[BM.Sk,BM.cr (by fin2),iY,<-BM.cr (d:=0) h1.1,h1.2]
def Pa(hP:dk CL CJ n H k pp kq Pb mm DD)(Zb: ∀R:VK,R (.ref pp) H->ta σ H R)(Zc: ∀R:VK,R (.ref a) H->tb σ H R)(ha:LI H a l)(hl:l.length=n)(hn:n<=1024)(hx: ∀x∈l,x<=BM.f9)
  (hk: ∀H' q S,al H H'->LI H' q S->H q=none->S.length=mm->(∀i,i<n->S.getD (Pb.getD i 0) 0=BM.jo DD l i)->Q (.ref q) H'):
  G6 CL "sums" (E9 CL CJ k CL) [] E0 ta (LU tb x9) σ H Q\/G6 CJ "sums" (E9 CL CJ k CJ) [] E0 ta (LU tb x9) σ H Q:=by
 obtain⟨_,_,_,_,C,dx,fs,hp,⟨rfl,u,v,rfl⟩|⟨rfl,u,v,z,rfl⟩⟩:=hP.kind
 ·exact .inl (Zb _ ⟨pp,dx,_,rfl,hp,alw (by x_go) _ _ _,Zc _ ⟨pp,kq,a,Pb,l,n,mm,DD,rfl,hP,⟨dx,_,hp⟩,ha,hl,hn,hx,hk⟩⟩)
 ·exact .inr (Zb _ ⟨pp,dx,_,rfl,hp,alO (by x_go) _ _ _ _,Zc _ ⟨pp,kq,a,Pb,l,n,mm,DD,rfl,hP,⟨dx,_,hp⟩,ha,hl,hn,hx,hk⟩⟩)
theorem Zd(T:cp K mg ad)(hne:ad.b0≠ad.cb): ∀k:Nat,bN P w K mg base bX (k+1) ad.CU ad.CV ["self","numbers"] (E9 ad.cb ad.b0 k ad.b0)
 |0=>by
  refine T.Wu.ok wt (λvs H Q E h=>?_) (λbB A aY s H vs Q E hr h=>?_)
  ·obtain⟨p,kd,a,ks,l,n,m,D,rfl,_⟩:=h;rfl
  ·obtain⟨p,kd,a,ks,l,n,m,D,rfl,hP,⟨Y',Za,hC⟩,_⟩:=h
   cases hP with
   |nM _ hp=>exact absurd (hp.symm.trans hC) (by lk)
 |k+1=>by
  have Ze:=Zd T hne k;refine T.Wu.ok wt (λvs H Q E h=>?_) (λbB A aY s H vs Q E hr h=>?_)
  ·obtain⟨p,kd,a,ks,l,n,m,D,rfl,_⟩:=h;rfl
  ·obtain⟨p,kd,a,ks,l,n,m,D,rfl,hP,⟨Y',Za,hC⟩,ha,hl,hn,hx,kk⟩:=h;exists _,(aC (bP (i:=2) wt.nd (Nc (e_ (aV (pv 0)) T.qU T.NW (O9 T hne k) (hr.mono (by lia)) T.NV .nil bE (ak (pv 1) ay)) (e_ (aV (pv 0)) T.p9 T.NY Ze (hr.mono (by lia)) T.NX .nil bE (ak (pv 1) ay)))) (aC (bP (i:=3) wt.nd (Nc (e_ (aV (pv 0)) T.qU T.NW (O9 T hne k) (hr.mono (by lia)) T.NV .nil bE (ak (pv 1) ay)) (e_ (aV (pv 0)) T.p9 T.NY Ze (hr.mono (by lia)) T.NX .nil bE (ak (pv 1) ay)))) (aK (bK (ke rfl wt.nd (gY (aV (pv 0))) (bz:=[("one",4),("other",5)]) (gZ (show gz ["self","numbers","ones","others","one","other"] (bg Nv) _ _=true by x_go)) (λ_ _ _ _ _=>(yB (n:=2) K rfl (dt (bU (i:=4) wt.nd) (dt (bU (i:=5) wt.nd) jT)))) (λ_ _ _ _ _=>i7) (λ_ _ _ _ _=>(df nu (bD (nE K) (pv 2) (pv 4)) (bD (nE K) (pv 3) (pv 5)))))))))
   rfl'
   cases hP with
   |nM _ hp=>exact absurd (hp.symm.trans hC) (by lk)
   |@oS _ _ dx p1 p2 k1 k2 pr _ _ fZ f6 m1 m2 D1 D2 qs dR j1 j2 hp jX E_ sR Jf oJ O_ wH q_=>
    refine Pa j1 (λR h=>⟨_,rfl,p,_,dx,_,_,rfl,hp,T.p9,T.Wm,alK,h⟩) (λR h=>⟨_,rfl,h⟩) ha hl hn hx λH1 q1 S1 s1 fF Zf uB hv1=>Pa (j2.aA s1) (λR h=>⟨_,rfl,p,_,dx,_,_,rfl,s1 _ _ hp,T.p9,T.Wn,alL,h⟩) (λR h=>⟨_,rfl,h⟩) (ha.aA s1) hl hn hx λH2 q2 S2 s2 gB LQ wE hv2=>?_;have dQ:=s1.trans s2;refine⟨_,rfl,p,_,dx,_,_,rfl,dQ _ _ hp,T.p9,T.Wo,alM,pr,rfl,⟨_,aJ.of (dQ _ _ jX)⟩,λD hD=>lN (K:=K) (a:=pr) (xs:=qs.map V.ref) (λj H5=>LI H5 D ((dR.take j).map λx=>S1.getD x.1 0+S2.getD x.2 0)/\al H2 H5) ⟨ao,al.new hD⟩ ?_ ?_ ?_⟩
    ·rintro j H5 _ ⟨_,s5⟩;exact aJ.of (s5 _ _ (dQ _ _ jX))
    ·rintro j x H5 mH ⟨bn,s5⟩;have hj:j<dR.length:=by
      fin2
     obtain⟨q,hq⟩: ∃q,qs[j]?=some q:=⟨_,eh (by rw[E_];exact hj)⟩
     rw[gP,hq]at mH;obtain rfl:=(bv mH).symm;have Zg:=s5 _ _ (dQ _ _ (sR j q hq));have MX:=wH _ (BM.eU (d:=((0,0):Nat×Nat)) hj);generalize Ir:dR.getD j (0,0)=x at Zg MX;obtain⟨x1,x2⟩:=x;refine⟨q,_,rfl,c8.of Zg,rfl,_,_,rfl,_,_,rfl,rfl,rfl,ja ?_⟩;refine⟨_,rfl,_,rfl,q1,_,_,iv (S1.getD x1 0),rfl,rfl,((fF.aA s2).aA s5).sq,bc (ca (by lia)),_,rfl,_,rfl,q2,_,_,iv (S2.getD x2 0),rfl,rfl,(gB.aA s5).sq,bc (ca (by lia)),_,_,rfl,rfl,_,bn,?_,?_,λc o e=>?_⟩
     ·rw[ax,ax,il];exact cz (by lia)
     ·show aa _ _ _ _=_;rw[ao,fJ hj,bI,bI,<-BM.cr (d:=((0,0):Nat×Nat)) hj,Ir];rfl
     ·rw[aw (aF e hD)];exact s5 _ _ e
    ·rintro H5 ⟨bn,s5⟩;rw[ax,E_,fK]at bn;refine kk H5 D _ (dQ.trans s5) bn (dQ.free hD) (by rw[ax]) fun i hi=>?_;have h1:=O_ i hi;rw[BM.ady,BM.cr (by rw[ax];exact h1.1),iY,<-BM.cr (d:=((0,0):Nat×Nat)) h1.1,h1.2,hv1 i hi,hv2 i hi]
end
def fl2(a b:V):aM "targets" b (aM "width" a [])=([("width",a),("targets",b)]:List (Str×V)):=by
 rw[show aM "width" a []=[(("width" :Str),a)]from rfl,du alo];rfl
def fl3(a b c:V):aM "kind_of" c ([("width",a),("targets",b)]:List (Str×V))=oG a b c:=by
 rw[du alp,du alq];rfl
def aoe(a b:V):QZ ("targets" :Str) [(("width" :Str),a),("targets",b)]=some b:=by rw[cf Xb,fH]
section
variable{P:bj}{w:a_}{K:aP}{mg:Str->Option au}{base:Heap}{ad:Ad}
inductive Zh(CL:ag)(CJ:ag)(vs:List V)(H:Hp)(Q:VK)(z5:XK):Prop|mk:∀p dx ct col wd n,vs=[.ref p,.ref ct,iv wd]->H p=some (.aB CL dx [])->H ct=some (.aE (col.map iv))->col.length=n->(∀x∈col,x<n)->n<=1024->wd<=256->(∀H' kd ks m,Bt p H H'->(∀H2:Hp,Bs (λb=>c_ H b/\b≠p) H' H2->dk CL CJ n H2 0 p kd ks m [(col,wd)])->Q .aX H')->Zh CL CJ vs H Q z5
def aof(T:cp K mg ad):bN P w K mg base bX 1 ad.CI ad.CN ["self","column","width"] (Zh ad.cb ad.b0):=by
 refine T.aji.ok yI (λvs H Q E h=>?_) (λbB A aY s H vs Q E hr h=>?_)
 ·obtain⟨p,dx,ct,col,wd,n,rfl,_⟩:=h
  rfl
 ·obtain⟨p,dx,ct,col,wd,n,rfl,hp,zf,gg,Zi,hn,Xt,k⟩:=h;have hu:=ki hr;exists _,(aC (eQ (pv 0) (pv 2) rfl) (aC (eQ (pv 0) (aig rfl rfl T.EC rfl T.N6 (pv 1)) rfl) (aC (bP (i:=3) yI.nd Hf) (aC (ib eR rfl (qL rfl T.qV (ak (aV (pv 0)) ay)) (nh rfl (dt (bU (i:=4) yI.nd) (dt (bU (i:=5) yI.nd) jT))) (aK (uh hu (pv 3) (pv 5) (pv 4) rfl))) (aK (eQ (pv 0) (ke rfl yI.nd (Ta (pv 1)) (bz:=[("target",5)]) (gZ (show gz ["self","column","width","places","place","target"] (bg Nt) _ _=true by x_go)) (λ_ _ _ _ _=>(bU (i:=5) yI.nd)) (λ_ _ _ _ _=>i7) (λ_ _ _ _ _=>(Bx hu (pv 3) (pv 5) (λ_ _=>rfl)))) rfl))))))
  rfl'
  have Pc:=bx zf hp (by intro z;cases z);exists _,rfl,_,rfl,p,_,dx,_,rfl,hp,T.qU,T.Wj,(by simp);have b1:=Bt.aa p H (.aB ad.cb dx (aM "width" (iv wd) []));have di:aa H p (.aB ad.cb dx (aM "width" (iv wd) [])) p=_:=ao;generalize aa H p (.aB ad.cb dx (aM "width" (iv wd) []))=H1 at b1 di⊢;have E7:(col.map λ(n:Nat)=>(n:Int)).map V.int=col.map iv:=by rw[dy];rfl
  refine⟨_,rfl,ct,col.map λ(n:Nat)=>(n:Int),rfl,by rw[E7];exact c8.of (b1 _ _ Pc zf),by rw[ax];unfold mS;lia,λcK tg eV _ sE zy=>?_⟩;obtain⟨ts,zw,wR,uK⟩:=O6 eV sE;rw[zw];have Zj:tg≠p:=λe=>by lk
  have s2:=al.new (o:=.af (ts.map iv)) zy;have Zk:LI (aa H1 tg (.af (ts.map iv))) tg ts:=ao;generalize aa H1 tg (.af (ts.map iv))=H2 at s2 Zk⊢;exists _,rfl,p,_,dx,_,rfl,s2 _ _ di,T.qU,T.NT,(by show 1<1000;decide);rw[fl2];have b3:=Bt.aa p H2 (.aB ad.cb dx ([("width",iv wd),("targets",.ref tg)]:List (Str×V)));have ii:aa H2 p (.aB ad.cb dx ([("width",iv wd),("targets",.ref tg)]:List (Str×V))) p=_:=ao;generalize aa H2 p (.aB ad.cb dx ([("width",iv wd),("targets",.ref tg)]:List (Str×V)))=H3 at b3 ii⊢;have zA:=(b1.trans (al.bt s2 p)).trans b3;have Jg:=Zk.bt b3 Zj;have tl:=BM.ip n ts wR λx hx=>Zi x ((uK x).mp hx);intro d hd;have s4:=al.new (o:=.dK []) hd;have sQ:aa H3 d (.dK []) d=_:=ao;have Pd:H3 d=none:=hd;generalize aa H3 d (.dK [])=H4 at s4 sQ⊢;have iy:p≠d:=aF ii hd;have Jh:tg≠d:=aF Jg hd;refine⟨_,rfl,p,_,dx,_,_,rfl,s4 _ _ ii,T.qU,T.NT,aoe _ _,tg,_,rfl,(Jg.aA s4).sq,uq (K:=K) (a:=tg) (xs:=ts.map iv) (λi σ H'=> ∃v4 v5 kvs,σ=[some (.ref p),some (.ref ct),some (iv wd),some (.ref d),v4,v5]/\Bt d H4 H'/\H' d=some (.dK kvs)/\kvs.length<=i/\ ∀j,j<i->cI kvs (bQ ((ts.getD j 0:Nat):Int))=some (iv j)) ⟨none,none,[],rfl,Bt.refl _ _,sQ,aW _,λj hj=>by lia⟩ ?_ ?_ ?_⟩
  ·rintro i σ H' _ ⟨_,_,_,_,b5,_⟩;exact((Jg.aA s4).bt b5 Jh).sq
  ·rintro i x Tt σ H' hx ⟨v4,v5,kvs,rfl,b5,nJ,oJ,gM⟩ gj;have hi:i<ts.length:=by
    fin2
   rw[ca hi]at hx;obtain rfl:=(bv hx).symm;have st:=al.new (o:=.aE [V.int (i:Nat),iv (ts.getD i 0)]) gj;exists Tt,_,rfl,c8.of ao,rfl,_,_,rfl,_,_,rfl,rfl;exists _,rfl,_,rfl,_,rfl,d,_,rfl,mj.k (k:=bQ ((ts.getD i 0:Nat):Int)) (st _ _ nJ) (cz (by lia));refine⟨_,_,_,rfl,(b5.trans (al.bt st d)).trans (Bt.aa d _ _),ao,?_,λj hj=>?_⟩
   ·have:=vX kvs (bQ ((ts.getD i 0:Nat):Int)) (V.int (i:Nat));lia
   ·rw[Mi];by_cases e:j=i
    ·subst e;rw[if_pos rfl];rfl
    ·rw[if_neg,gM j (by lia)];intro z;have z':ts.getD j 0=ts.getD i 0:=by fin2
     rw[BM.cr (by lia:j<ts.length),BM.cr hi]at z';exact Fz.mp wR j i (by lia) hi (by lia) z'
  ·rintro σ H' ⟨v4,v5,kvs,rfl,b5,nJ,oJ,gM⟩;rw[ax]at gM;have wj: ∀c∈col,cI kvs (bQ ((c:Nat):Int))=some (iv (ts.idxOf c)):=λc hc=>by
    fin2
   have Zl:H' ct=some (.aE (col.map iv)):=b5 _ _ (aF (zA _ _ Pc zf) Pd) (s4 _ _ (zA _ _ Pc zf));refine⟨_,rfl,ct,rfl,⟨_,c8.of Zl⟩,λD hD=>Uk (K:=K) (a:=ct) (xs:=col.map iv) (λj H5=>LI H5 D ((col.take j).map λc=>ts.idxOf c)/\al H' H5) ⟨ao,al.new hD⟩ ?_ ?_ ?_⟩
   ·rintro j H5 _ ⟨_,s5⟩;exact c8.of (s5 _ _ Zl)
   ·rintro j x H5 hx ⟨bn,s5⟩;have hj:j<col.length:=by
     fin2
    rw[ca hj]at hx;obtain rfl:=(bv hx).symm;refine⟨rfl,ja ⟨_,rfl,_,rfl,d,iv (ts.idxOf (col.getD j 0)),rfl,?_,_,bn,?_,?_,λc o e=>?_⟩⟩
    ·rw[<-wj _ (BM.eU hj)];exact iO.k (k:=bQ ((col.getD j 0:Nat):Int)) (s5 _ _ nJ)
    ·rw[ax,ax,il];exact cz (by lia)
    ·show aa _ _ _ _=_;rw[ao,fJ hj,bI,bI,BM.cr hj];rfl
    ·rw[aw (aF e hD)];exact s5 _ _ e
   ·rintro H5 ⟨bn,s5⟩;rw[ax,fK]at bn;have rB:=s5 _ _ (b5 _ _ iy (s4 _ _ ii));exists _,rfl,p,_,dx,_,rfl,rB,T.qU,T.Wl,(by simp);rw[fl3];have nDp:D≠p:=λe=>by rw[e,b5 _ _ iy (s4 _ _ ii)]at hD;cases hD
    have bF:=Bt.aa p H5 (.aB ad.cb dx (oG (iv wd) (.ref tg) (.ref D)));refine k _ D (col.map λc=>ts.idxOf c) ts.length (λb o nb e=>bF _ _ nb (s5 _ _ (b5 _ _ (aF (zA _ _ nb e) Pd) (s4 _ _ (zA _ _ nb e))))) λH8 bL=>?_;have fA: ∀b o,b≠p->H b=some o->H' b=some o:=λb o nb e=>b5 _ _ (aF (zA _ _ nb e) Pd) (s4 _ _ (zA _ _ nb e));have ntL:¬(c_ H tg/\tg≠p):=λz=>by
     obtain⟨o,e⟩:=z.1.there;rw[b1 _ _ z.2 e]at zy;cases zy
    have nDL:¬(c_ H D/\D≠p):=λz=>by
     obtain⟨o,e⟩:=z.1.there;lk
    refine .nM 0 (bL _ _ (λz=>z.2 rfl) ao) (LI.bs (LI.bt (((Jg.aA s4).bt b5 Jh).aA s5) bF Zj) bL ntL) (LI.bs (bn.bt bF nDp) bL nDL) (by lk) (λi hi=>?_) (λt ht=>Zi t ((uK t).mp ht)) Xt tl;have h_:i<col.length:=by rw[gg];exact hi
    have hm:=(uK _).mpr (BM.eU (d:=0) h_);have e:(col.map λc=>ts.idxOf c).getD i 0=ts.idxOf (col.getD i 0):=by
     lk
    fin2
end
def rC(x:Nat×Nat):List bR:=[bQ (x.1:Int),bQ (x.2:Int)]
def je:Nat->List (Nat×Nat)->List (List bR×V)
 |_,[]=>[]
 |j,x::l=>(rC x,iv j)::je (j+1) l
def Zm(h:rC x=rC y):x=y:=by
 injection h with h1 h2;fin2
theorem zB: ∀j l,(je j l).length=l.length
 |_,[]=>rfl
 |j,_::l=>by unfold je;rw[nX,nX,zB (j+1) l]
theorem Zn: ∀j l x,je j (l++[x])=je j l++[(rC x,iv (j+l.length))]
 |_,[],_=>rfl
 |j,y::l,x=>by
  show(rC y,iv j)::je (j+1) (l++[x])=_;rw[Zn (j+1) l x,nX,show j+1+l.length=j+(l.length+1)by lia];rfl
theorem Zo{x:Nat×Nat}: ∀{j:Nat}{l:List (Nat×Nat)},x∈l->cI (je j l) (rC x)=some (iv (j+l.idxOf x))
 |_,[],h=>by cases h
 |j,y::l,h=>by
  unfold je;by_cases e:y=x
  ·subst e;rw[kf rfl,List.idxOf_cons_self];rfl
  ·have hx:x∈l:=by
    fin2
   have ei:(y::l).idxOf x=l.idxOf x+1:=by fin2
   rw[i8 (λz=>e (Zm z)),Zo hx,ei];fin2
theorem Pe{x:Nat×Nat}: ∀{j:Nat}{l:List (Nat×Nat)},¬x∈l->cI (je j l) (rC x)=none
 |_,[],_=>rfl
 |j,y::l,h=>by
  unfold je;rw[i8 (λz=>h (by rw[Zm z];simp)),Pe (λz=>h (e5 _ z))]
theorem Zp: ∀{j:Nat}{l:List (Nat×Nat)}{i:Nat}{kv:List bR×V},(je j l)[i]?=some kv->kv.1=rC (l.getD i (0,0))
 |_,[],i,kv,h=>by simp[je]at h
 |j,y::l,0,kv,h=>by
  have:=bv (h);rw[<-this];rfl
 |j,y::l,i+1,kv,h=>Zp (j:=j+1) (l:=l) (i:=i) h
def dk.bt(h:dk CL CJ n H k q kd ks m D)(hp:H p=some (.aB C dx []))(s:Bt p H H'):dk CL CJ n H' k q kd ks m D:=by
 have nl: ∀{a:ag}{xs:List V},H a=some (.af xs)->a≠p:=λe=>bx e hp (by intro z;cases z);have nt: ∀{a:ag}{xs:List V},H a=some (.aE xs)->a≠p:=λe=>bx e hp (by intro z;cases z);have ni: ∀{a C' d':ag}{f:Str×V}{fs:List (Str×V)},H a=some (.aB C' d' (f::fs))->a≠p:=λe=>bx e hp (by intro z;cases z);induction h with
 |nM k a b c d e f g h=>exact .nM _ (s _ _ (ni a) a) (b.bt s (nl b)) (c.bt s (nl c)) d e f g h
 |oS _ _ a b c d e f g h i j1 j2=>exact .oS j1 j2 (s _ _ (ni a) a) (s _ _ (nl b) b) c (λi q z=>s _ _ (nt (d i q z)) (d i q z)) (e.bt s (nl e)) f g h i
section
variable{P:bj}{w:a_}{K:aP}{mg:Str->Option au}{base:Heap}{ad:Ad}
def dk.Pf(T:cp K mg ad)(h:dk ad.cb ad.b0 n H k p kd ks m D): ∃C dx fs,H p=some (.aB C dx fs)/\jx K C/\dZ K C "kind_of" /\fs.lookup ("kind_of" :Str)=some (V.ref kd):=by
 obtain⟨_,_,_,_,C,dx,fs,hp,⟨rfl,u,v,rfl⟩|⟨rfl,u,v,z,rfl⟩⟩:=h.kind
 ·exact⟨_,_,_,hp,T.qU,T.Wl,alv⟩
 ·exact⟨_,_,_,hp,T.p9,T.Wp,alN⟩
inductive Zq(CL:ag)(CJ:ag)(vs:List V)(H:Hp)(Q:VK)(z5:XK):Prop|mk:∀k p dx p1 p2 k1 k2 fZ f6 n m1 m2 D1 D2,vs=[.ref p,.ref p1,.ref p2]->H p=some (.aB CJ dx [])->dk CL CJ n H k p1 k1 fZ m1 D1->dk CL CJ n H k p2 k2 f6 m2 D2->n<=1024->(∀H' kd ks m,Bt p H H'->(∀H2:Hp,Bs (λb=>c_ H b/\b≠p) H' H2->dk CL CJ n H2 k p1 k1 fZ m1 D1->dk CL CJ n H2 k p2 k2 f6 m2 D2->dk CL CJ n H2 (k+1) p kd ks m (D1++D2))->Q .aX H')->Zq CL CJ vs H Q z5
def aog(T:cp K mg ad):bN P w K mg base bX 1 ad.CS ad.CT ["self","first","second"] (Zq ad.cb ad.b0):=by
 refine T.ajl.ok HV (λvs H Q E h=>?_) (λbB A aY s H vs Q E hr h=>?_)
 ·grind[Zq]
 ·obtain⟨k,p,dx,p1,p2,k1,k2,fZ,f6,n,m1,m2,D1,D2,rfl,hp,j1,j2,hn,kk⟩:=h;have hu:=ki hr;exists _,(aC (eQ (pv 0) (pv 1) rfl) (aC (eQ (pv 0) (pv 2) rfl) (aC (bP (i:=3) HV.nd Mq) (aC (bP (i:=4) HV.nd (cH ay)) (aC (ib eR rfl (ah1 rfl T.Ig (ak (aV (pv 1)) (ak (aV (pv 2)) ay))) (bU (i:=5) HV.nd) (aK (ga (ic iB jJ j0 jy (pv 4) (ak (MO hu (pv 3) (pv 5) (d4 aij (by rfl) T.ee eI (ak (pv 3) ay)) ⟨rfl,rfl,rfl,rfl⟩) ay))))) (aC (eQ (pv 0) (ahH rfl rfl T.EB (pv 3)) rfl) (aK (eQ (pv 0) (pv 4) rfl))))))))
  rfl'
  exists _,rfl,_,rfl,p,_,dx,_,rfl,hp,T.p9,T.Wm,(by simp);exists _,rfl,_,rfl,p,_,dx,_,rfl,ao,T.p9,T.Wn,(by show 1<1000;decide);rw[qB];have b1:=Bt.aa p H (.aB ad.b0 dx (aM "second" (.ref p2) (aM "first" (.ref p1) [])));have di:aa H p (.aB ad.b0 dx (aM "second" (.ref p2) (aM "first" (.ref p1) []))) p=_:=ao;generalize aa H p (.aB ad.b0 dx (aM "second" (.ref p2) (aM "first" (.ref p1) [])))=H1 at b1 di⊢;have Zs:=j1.bt hp b1;have Zt:=j2.bt hp b1;intro d hd;have s2:=al.new (o:=.dT []) hd;have jW:aa H1 d (.dT []) d=_:=ao;generalize aa H1 d (.dT [])=H2 at s2 jW⊢;refine⟨cX _,λkl oJ=>?_⟩;have s3:=al.new (o:=.af []) oJ;have IB:LI (aa H2 kl (.af [])) kl []:=ao;have wS:=oJ;have Pg:=aF jW oJ;generalize aa H2 kl (.af [])=H3 at s3 IB⊢;have qb:=s2.trans s3;have lm:=s3 _ _ jW;have Zu:=Zs.aA qb;have Zv:=Zt.aA qb;obtain⟨C1,dx1,fs1,fF,c1,n1,g1⟩:=Zu.Pf T;obtain⟨C2,dx2,fs2,gB,c2,n2,g2⟩:=Zv.Pf T;have e1:=Zu.kind;have e2:=Zv.kind;have aoh:k1≠d:=λe=>by have h:=e1.2.1;rw[e]at h;exact absurd (lm.symm.trans h) (by intro z;cases z)
  have aoi:k2≠d:=λe=>by have h:=e2.2.1;rw[e]at h;exact absurd (lm.symm.trans h) (by intro z;cases z)
  have aoj:=aF (s2 _ _ Zs.kind.2.1) wS;have aok:=aF (s2 _ _ Zt.kind.2.1) wS;have iy:=aF di hd;have Zw:=aF (s2 _ _ di) wS;refine⟨_,rfl,p1,C1,dx1,_,_,rfl,fF,c1,n1,g1,_,rfl,p2,C2,dx2,_,_,rfl,gB,c2,n2,g2,k1,k2,fZ.map iv,f6.map iv,rfl,e1.2.1.sq,e2.2.1.sq,ah2 (K:=K) (a:=k1) (b:=k2) (xs:=fZ.map iv) (ys:=f6.map iv) (by rw[ax,ax,e1.1,e2.1])
   (fun i σ H'=> ∃v5 dR ks,σ=[some (.ref p),some (.ref p1),some (.ref p2),some (.ref d),some (.ref kl),v5]/\(∀b o,b≠d->b≠kl->H3 b=some o->H' b=some o)/\H' d=some (.dT (je 0 dR))/\LI H' kl ks/\ks.length=i/\dR.length<=i/\(∀t,t<i->ks.getD t 0<dR.length/\dR.getD (ks.getD t 0) (0,0)=(fZ.getD t 0,f6.getD t 0))/\ ∀x∈dR,∃t,t<i/\x=(fZ.getD t 0,f6.getD t 0)) ⟨none,[],[],rfl,λb o _ _ e=>e,lm,IB,rfl,aW _,λt ht=>by lia,λx hx=>by cases hx⟩ ?_ ?_ ?_⟩
  ·rintro i σ H' _ ⟨_,_,_,_,f,_⟩;exact⟨aJ.of (f _ _ aoh aoj e1.2.1),aJ.of (f _ _ aoi aok e2.2.1)⟩
  ·rintro i x y Tt σ H' hx hy ⟨v5,dR,ks,rfl,f,xV,Ph,sX,dH,Fa,Zx⟩ gj;have hi:i<fZ.length:=by
    have:=(gm.mp hx).1
    rwa[ax]at this
   have ba:i<f6.length:=by rw[e2.1,←e1.1];exact hi
   rw[ca hi]at hx;rw[ca ba]at hy;obtain rfl:=(bv hx).symm;obtain rfl:=(bv hy).symm;have gI:i<n:=by rw[←e1.1];exact hi
   have st:=al.new (o:=.aE [iv (fZ.getD i 0),iv (f6.getD i 0)]) gj;have hT:aa H' Tt (.aE [iv (fZ.getD i 0),iv (f6.getD i 0)]) Tt=some (.aE ((rC (fZ.getD i 0,f6.getD i 0)).map kV)):=ao;generalize aa H' Tt (.aE [iv (fZ.getD i 0),iv (f6.getD i 0)])=H5 at st hT⊢;have nJ:=st _ _ xV;have Pj:=Ph.aA st;have Zy:(je 0 dR).length<bh:=by rw[zB];exact cz (by lia)
   exists _,rfl,.inl ⟨rfl,_,Pj.sq⟩,_,rfl,d,rfl,.inr ⟨_,.inl nJ⟩,_,rfl,_,rfl,d,_,rfl,nJ;by_cases hm:(fZ.getD i 0,f6.getD i 0)∈dR
   ·refine⟨iv (dR.idxOf (fZ.getD i 0,f6.getD i 0)),H5,.inr ⟨_,_,Tt,nJ,rfl,hT,Zy,.inl ⟨by rw[Zo hm,tL],rfl⟩⟩,kl,_,_,rfl,rfl,Pj,by rw[ax,sX];exact cz (by lia),?_⟩;have ek:(ks.map iv)++[iv (dR.idxOf (fZ.getD i 0,f6.getD i 0))]=(ks++[dR.idxOf (fZ.getD i 0,f6.getD i 0)]).map iv:=by rw[bI];rfl
    refine⟨_,dR,ks++[dR.idxOf (fZ.getD i 0,f6.getD i 0)],rfl,λb o nb nl e=>by rw[aw nl];exact st _ _ (f b o nb nl e),by rw[aw Pg];exact nJ,by show aa _ _ _ _=_;rw[ao,<-ek],by rw[dS,sX];rfl,by lia,fun t ht=>?_,λx hx=>?_⟩
    ·by_cases e:t=i
     ·subst e;rw[<-sX,BM.xT,sX];fin2
     ·rw[BM.GI (by lia)];exact Fa t (by lia)
    ·fin2
   ·have EI:dI (je 0 dR) (rC (fZ.getD i 0,f6.getD i 0)) (V.int ((je 0 dR).length:Nat))=je 0 (dR++[(fZ.getD i 0,f6.getD i 0)]):=by
     rw[ue _ (Pe hm),Zn,zB,tL];rfl
    refine⟨V.int ((je 0 dR).length:Nat),_,.inr ⟨_,_,Tt,nJ,rfl,hT,Zy,.inr ⟨Pe hm,rfl,rfl⟩⟩,kl,_,_,rfl,rfl,by rw[aw Pg.symm];exact Pj,by rw[ax,sX];exact cz (by lia),?_⟩;have ek:(ks.map iv)++[V.int ((je 0 dR).length:Nat)]=(ks++[dR.length]).map iv:=by rw[bI,zB];rfl
    refine⟨_,dR++[(fZ.getD i 0,f6.getD i 0)],ks++[dR.length],rfl,λb o nb nl e=>by rw[aw nl,aw nb];exact st _ _ (f b o nb nl e),by rw[aw Pg,ao,EI],by show aa _ _ _ _=_;rw[ao,<-ek],by lk,by fin2,λt ht=>?_,λx hx=>?_⟩
    ·by_cases e:t=i
     ·subst e;rw[<-sX,BM.xT,sX,dS,zW];simp
     ·have h1:=Fa t (by lia);rw[BM.GI (by lia),dS,zW];fin2
    ·fin2
  ·rintro σ H' ⟨v5,dR,ks,rfl,f,xV,Ph,sX,dH,Fa,Zx⟩;rw[ax,e1.1]at sX dH Fa Zx;refine⟨_,rfl,d,_,rfl,xV,λl ts hl jY YS=>?_⟩;rw[zB]at jY;have s6:=al.new (o:=.af (ts.map V.ref)) hl;have Fb:aa H' l (.af (ts.map V.ref)) l=_:=ao;have kS:H' p=some (.aB ad.b0 dx (aM "second" (.ref p2) (aM "first" (.ref p1) []))):=f _ _ iy Zw (qb _ _ di);have nlp:p≠l:=aF kS hl;generalize aa H' l (.af (ts.map V.ref))=H6 at s6 Fb⊢;exists _,rfl,p,_,dx,_,rfl,s6 _ _ kS,T.p9,T.Wo,y4;exists _,rfl,_,rfl,p,_,dx,_,rfl,ao,T.p9,T.Wp,Iu;rw[qB,alJ];have bF:=Bt.aa p H6 (.aB ad.b0 dx (kj (.ref p1) (.ref p2) (.ref l) (.ref kl)));have Zz:aa H6 p (.aB ad.b0 dx (kj (.ref p1) (.ref p2) (.ref l) (.ref kl))) p=_:=ao;generalize aa H6 p (.aB ad.b0 dx (kj (.ref p1) (.ref p2) (.ref l) (.ref kl)))=H7 at bF Zz⊢;have all: ∀b o,b≠p->H b=some o->H7 b=some o:=λb o nb e=>by
    have h1:=b1 _ _ nb e;have h2:=s2 _ _ h1;exact bF _ _ nb (s6 _ _ (f _ _ (aF h1 hd) (aF h2 wS) (s3 _ _ h2)))
   refine kk H7 kl ks dR.length all λH8 bL q1 q2=>?_;have fA: ∀b o,b≠p->H b=some o->H' b=some o:=λb o nb e=>by
    have h1:=b1 _ _ nb e;have h2:=s2 _ _ h1;exact f _ _ (aF h1 hd) (aF h2 wS) (s3 _ _ h2)
   have nl:¬(c_ H l/\l≠p):=λz=>by
    obtain⟨o,e⟩:=z.1.there;lk
   have nk:¬(c_ H kl/\kl≠p):=λz=>by
    obtain⟨o,e⟩:=z.1.there;rw[s2 _ _ (b1 _ _ z.2 e)]at wS;cases wS
   refine .oS q1 q2 (bL _ _ (λz=>z.2 rfl) Zz) (bL _ _ nl (bF _ _ nlp.symm Fb)) jY (λi q hq=>?_) (LI.bs (LI.bt (Ph.aA s6) bF Zw.symm) bL nk) sX (λi hi=>Fa i hi) (λx hx=>?_) dH
   ·have g7:i<ts.length:=(gm.mp hq).1;obtain⟨kv,gM⟩: ∃kv,(je 0 dR)[i]?=some kv:=⟨_,eh (by rw[zB,<-jY];exact g7)⟩
    have ht:=YS i q kv hq gM;rw[Zp gM]at ht;have nq:q≠p:=bx ht kS (by intro z;cases z);have nqL:¬(c_ H q/\q≠p):=λz=>by
     rcases z.1 with⟨_,e⟩|⟨_,_,_,e⟩<;>exact absurd ((fA _ _ z.2 e).symm.trans ht) (by intro z;cases z)
    exact bL _ _ nqL (bF _ _ nq (s6 _ _ ht))
   ·fin2
end
def gk(c:aj):List bR:=c.map λ(n:Nat)=>(bQ (n:Int):bR)
noncomputable def gO(D:List (aj×Nat)):List (List bR×V):=D.map λx=>(gk x.1,iv x.2)
def Ji(h:gk x=gk y):x=y:=by
 induction x generalizing y with
 |nil=>
  cases y with
  |nil=>rfl
  |cons b y=>cases h
 |cons a x ih=>
  cases y with
  |nil=>cases h
  |cons b y=>
   have h1:=arn h;have h2:a=b:=by fin2
   rw[h2,ih h1.2]
def ZA(c:aj):(gk c).map kV=c.map iv:=by unfold gk;rw[dy];rfl
def Pl(D:List (aj×Nat)):(gO D).length=D.length:=by unfold gO;rw[ax]
theorem ZB{c:aj}{w:Nat}: ∀{D:List (aj×Nat)},¬c∈D.map (·.1)->cI (gO D) (gk c)=none/\BM.fO D c w=D++[(c,w)]
 |[],_=>⟨rfl,rfl⟩
 |x::D,h=>by
  rw[gF,cO,not_or]at h;have ih:=ZB (w:=w) h.2;constructor
  ·show cI ((gk x.1,iv x.2)::gO D) _=none;rw[i8 (λz=>h.1 (Ji z).symm)];exact ih.1
  ·unfold BM.fO
   rw[if_neg (fun z=>h.1 z.symm),ih.2];rfl
theorem ZC{c:aj}{w:Nat}: ∀{D:List (aj×Nat)},(D.map (·.1)).Nodup->c∈D.map (·.1)-> ∃w0,cI (gO D) (gk c)=some (iv w0)/\(gO D).map (λkv=>if kv.1=gk c then(kv.1,iv (w0+w))else kv)=gO (BM.fO D c w)/\(BM.fO D c w).map (·.1)=D.map (·.1)
 |[],_,h=>by cases h
 |x::D,hn,h=>by
  rw[gF]at hn h;have eV:=jL.mp hn;by_cases e:x.1=c
  ·refine⟨x.2,?_,?_,?_⟩
   ·show cI ((gk x.1,iv x.2)::gO D) _=_;rw[kf (show gk x.1=gk c by rw[e])]
   ·unfold BM.fO;rw[if_pos e];show(if gk x.1=gk c then(gk x.1,iv (x.2+w))else(gk x.1,iv x.2))::(gO D).map _=(gk x.1,iv (x.2+w))::gO D;rw[if_pos (by rw[e])];congr 1;have: ∀kv∈gO D,(if kv.1=gk c then(kv.1,iv (x.2+w))else kv)=kv:=λkv gM=>by
     obtain⟨y,hy,rfl⟩:=cQ.mp gM;rw[if_neg];intro z;exact eV.1 (cQ.mpr ⟨y,hy,by rw[Ji z,e]⟩)
    rw[fy this,asA]
   ·unfold BM.fO;rw[if_pos e];rfl
  ·have hc:c∈D.map (·.1):=by
    fin2
   obtain⟨w0,h1,h2,h3⟩:=ZC (w:=w) eV.2 hc;refine⟨w0,?_,?_,?_⟩
   ·show cI ((gk x.1,iv x.2)::gO D) _=_;rw[i8 (λz=>e (Ji z))];exact h1
   ·unfold BM.fO;rw[if_neg e];show(if gk x.1=gk c then _ else(gk x.1,iv x.2))::(gO D).map _=(gk x.1,iv x.2)::gO (BM.fO D c w);rw[if_neg (λz=>e (Ji z)),h2]
   ·unfold BM.fO;lk
def ZD(w:Nat)(hn:(D.map (·.1)).Nodup): ∃w0,(cI (gO D) (gk c)).getD (.int 0)=iv w0/\dI (gO D) (gk c) (iv (w0+w))=gO (BM.fO D c w)/\((BM.fO D c w).map (·.1)).Nodup:=by
 by_cases h:c∈D.map (·.1)
 ·obtain⟨w0,h1,h2,h3⟩:=ZC (w:=w) hn h;refine⟨w0,by rw[h1];rfl,?_,by rw[h3];exact hn⟩;unfold dI;rw[qJ,h1,if_pos (show(some (iv w0)).isSome=true from rfl),h2]
 ·have h1:=ZB (w:=w) h;refine⟨0,by rw[h1.1];rfl,?_,?_⟩
  ·rw[ue _ h1.1,h1.2,tL];unfold gO;rw[bI];rfl
  ·rw[h1.2,bI]
   refine o6.mpr ⟨hn,by simp,fun a ha b hb e=>?_⟩
   have hb:b=c:=hZ.mp hb
   rw[e,hb]at ha
   exact h ha
theorem ZE(ss:aj)(mr:aZ): ∀j,((BM.dW ss mr j).map (·.1)).Nodup
 |0=>Ac
 |j+1=>by
  rw[BM.vq];obtain⟨_,_,_,h⟩:=ZD (c:=mr.map λr=>r.getD j 0) ((BM.cy ss).getD j 0) (ZE ss mr j);exact h
theorem ZF(ss:aj)(mr:aZ): ∀j,((BM.dW ss mr j).map (·.2)).sum=((aU j).map λi=>(BM.cy ss).getD i 0).sum
 |0=>rfl
 |j+1=>by
  have key: ∀D c w,((BM.fO D c w).map (·.2)).sum=(D.map (·.2)).sum+w:=by
   intro D c w;induction D with
   |nil=>simp[BM.fO]
   |cons x D ih=>
    unfold BM.fO
    split
    ·simp;lia
    ·simp[ih];lia
  rw[BM.vq,key,ZF ss mr j,lD,bI,J_];simp
def aol(f:Nat->Nat)(h:i<=j):((aU i).map f).sum<=((aU j).map f).sum:=by
 induction h with
 |refl=>exact aW _
 |step _ ih=>rw[lD,bI,J_];exact gn ih (Nat.le_add_right _ _)
def aom(h:BM.cZ ss mr M):((aU ss.length).map λi=>(BM.cy ss).getD i 0).sum=256:=by
 have e:=BM.K8 ss (cu ss.length 1) (by simp);have e2:BM.cY ss (cu ss.length 1)=cu 256 1:=by
  rw[BM.K6 (by simp)];apply lC
  ·rw[ax,h.xM,FE]
  ·intro i a b;have hs:=h.AQ b
   rw[BM.cr (by rw[h.xM];exact b)]at hs
   rw[iY,aqQ,BM.cr (by rw[FE];exact hs),aqQ]
 rw[e2,BM.K7]at e;rw[show(256:Nat)=256*1 from rfl,e];congr 1;lk
theorem ZG: ∀{l:aj}{x:Nat},x∈l->x<=l.sum
 |[],_,h=>by cases h
 |a::l,x,h=>by
  rw[Af];rcases cO.mp h with rfl|h
  ·lia
  ·have:=ZG h;lia
def aon(h:BM.cZ ss mr M)(hj:j<=ss.length): ∀x∈BM.dW ss mr j,x.2<=256:=λx hx=>by
 have h1:=ZG (xf (f:=λx=>x.2) hx);rw[ZF]at h1;have:=aol (λi=>(BM.cy ss).getD i 0) hj;rw[aom h]at this;lia
theorem ZH{ss:aj}{mr:aZ}{M:o8}(h:BM.cZ ss mr M): ∀j,j<=ss.length-> ∀x∈BM.dW ss mr j,x.1.length=mr.length/\ ∀y∈x.1,y<mr.length
 |0,_=>λx hx=>by cases hx
 |j+1,hj=>λx hx=>by
  have ih:=ZH h j (by lia);have hc:(mr.map λr=>r.getD j 0).length=mr.length/\ ∀y∈mr.map λr=>r.getD j 0,y<mr.length:=by
   refine⟨by rw[ax],fun y hy=>?_⟩;obtain⟨r,hr,rfl⟩:=cQ.mp hy;obtain⟨i,hi,e⟩:=kD hr;have e':mr.getD i []=r:=by lk
   rw[<-e'];exact h.d8 i hi _ (BM.eU (by rw[h.jO i hi];lia))
  rw[BM.vq]at hx;have key: ∀D c w,(∀x∈D,x.1.length=mr.length/\ ∀y∈x.1,y<mr.length)->(c.length=mr.length/\ ∀y∈c,y<mr.length)-> ∀x∈BM.fO D c w,x.1.length=mr.length/\ ∀y∈x.1,y<mr.length:=by
   intro D c w;induction D with
   |nil=>
    intro _ h2 x hx;rw[hZ.mp hx];exact h2
   |cons z D ih2=>
    intro h1 h2 x hx;unfold BM.fO at hx;split at hx
    ·fin2
    ·rcases cO.mp hx with rfl|hx
     ·lk
     ·exact ih2 (λy hy=>h1 y (e5 _ hy)) h2 x hx
  exact key _ _ _ ih hc x hx
inductive fI(CL CJ:ag)(n:Nat)(S:ag->Prop)(H:Hp)(k:Nat):bp->List (aj×Nat)->Prop
 |nil:fI CL CJ n S H k [] []
 |cons {p kd:ag} {ks:aj} {m:Nat} {D1 D2:List (aj×Nat)} {ps:bp}:(∀H9,Bs S H H9->dk CL CJ n H9 k p kd ks m D1)->fI CL CJ n S H k ps D2->fI CL CJ n S H k (p::ps) (D1++D2)
def fI.to(h:fI CL CJ n S H k ps D)(s: ∀H9,Bs S' H' H9->Bs S H H9):fI CL CJ n S' H' k ps D:=by
 induction h with
 |nil=>exact .nil
 |cons a _ ih=>exact .cons (λH9 b=>a H9 (s H9 b)) ih
def fI.more(h:fI CL CJ n S H k ps D):fI CL CJ n S H (k+1) ps D:=by
 induction h with
 |nil=>exact .nil
 |cons a _ ih=>exact .cons (λH9 b=>(a H9 b).more) ih
def fI.append(h:fI CL CJ n S H k ps D)(g:fI CL CJ n S H k qs E):fI CL CJ n S H k (ps++qs) (D++E):=by
 induction h with
 |nil=>exact g
 |cons a _ ih=>rw[z7];exact .cons a ih
def fI.snoc(h:fI CL CJ n S H k ps D)(g: ∀H9,Bs S H H9->dk CL CJ n H9 k p kd ks m D1):fI CL CJ n S H k (ps++[p]) (D++D1):=by
 have:=h.append (.cons g .nil);lk
def dk.bu(h:dk CL CJ n H k q kd ks m D)(hp:H d=some (.bu od u))(s:Bt d H H'):dk CL CJ n H' k q kd ks m D:=by
 have nl: ∀{a:ag}{xs:List V},H a=some (.af xs)->a≠d:=λe=>bx e hp (by intro z;cases z);have nt: ∀{a:ag}{xs:List V},H a=some (.aE xs)->a≠d:=λe=>bx e hp (by intro z;cases z);have ni: ∀{a C' d':ag}{fs:List (Str×V)},H a=some (.aB C' d' fs)->a≠d:=λe=>bx e hp (by intro z;cases z);induction h with
 |nM k a b c d e f g h=>exact .nM _ (s _ _ (ni a) a) (b.bt s (nl b)) (c.bt s (nl c)) d e f g h
 |oS _ _ a b c d e f g h i j1 j2=>exact .oS j1 j2 (s _ _ (ni a) a) (s _ _ (nl b) b) c (λi q z=>s _ _ (nt (d i q z)) (d i q z)) (e.bt s (nl e)) f g h i
def fI.bu(h:fI CL CJ n S H k ps D)(hs: ∀b,S2 b->S b)(hp:H d=some (.bu od u)):fI CL CJ n S2 (aa H d u2) k ps D:=by
 induction h with
 |nil=>exact .nil
 |@cons _ kd ks m _ _ _ a _ ih=>
  refine .cons (kd:=kd) (ks:=ks) (m:=m) (λH2 b2=>?_) ih;have h3:=a (λb=>if b=d then H d else H2 b) λb o nb e=>by
   by_cases z:b=d
   ·lk
   ·show(if b=d then _ else _)=_;rw[if_neg z];exact b2 _ _ (λy=>nb (hs _ y)) (by rw[aw z];exact e)
  refine h3.bu (d:=d) (show(if d=d then H d else _)=_ by rw[if_pos rfl];exact hp) λb o nb e=>?_;lk
def aoo{ss:aj}{mr:aZ}: ∀j,0<j->0<(BM.dW ss mr j).length
 |0,h=>absurd h (xp _)
 |j+1,_=>by rw[BM.vq];exact BM.adz _ _ _
section
variable{P:bj}{w:a_}{K:aP}{mg:Str->Option au}{base:Heap}{ad:Ad}
inductive aop(CM:ag)(CL:ag)(CJ:ag)(vs:List V)(H:Hp)(Q:VK)(z6:XK):Prop|mk:∀pm dx bC am at_ bG br ss mr M,vs=[.ref pm]->jG CM H pm dx bC am at_ bG br ss mr M->(∀H' q ps,al H H'->H' q=some (.af (ps.map V.ref))->H q=none->fI CL CJ mr.length (c_ H) H' 0 ps (BM.dW ss mr ss.length)->ps.length<=256->0<ps.length->Q (.ref q) H')->aop CM CL CJ vs H Q z6
def aoq(T:cp K mg ad):bN P w K mg base bX 3 ad.DT ad.DU ["machine"] (aop ad.dB ad.cb ad.b0):=by
 refine T.WK.ok qS (λvs H Q E h=>?_) (λbB A aY s H vs Q E hr h=>?_)
 ·obtain⟨pm,dx,bC,am,at_,bG,br,ss,mr,M,rfl,_⟩:=h;rfl
 ·obtain⟨pm,dx,bC,am,at_,bG,br,ss,mr,M,rfl,hM,k⟩:=h;have hu:=ki hr;exists _,(aC (bP (i:=1) qS.nd Mq) (aC (ib eR rfl (qL rfl T.qV (ak (gy (Oc T) hr.m rfl T.N1 T.Ic.kp T.N0 .nil bE (ak (aV (pv 0)) ay)) ay)) (nh rfl (dt (bU (i:=2) qS.nd) (dt (bU (i:=3) qS.nd) jT))) (aC (bP (i:=4) qS.nd (yb TX (by rfl) T.W9 aqo (ak (ke rfl qS.nd (gY (aV (pv 0))) (bz:=[("row",5)]) (gZ (show gz ["machine","widths","span","width","column","row"] (bg HP) _ _=true by x_go)) (λ_ _ _ _ _=>(bU (i:=5) qS.nd)) (λ_ _ _ _ _=>i7) (λ_ _ _ _ _=>(bD (nE K) (pv 5) (pv 2)))) ay))) (aK (uh hu (pv 1) (pv 4) (df nu (afU hu (pv 1) (pv 4) bm ⟨rfl,rfl,rfl,rfl⟩) (pv 3)) rfl)))) (aK (bK (afY (ke rfl qS.nd (aia (pv 1)) (bz:=[("column",4),("width",3)]) (gZ (show gz ["machine","widths","span","width","column","row"] (bg HP) _ _=true by x_go)) (λ_ _ _ _ _=>(yB (n:=2) K rfl (dt (bU (i:=4) qS.nd) (dt (bU (i:=3) qS.nd) jT)))) (λ_ _ _ _ _=>i7) (λ_ _ _ _ _=>(vN T.aiM (aof T) hr.m rfl T.aiN T.ajj .nil bE (ak (pv 4) (ak (pv 3) ay))))))))))
  rfl'
  have hI:=hM.mG;have cT:=BM.ip 256 ss (hI.st.1.imp λh=>d7 h) hI.st.2;have uL:=hI.cT;intro d hd;have s1:=al.new (o:=.dT []) hd;have mx:aa H d (.dT []) d=_:=ao;have zC:=hd;generalize aa H d (.dT [])=H1 at s1 mx⊢;have mI:=hM.to s1;refine⟨_,rfl,pm,_,dx,_,_,rfl,mI.obj,T.d5,T.yQ,ED,bC,ss,rfl,mI.zr,hI.st,hI.Gz,λH2 wq s2 hw uA=>?_⟩;have jW:=s2 _ _ mx;have nwd:wq≠d:=λe=>by lk
  refine⟨wq,_,rfl,hw.sq,uq (K:=K) (a:=wq) (xs:=(BM.cy ss).map iv) (λi σ H'=> ∃v2 v3 v4,σ=[some (.ref pm),some (.ref d),v2,v3,v4,none]/\Bt d H2 H'/\H' d=some (.dT (gO (BM.dW ss mr i)))) ⟨none,none,none,rfl,Bt.refl _ _,jW⟩ ?_ ?_ ?_⟩
  ·rintro i σ H' _ ⟨_,_,_,_,b3,_⟩;exact(hw.bt b3 nwd).sq
  ·rintro i x Tt σ H' hx ⟨v2,v3,v4,rfl,b3,lm⟩ gj;have hi:i<ss.length:=by
    have:=(gm.mp hx).1;rwa[ax,BM.vp]at this
   rw[ca (by rw[BM.vp];exact hi)]at hx;obtain rfl:=(bv hx).symm;have st:=al.new (o:=.aE [V.int (i:Nat),iv ((BM.cy ss).getD i 0)]) gj;exists Tt,_,rfl,c8.of ao,rfl,_,_,rfl,_,_,rfl,rfl;generalize aa H' Tt (.aE [V.int (i:Nat),iv ((BM.cy ss).getD i 0)])=H4 at st⊢;have sQ:=st _ _ lm;have b4:Bt d H H4:=λb o nb e=>st _ _ (b3 _ _ nb (s2 _ _ (s1 _ _ e)));have fA:=λb o e=>b4 b o (aF e zC) e;have rD:=hM.to fA;refine⟨_,rfl,pm,_,dx,_,_,rfl,rD.obj,T.d5,T.wz,yX,am,rfl,⟨_,aJ.of rD.rows.af⟩,λD hD=>lN (K:=K) (a:=am) (xs:=br.map V.ref) (λj H5=>LI H5 D ((mr.take j).map λr=>r.getD i 0)/\al H4 H5) ⟨ao,al.new hD⟩ ?_ ?_ ?_⟩
   ·rintro j H5 _ ⟨_,s5⟩;exact aJ.of (s5 _ _ rD.rows.af)
   ·rintro j x H5 hx ⟨bn,s5⟩;have hj:j<mr.length:=by
     have:=(gm.mp hx).1;rwa[ax,rD.rows.len]at this
    obtain⟨b,hb⟩: ∃b,br[j]?=some b:=⟨_,eh (by rw[rD.rows.len];exact hj)⟩
    rw[gP,hb]at hx;obtain rfl:=(bv hx).symm;have oH:=rD.rows.at_ j b hb;refine⟨rfl,ja ⟨_,rfl,_,rfl,b,_,_,iv ((mr.getD j []).getD i 0),rfl,rfl,(oH.aA s5).sq,bc (ca (by rw[hI.jO j hj];exact hi)),_,bn,?_,?_,λc o e=>?_⟩⟩
    ·rw[ax,ax,il];exact cz (by lia)
    ·show aa _ _ _ _=_;rw[ao,fJ hj,bI,bI,BM.cr hj];rfl
    ·rw[aw (aF e hD)];exact s5 _ _ e
   ·rintro H5 ⟨bn,s5⟩;rw[ax,rD.rows.len,fK]at bn;refine⟨D,_,rfl,.inl ⟨bn.sq,λtq uH=>?_⟩⟩;have s6:=al.new (o:=.aE ((mr.map λr=>r.getD i 0).map iv)) uH;have Pn:aa H5 tq (.aE ((mr.map λr=>r.getD i 0).map iv)) tq=some (.aE ((gk (mr.map λr=>r.getD i 0)).map kV)):=by rw[ZA];exact ao
    generalize aa H5 tq (.aE ((mr.map λr=>r.getD i 0).map iv))=H6 at s6 Pn⊢;have Po:=s6 _ _ (s5 _ _ sQ);obtain⟨w0,Nf,aor,_⟩:=ZD (c:=mr.map λr=>r.getD i 0) ((BM.cy ss).getD i 0) (ZE ss mr i);exists _,rfl,d,rfl,.inr ⟨_,.inl Po⟩,_,rfl,_,iO.t Po Pn;rw[Nf];have gg:=BM.K' ss mr i;exists _,rfl,_,_,rfl,rfl,_,rfl,_,rfl,d,_,rfl,mj.t Po Pn (by rw[Pl];exact cz (by lia));refine⟨_,_,_,rfl,λb o nb e=>?_,?_⟩
    ·rw[aw nb];exact s6 _ _ (s5 _ _ (st _ _ (b3 _ _ nb e)))
    ·rw[ao,BM.vq,<-aor];rfl
  ·rintro σ H' ⟨v2,v3,v4,rfl,b3,lm⟩;rw[ax,BM.vp]at lm;have fA: ∀b o,H b=some o->H' b=some o:=λb o e=>b3 b o (aF e zC) (s2 _ _ (s1 _ _ e));have gg:=BM.K' ss mr ss.length;refine⟨d,_,lm,trivial,λod=>?_⟩;have zD:aa H' d (.bu od (.dT (gO (BM.dW ss mr ss.length)))) d=_:=ao;have b7:=Bt.aa d H' (.bu od (.dT (gO (BM.dW ss mr ss.length))));generalize aa H' d (.bu od (.dT (gO (BM.dW ss mr ss.length))))=H7 at zD b7⊢;refine⟨_,rfl,d,od,_,rfl,zD,λD hD=>aib (d:=d) (o:=od) (kvs:=gO (BM.dW ss mr ss.length)) (λi H5=> ∃ps:bp,H5 D=some (.af (ps.map V.ref))/\ps.length=i/\al H7 H5/\fI ad.cb ad.b0 mr.length (λb=>c_ H b\/b=D) H5 0 ps ((BM.dW ss mr ss.length).take i)) ⟨[],ao,rfl,al.new hD,.nil⟩ ?_ ?_ ?_⟩
   ·rintro i H5 _ ⟨_,_,_,s5,_⟩;exact s5 _ _ zD
   ·rintro i kk vv Tt q H5 gM ⟨ps,bn,dH,s5,qc⟩ gj hq;have hi:i<(BM.dW ss mr ss.length).length:=by
     have:=(gm.mp gM).1;rwa[Pl]at this
    have ekv:(gk (BM.dW ss mr ss.length)[i].1,iv (BM.dW ss mr ss.length)[i].2)=(kk,vv):=by
     unfold gO at gM;lk
    obtain⟨rfl,rfl⟩:=abU ekv;have wg:=ZH hI ss.length (aW _) _ (nY hi);have tT:=aon hI (aW _) _ (nY hi);have g8:=fJ hi;generalize(BM.dW ss mr ss.length)[i]=cx at hq gM wg tT g8⊢;obtain⟨col,wd⟩:=cx;rw[ZA]at hq;have st:=al.new (o:=.aE [V.ref q,iv wd]) gj;refine⟨Tt,_,rfl,c8.of ao,rfl,_,_,rfl,_,_,rfl,rfl,rfl,ja ?_⟩;generalize aa H5 Tt (.aE [V.ref q,iv wd])=H6 at st⊢;refine⟨_,rfl,_,rfl,λx oT hx re hne=>?_⟩;have nqx:q≠x:=aF (st _ _ hq) hx;have nqd:q≠oT:=aF (st _ _ hq) re;have mk: ∀b o,H6 b=some o->aa (aa H6 oT (.bz x)) x (.aB ad.cb oT []) b=some o:=λb o e=>by
     rw[aw (aF e hx),aw (aF e re)];exact e
    refine⟨x,oT,q,col,wd,mr.length,rfl,ao,mk _ _ (st _ _ hq),wg.1,wg.2,uL,tT,λH8 kd ks m b8 hP=>⟨rfl,?_⟩⟩;have s8:al H6 H8:=λb o e=>b8 _ _ (aF e hx) (mk _ _ e);have ku:=s8 _ _ (st _ _ bn);refine⟨_,ku,by rw[ax,dH];exact cz (by lia),ps++[x],?_,?_,λb o e=>?_,?_⟩
    ·rw[ao,bI];rfl
    ·lk
    ·rw[aw (aF e hD)];exact s8 _ _ (st _ _ (s5 _ _ e))
    ·rw[g8];have up: ∀H9,Bs (λb=>c_ H b\/b=D) (aa H8 D (.af (ps.map V.ref++[V.ref x]))) H9->Bs (λb=>c_ H b\/b=D) H8 H9:=λH9 b9 b o nb e=>b9 _ _ nb (by rw[aw (λz=>nb (.inr z))];exact e);refine(qc.to λH9 b9 b o nb e=>up H9 b9 _ _ nb (s8 _ _ (st _ _ e))).snoc λH9 b9=>hP H9 λb o nb e=>up H9 b9 _ _ (λz=>nb ?_) e;have Fc: ∀c o,H c=some o->aa (aa H6 oT (.bz x)) x (.aB ad.cb oT []) c=some o:=λc o e=>mk _ _ (st _ _ (s5 _ _ (b7 _ _ (aF e zC) (fA _ _ e))));have mX: ∀c o,H c=some o->c≠x:=λc o e=>aF (st _ _ (s5 _ _ (b7 _ _ (aF e zC) (fA _ _ e)))) hx;rcases z with(⟨xs,e⟩|⟨C,d2,fs,e⟩)|rfl
     ·exact⟨.inl ⟨xs,Fc _ _ e⟩,mX _ _ e⟩
     ·exact⟨.inr ⟨C,d2,fs,Fc _ _ e⟩,mX _ _ e⟩
     ·exact⟨.inl ⟨_,mk _ _ (st _ _ bn)⟩,aF (st _ _ bn) hx⟩
   ·rintro H5 ⟨ps,bn,dH,s5,qc⟩;rw[Pl]at dH qc;rw[fK]at qc;have Bj:d≠D:=aF zD hD;have YD:H D=none:=by
     cases e:H D with
     |none=>rfl
     |some o=>rw[b7 _ _ Bj.symm (fA _ _ e)]at hD;cases hD
    have Pp:fI ad.cb ad.b0 mr.length (c_ H) (aa H5 d (.dT (gO (BM.dW ss mr ss.length)))) 0 ps (BM.dW ss mr ss.length):=qc.bu (λb z=>.inl z) (s5 _ _ zD);refine⟨s5 _ _ zD,k _ D ps (λb o e=>?_) (by rw[aw Bj.symm];exact bn) YD Pp (by lia) (by rw[dH];exact aoo _ hI.Gz)⟩;rw[aw (aF e zC)];exact s5 _ _ (b7 _ _ (aF e zC) (fA _ _ e))
end
def aos(ns:List V)(m:Nat)(h:m<=ns.length):k5 ns (some (m:Int)) none=ns.drop m:=by
 unfold k5;rw[HT.G7,HT.yc,FL h];exact aa5 (by simp)
def rg2(h:2*e<=1000000):UA 0 ((2*e:Nat):Int) 2 e:=by
 refine⟨by room,by room,?_,?_⟩
 ·unfold aqv;rw[asX (by lia) (by lia)];have fit: ∀i:Int,0<=i->i<=2000000->aqj i=true:=λi h1 h2=>by
   unfold aqj;fin2
  fin2
 ·rw[asX (by lia) (by lia)];lia
def fI.split(h:fI CL CJ n S H k ps D): ∀{p1 p2:ag}{aD:bp},ps=p1::p2::aD-> ∃k1 k2 fZ f6 m1 m2 D1 D2 D3,D=(D1++D2)++D3/\(∀H9,Bs S H H9->dk CL CJ n H9 k p1 k1 fZ m1 D1)/\(∀H9,Bs S H H9->dk CL CJ n H9 k p2 k2 f6 m2 D2)/\fI CL CJ n S H k aD D3:=by
 intro p1 p2 aD e;subst e
 cases h with
 |cons a b=>
  cases b with
  |cons c d=>exact⟨_,_,_,_,_,_,_,_,_,by simp,a,c,d⟩
def ZI(s:al H H'):Bs S H H':=λb o _ e=>s b o e
section
variable{P:bj}{w:a_}{K:aP}{mg:Str->Option au}{base:Heap}{ad:Ad}
inductive aot(CL:ag)(CJ:ag)(vs:List V)(H:Hp)(Q:VK)(z5:XK):Prop|mk:∀p kd a ks l n m D,vs=[.ref p,.ref a]->dk CL CJ n H 8 p kd ks m D->LI H a l->l.length=n->n<=1024->(∀x∈l,x<=BM.f9)->(∀H' q,al H H'->LI H' q ((aU n).map λi=>BM.jo D l i)->H q=none->Q (.ref q) H')->aot CL CJ vs H Q z5
def ZJ(T:cp K mg ad)(hne:ad.b0≠ad.cb):bN P w K mg base bX 10 ad.DX ad.DY ["whole","numbers"] (aot ad.cb ad.b0):=by
 refine T.N4.ok HX (λvs H Q E h=>?_) (λbB A aY s H vs Q E hr h=>?_)
 ·obtain⟨p,kd,a,ks,l,n,m,D,rfl,_⟩:=h;rfl
 ·obtain⟨p,kd,a,ks,l,n,m,D,rfl,hP,ha,hl,hn,hx,k⟩:=h;exists _,(aC (bP (i:=2) HX.nd (Nc (e_ (pv 0) T.qU T.NW (O9 T hne 8) (hr.mono (by lia)) T.NV .nil bE (ak (pv 1) ay)) (e_ (pv 0) T.p9 T.NY (Zd T hne 8) (hr.mono (by lia)) T.NX .nil bE (ak (pv 1) ay)))) (aK (bK (ke rfl HX.nd (gY (aV (pv 0))) (bz:=[("kind",3)]) (gZ (show gz ["whole","numbers","sums","kind"] (bg NE) _ _=true by x_go)) (λ_ _ _ _ _=>(bU (i:=3) HX.nd)) (λ_ _ _ _ _=>i7) (λ_ _ _ _ _=>(bD (nE K) (pv 2) (pv 3)))))))
  rfl'
  refine Pa hP (λR h=>⟨_,rfl,h⟩) (λR h=>⟨_,rfl,h⟩) ha hl hn hx λH1 q1 S s1 fF Zf hS hv=>?_;have Jj:=hP.aA s1;obtain⟨C,dx,fs,hp,c,nn,g⟩:=Jj.Pf T;obtain⟨oJ,Jf,atF,_⟩:=Jj.kind;refine⟨_,rfl,p,C,dx,_,_,rfl,hp,c,nn,g,kd,rfl,⟨_,Jf.sq⟩,λD' hD=>lN (K:=K) (a:=kd) (xs:=ks.map iv) (λj H5=>LI H5 D' ((aU j).map λi=>BM.jo D l i)/\al H1 H5) ⟨ao,al.new hD⟩ ?_ ?_ ?_⟩
  ·rintro j H5 _ ⟨_,s5⟩;exact(Jf.aA s5).sq
  ·rintro j x H5 mH ⟨bn,s5⟩;have hj:j<ks.length:=by
    have:=(gm.mp mH).1
    rwa[ax]at this
   rw[ca hj]at mH;obtain rfl:=(bv mH).symm;have hjn:j<n:=by rw[<-oJ];exact hj
   refine⟨rfl,ja ⟨_,rfl,_,rfl,q1,_,_,iv (S.getD (ks.getD j 0) 0),rfl,rfl,(fF.aA s5).sq,bc (ca (by rw[hS];exact atF j hjn)),_,bn,?_,?_,λc o e=>?_⟩⟩
   ·rw[ax,ax,iX];exact cz (by lia)
   ·show aa _ _ _ _=_;rw[ao,lD,bI,bI,hv j hjn];rfl
   ·rw[aw (aF e hD)];exact s5 _ _ e
  ·rintro H5 ⟨bn,s5⟩;rw[ax,oJ]at bn;exact k H5 D' (s1.trans s5) bn (s1.free hD)
inductive aou(CM:ag)(CL:ag)(CJ:ag)(vs:List V)(H:Hp)(Q:VK)(z6:XK):Prop|mk:∀pm dx bC am at_ bG br ss mr M,vs=[.ref pm]->jG CM H pm dx bC am at_ bG br ss mr M->(∀H' p kd ks m,al H H'->(∀H2,Bs (c_ H) H' H2->dk CL CJ mr.length H2 8 p kd ks m (BM.dW ss mr ss.length))->Q (.ref p) H')->aou CM CL CJ vs H Q z6
def aov(T:cp K mg ad):bN P w K mg base bX 4 ad.DV ad.DW ["machine"] (aou ad.dB ad.cb ad.b0):=by
 refine T.WL.ok yJ (λvs H Q E h=>?_) (λbB A aY s H vs Q E hr h=>?_)
 ·obtain⟨pm,dx,bC,am,at_,bG,br,ss,mr,M,rfl,_⟩:=h;rfl
 ·obtain⟨pm,dx,bC,am,at_,bG,br,ss,mr,M,rfl,hM,k⟩:=h;exists _,(aC (bP (i:=1) yJ.nd (gy (aoq T) hr.m rfl T.akg T.WK.kp T.akf .nil bE (ak (pv 0) ay))) (aC (pN eR (dY ua (d4 eX (by rfl) T.ee eI (ak (pv 1) ay)) bm (dG _)) (aC (bP (i:=2) yJ.nd (df vI (d4 eX (by rfl) T.ee eI (ak (pv 1) ay)) (df LO (d4 eX (by rfl) T.ee eI (ak (pv 1) ay)) bm))) (aC (vV (i:=3) rfl yJ.nd rfl rfl (vW rfl rfl rfl rfl) (af1 rfl T.yV (ak bm (ak (pv 2) (ak bm ay)))) (bz:=[("place",4)]) (gZ (show gz ["machine","parts","even","joints","place"] (bg ND) _ _=true by x_go)) (λ_ _ _ _ _=>(bU (i:=4) yJ.nd)) (λ_ _ _ _ _=>i7) (λ_ _ _ _ _=>(vN T.aiO (aog T) hr.m rfl T.aiP T.ajm .nil bE (ak (bD (nE K) (pv 1) (pv 4)) (ak (bD (nE K) (pv 1) (df nu (pv 4) bm)) ay))))) (aK (bP (i:=1) yJ.nd (df yh (pv 3) (yd yf (pv 1) (vO (pv 2)) Bn))))))) (aK (bK (bD bY (pv 1) bm)))))
  rfl'
  have hI:=hM.mG;have uL:=hI.cT;refine⟨_,rfl,pm,dx,bC,am,at_,bG,br,ss,mr,M,rfl,hM,λH1 q1 ps1 s1 fF _ Jj eY di=>?_⟩;exists λm σ H'=> ∃q ps v2 v3 dd,σ=[some (.ref pm),some (.ref q),v2,v3,none]/\H' q=some (.af (ps.map V.ref))/\al H H'/\fI ad.cb ad.b0 mr.length (c_ H) H' dd ps (BM.dW ss mr ss.length)/\ps.length<=2^(8-dd)/\dd<=8/\0<ps.length/\ps.length=m,⟨_,q1,ps1,none,none,0,rfl,fF,s1,Jj,eY,cX _,di,rfl⟩
  rintro m σ H' ⟨q,ps,v2,v3,dd,rfl,hq,s',qc,dJ,nA,mE,rfl⟩;exists _,rfl,q,_,rfl,.inl (aJ.of hq),_,_,rfl,rfl,_,rfl;refine bq (λc=>?_) (λc=>?_)
  ·have Ll:1<ps.length:=by
    fin2
   have hd8:dd<8:=by
    rcases asI dd 8 with h|h
    ·exact h
    ·have e8:dd=8:=by lia
     fin2
   have atG:=gn dJ (abk (by room) (show 8-dd<=8 by omega));obtain⟨e,r,hr2,her⟩: ∃e r,r<2/\ps.length=2*e+r:=⟨ps.length/2,ps.length%2,by lia,by lia⟩
   exists fun aL H2=> ∃m',m'<ps.length/\ ∃q ps v2 v3 dd,aL=[some (.ref pm),some (.ref q),v2,v3,none]/\H2 q=some (.af (ps.map V.ref))/\al H H2/\fI ad.cb ad.b0 mr.length (c_ H) H2 dd ps (BM.dW ss mr ss.length)/\ps.length<=2^(8-dd)/\dd<=8/\0<ps.length/\ps.length=m',fun aL H2 h=>h;exists _,rfl,q,_,rfl,.inl (aJ.of hq),_,rfl,q,_,rfl,.inl (aJ.of hq),_,_,rfl,rfl,(by lia),_,_,rfl,rfl;have eE:(((ps.map V.ref).length:Nat):Int)-(((ps.map V.ref).length:Nat):Int)%2=((2*e:Nat):Int):=by
    fin2
   dsimp only;rw[eE];refine⟨_,rfl,0,((2*e:Nat):Int),2,e,rfl,rg2 (by lia),λD hD=>ahC (lo:=0) (c:=2) (n:=e) (λi H5=> ∃js Da Db,H5 D=some (.af (js.map V.ref))/\js.length=i/\al H' H5/\BM.dW ss mr ss.length=Da++Db/\fI ad.cb ad.b0 mr.length (λb=>c_ H b\/b=D) H5 (dd+1) js Da/\fI ad.cb ad.b0 mr.length (c_ H) H' dd (ps.drop (2*i)) Db) ⟨[],[],_,ao,rfl,al.new hD,rfl,.nil,qc⟩ ?_ ?_⟩
   ·rintro i H5 hi ⟨js,Da,Db,bn,tY,s5,eD,Pq,uM⟩;have i1:2*i<ps.length:=by lia
    have i2:2*i+1<ps.length:=by lia
    have aow:ps.drop (2*i)=ps[2*i]::ps[2*i+1]::ps.drop (2*(i+1)):=by
     rw[show 2*(i+1)=2*i+1+1 by lia,JP i1,JP i2]
    obtain⟨k1,k2,fZ,f6,m1,m2,D1,D2,D3,eDb,j1,j2,j3⟩:=uM.split aow;have ei:(0:Int)+((i:Nat):Int)*2=((2*i:Nat):Int):=by lia
    rw[ei];refine⟨rfl,ja ⟨_,rfl,_,rfl,q,_,_,V.ref ps[2*i],rfl,rfl,aJ.of (s5 _ _ hq),bc (by simp),_,rfl,_,rfl,_,_,rfl,rfl,q,_,_,V.ref ps[2*i+1],rfl,rfl,aJ.of (s5 _ _ hq),bc (j:=2*i+1) (by simp),λx oT hx re hne=>?_⟩⟩;have mk: ∀b o,H5 b=some o->aa (aa H5 oT (.bz x)) x (.aB ad.b0 oT []) b=some o:=λb o e=>by
     rw[aw (aF e hx),aw (aF e re)];exact e
    refine⟨dd,x,oT,ps[2*i],ps[2*i+1],k1,k2,fZ,f6,mr.length,m1,m2,D1,D2,rfl,ao,j1 _ (ZI (s5.trans mk)),j2 _ (ZI (s5.trans mk)),uL,λH8 kd ks m b8 hP=>⟨rfl,?_⟩⟩;have s8:al H5 H8:=λb o e=>b8 _ _ (aF e hx) (mk _ _ e);refine⟨_,s8 _ _ bn,by rw[ax,tY];exact cz (by lia),js++[x],Da++(D1++D2),D3,?_,?_,λb o e=>?_,?_,?_,j3⟩
    ·rw[ao,bI];rfl
    ·lk
    ·rw[aw (aF e hD)];exact s8 _ _ (s5 _ _ e)
    ·lk
    ·have up: ∀H9,Bs (λb=>c_ H b\/b=D) (aa H8 D (.af (js.map V.ref++[V.ref x]))) H9->Bs (λb=>c_ H b\/b=D) H8 H9:=λH9 b9 b o nb e=>b9 _ _ nb (by rw[aw (λz=>nb (.inr z))];exact e);have lo: ∀H9,Bs (λb=>c_ H b\/b=D) H8 H9->Bs (c_ H) H' H9:=λH9 b9 b o nb e=>b9 _ _ (λz=>by
      rcases z with z|z
      ·exact nb z
      ·exact aF e hD z) (s8 _ _ (s5 _ _ e))
     refine(Pq.to λH9 b9 b o nb e=>up H9 b9 _ _ nb (s8 _ _ e)).snoc λH9 b9=>hP H9 (λb o nb e=>up H9 b9 _ _ (λz=>nb ?_) e) (j1 _ (lo _ (up H9 b9))) (j2 _ (lo _ (up H9 b9)));have Fc: ∀c o,H c=some o->aa (aa H5 oT (.bz x)) x (.aB ad.b0 oT []) c=some o:=λc o e=>mk _ _ (s5 _ _ (s' _ _ e));have mX: ∀c o,H c=some o->c≠x:=λc o e=>aF (s5 _ _ (s' _ _ e)) hx;rcases z with(⟨xs,e⟩|⟨C,d2,fs,e⟩)|rfl
     ·exact⟨.inl ⟨xs,Fc _ _ e⟩,mX _ _ e⟩
     ·exact⟨.inr ⟨C,d2,fs,Fc _ _ e⟩,mX _ _ e⟩
     ·exact⟨.inl ⟨_,mk _ _ bn⟩,aF bn hx⟩
   ·rintro H5 ⟨js,Da,Db,bn,tY,s5,eD,Pq,uM⟩;have s05:al H H5:=s'.trans s5;have er:k5 (ps.map V.ref) (some ((2*e:Nat):Int)) none=(ps.drop (2*e)).map V.ref:=by
     rw[aos _ _ (by lia),ash]
    refine⟨_,rfl,_,rfl,_,rfl,_,rfl,q,_,rfl,aJ.of (s5 _ _ hq),λl1 eY=>?_⟩;rw[er];have s6:=al.new (o:=.af ((ps.drop (2*e)).map V.ref)) eY;have Fb:aa H5 l1 (.af ((ps.drop (2*e)).map V.ref)) l1=_:=ao;generalize aa H5 l1 (.af ((ps.drop (2*e)).map V.ref))=H6 at s6 Fb⊢;refine⟨D,l1,_,_,rfl,rfl,s6 _ _ bn,Fb,?_,λl2 ed=>?_⟩
    ·rw[ax,ax,abB];exact kr (by omega)
    have s7:=al.new (o:=.af (js.map V.ref++(ps.drop (2*e)).map V.ref)) ed;have hl7:aa H6 l2 (.af (js.map V.ref++(ps.drop (2*e)).map V.ref)) l2=_:=ao;generalize aa H6 l2 (.af (js.map V.ref++(ps.drop (2*e)).map V.ref))=H7 at s7 hl7⊢;have sT:=s6.trans s7;have cS:(js++ps.drop (2*e)).length=e+r:=by lk
    have EH:ps.length<=2*2^(8-(dd+1)):=by
     have e8:8-dd=(8-(dd+1))+1:=by omega
     rw[e8,Nat.pow_succ,QW]at dJ;exact dJ
    refine⟨_,?_,l2,js++ps.drop (2*e),_,_,dd+1,rfl,by lk,s05.trans sT,?_,?_,by lia,?_,rfl⟩
    ·rw[cS];omega
    ·rw[eD];exact(Pq.to λH9 b9 b o nb e=>b9 _ _ (λz=>nb (.inl z)) (sT _ _ e)).append (uM.more.to λH9 b9 b o nb e=>b9 _ _ nb (sT _ _ (s5 _ _ e)))
    ·rw[cS];lia
    ·rw[cS];omega
  ·have aox:ps.length<=1:=by
    fin2
   match ps,aox,mE,qc,hq with
   |[p],_,_,qc,hq=>
    exists _,rfl,q,_,_,V.ref p,rfl,rfl,aJ.of hq,bc (j:=0) rfl;generalize ZK:BM.dW ss mr ss.length=DD at qc
    cases qc with
    |cons a b=>
     cases b with
     |nil=>
      rw[lE]at ZK;exact k H' p _ _ _ s' (by rw[ZK];exact λH2 b2=>(a H2 b2).le nA)
end
end Bp
namespace Bp
open PySem PySem.Spec PyProof.Rows L2
open Sw15 (countsAt further)
def aoy(x:Nat):V.int (if(18446744073709551616:Int)<((x:Nat):Int)then 18446744073709551616 else((x:Nat):Int))=iv (BM.cB x):=by
 unfold iv BM.cB BM.f9;congr 1;split<;>lia
def aoz(a b c d:V):(gh a b c d).length<1000:=by rw[al1];decide
structure f7(CC CL CJ:ag)(S:ag->Prop)(H:Hp)(pc dx wp wl lw cl:ag)(cM:bp)(ss:aj)(mr:aZ)(M:o8)(a b:Nat):Prop where
 obj:H pc=some (.aB CC dx (gh (.ref wp) (.ref wl) (.ref lw) (.ref cl)))
 wr:LI H wl ((aU (a+1)).map λi=>BM.d9 ((countsAt M i).getD 0 0))
 wT:LI H lw ((countsAt M a).map BM.d9)
 hX:cD H cl cM ((aU (b+1)).map λi=>(countsAt M i).map BM.cB)
 eW: ∃kd ks m,∀H2,Bs S H H2->dk CL CJ mr.length H2 8 wp kd ks m (BM.dW ss mr ss.length)
 fA: ∀c,S c-> ∃o,H c=some o
 rE:S pc
 qd:S wl
 qe:S cl
 wU:¬S lw
 sY: ∀c∈cM,¬S c
 wc:wl≠cl
def Mc(pc wl cl:ag):ag->Prop:=λb=>b=pc\/b=wl\/b=cl
def ZL(h:BM.cZ ss mr M)(l:aj):(aU mr.length).map (λi=>BM.jo (BM.dW ss mr ss.length) l i)=further M l:=(h.adA l).symm
def aoA(l:aj): ∀x∈l.map BM.d9,x<=BM.f9:=λx hx=>by
 obtain⟨y,_,rfl⟩:=cQ.mp hx;exact lY (ab9 _ (by unfold BM.f9;decide))
def aoB(l:aj): ∀x∈l.map BM.cB,x<=BM.f9:=λx hx=>by
 obtain⟨y,_,rfl⟩:=cQ.mp hx;exact Nat.min_le_right _ _
def aoC(f:Nat->Nat)(n:Nat):((aU (n+1)).map f)++[f (n+1)]=(aU (n+1+1)).map f:=by
 rw[lD (n:=n+1),bI];rfl
def aoD(f:Nat->aj)(n:Nat):((aU (n+1)).map f)++[f (n+1)]=(aU (n+1+1)).map f:=by
 rw[lD (n:=n+1),bI];rfl
section
variable{P:bj}{w:a_}{K:aP}{mg:Str->Option au}{base:Heap}{ad:Ad}
inductive aoE(CC:ag)(CL:ag)(CJ:ag)(vs:List V)(H:Hp)(Q:VK)(z6:XK):Prop|mk:∀S pc dx wp wl lw cl cM ss mr M a b n,vs=[.ref pc,iv n]->f7 CC CL CJ S H pc dx wp wl lw cl cM ss mr M a b->BM.cZ ss mr M->n<=4096->a<=4096->(∀H' sZ a',Bs (Mc pc wl cl) H H'->f7 CC CL CJ S H' pc dx wp wl sZ cl cM ss mr M a' b->a'<=4096->Q (iv (BM.d9 ((countsAt M n).getD 0 0))) H')->aoE CC CL CJ vs H Q z6
def aoF(T:cp K mg ad)(hne:ad.b0≠ad.cb):bN P w K mg base bX 11 ad.CZ ad.C0 ["self","length"] (aoE ad.cW ad.cb ad.b0):=by
 refine T.ajp.ok NN (λvs H Q E h=>?_) (λbB A aY s H vs Q E hr h=>?_)
 ·obtain⟨S,pc,dx,wp,wl,lw,cl,cM,ss,mr,M,a,b,n,rfl,_⟩:=h;rfl
 ·obtain⟨S,pc,dx,wp,wl,lw,cl,cM,ss,mr,M,a,b,n,rfl,hC,hI,hn,ha,k⟩:=h;exists _,(aC (pN eR (dY mf (d4 eX (by rfl) T.ee eI (ak (aV (pv 0)) ay)) (pv 1) (dG _)) (aC (eQ (pv 0) (ke rfl NN.nd (gY (gy (ZJ T hne) hr.m rfl T.WN T.N4.kp T.WM .nil bE (ak (aV (pv 0)) (ak (aV (pv 0)) ay)))) (bz:=[("count",2)]) (gZ (show gz ["self","length","count"] (bg Nw) _ _=true by x_go)) (λ_ _ _ _ _=>(bU (i:=2) NN.nd)) (λ_ _ _ _ _=>i7) (λ_ _ _ _ _=>(df LO (pv 2) (dD rfl T.W5)))) rfl) (aK (ga (ic iB jJ j0 jy (aV (pv 0)) (ak (bD bY (aV (pv 0)) bm) ay)))))) (aK (bK (bD bY (aV (pv 0)) (pv 1)))))
  rfl'
  exists λm σ H'=> ∃sZ a',σ=[some (.ref pc),some (iv n),none]/\Bs (Mc pc wl cl) H H'/\f7 ad.cW ad.cb ad.b0 S H' pc dx wp wl sZ cl cM ss mr M a' b/\a'<=4096/\m=n+1-a',⟨_,lw,a,rfl,λ_ _ _ e=>e,hC,ha,rfl⟩
  rintro m σ H' ⟨sZ,a',rfl,b',bT,xJ,rfl⟩;exists _,rfl,pc,_,dx,_,_,rfl,bT.obj,T.jE,T.H_,N8,wl,_,rfl,.inl bT.wr.sq,_,rfl,_,_,rfl,rfl,_,rfl;refine bq (λc=>?_) (λc=>?_)
  ·have a9:a'+1<=n:=by
    fin2
   obtain⟨kd,ks,pm,Fd⟩:=bT.eW;have uL:=hI.cT;have gg:=hI.AR a';exists fun aL H2=> ∃m',m'<n+1-a'/\ ∃sZ a',aL=[some (.ref pc),some (iv n),none]/\Bs (Mc pc wl cl) H H2/\f7 ad.cW ad.cb ad.b0 S H2 pc dx wp wl sZ cl cM ss mr M a' b/\a'<=4096/\m'=n+1-a',fun aL H2 h=>h;refine⟨_,rfl,pc,_,dx,_,_,rfl,bT.obj,T.jE,T.NU,Xe,_,rfl,pc,_,dx,_,_,rfl,bT.obj,T.jE,T.Ia,Xf,wp,kd,sZ,ks,_,mr.length,pm,_,rfl,Fd H' (λ_ _ _ e=>e),bT.wT,by lk,uL,aoA _,λH2 sq s2 wV yj=>?_⟩
   rw[ZL hI]at wV;refine⟨sq,rfl,⟨_,wV.sq⟩,λD hD=>lN (K:=K) (a:=sq) (xs:=(further M ((countsAt M a').map BM.d9)).map iv) (λj H5=>LI H5 D (((further M ((countsAt M a').map BM.d9)).take j).map BM.d9)/\al H2 H5) ⟨ao,al.new hD⟩ ?_ ?_ ?_⟩
   ·rintro j H5 _ ⟨_,s5⟩;exact(wV.aA s5).sq
   ·rintro j x H5 mH ⟨bn,s5⟩;have hj:j<(further M ((countsAt M a').map BM.d9)).length:=by
     have:=(gm.mp mH).1
     rwa[ax]at this
    rw[ca hj]at mH;obtain rfl:=(bv mH).symm;refine⟨rfl,ja ⟨_,rfl,_,_,rfl,rfl,(by lia),_,bn,?_,?_,λc o e=>?_⟩⟩
    ·rw[ax,ax,il];have:=hI.K9 ((countsAt M a').map BM.d9);exact cz (by lia)
    ·show aa _ _ _ _=_;rw[ao,fJ hj,bI,bI,<-BM.cr (d:=0) hj];congr 3
    ·rw[aw (aF e hD)];exact s5 _ _ e
   ·rintro H5 ⟨bn,s5⟩;rw[ax,fK,hI.adu]at bn;have s_:=s2.trans s5;have hDf:=s2.free hD;have nD:¬S D:=λz=>by obtain⟨o,e⟩:=bT.fA _ z;lk
    have zE:=s_ _ _ bT.obj;exists _,rfl,pc,_,dx,_,rfl,zE,T.jE,T.Ia,aoz _ _ _ _;rw[al0];have b6:=Bt.aa pc H5 (.aB ad.cW dx (gh (.ref wp) (.ref wl) (.ref D) (.ref cl)));have rj:aa H5 pc (.aB ad.cW dx (gh (.ref wp) (.ref wl) (.ref D) (.ref cl))) pc=_:=ao;generalize aa H5 pc (.aB ad.cW dx (gh (.ref wp) (.ref wl) (.ref D) (.ref cl)))=H6 at b6 rj⊢;have uN:=bx (s_ _ _ bT.wr) zE (by intro z;cases z);have uO:=bx (s_ _ _ bT.hX.af) zE (by intro z;cases z);have y9:=bx bn zE (by intro z;cases z);have nwD:D≠wl:=λe=>nD (e▸bT.qd);have ZM:LI H6 wl _:=b6 _ _ uN (s_ _ _ bT.wr);have uF:LI H6 D _:=b6 _ _ y9 bn;have cS:(countsAt M (a'+1)).length=mr.length:=hI.AR _;refine⟨_,rfl,pc,_,dx,_,_,rfl,rj,T.jE,T.H_,N8,.inl ⟨rfl,_,ZM.sq⟩,_,rfl,pc,_,dx,_,_,rfl,rj,T.jE,T.Ia,Xf,D,_,_,iv (BM.d9 ((countsAt M (a'+1)).getD 0 0)),rfl,rfl,uF.sq,bc (j:=0) ?_,wl,_,_,rfl,rfl,ZM,by rw[ax,ax,iX];exact cz (by lia),?_⟩
    ·have h0:0<((countsAt M (a'+1)).map BM.d9).length:=by rw[ax,cS];exact hI.pos
     have:=ca h0;rw[BM.K_ (by rfl)]at this;exact this
    have bF:=Bt.aa wl H6 (.af (((aU (a'+1)).map λi=>BM.d9 ((countsAt M i).getD 0 0)).map iv++[iv (BM.d9 ((countsAt M (a'+1)).getD 0 0))]));have ZN:aa H6 wl (.af (((aU (a'+1)).map λi=>BM.d9 ((countsAt M i).getD 0 0)).map iv++[iv (BM.d9 ((countsAt M (a'+1)).getD 0 0))])) wl=_:=ao;generalize aa H6 wl (.af (((aU (a'+1)).map λi=>BM.d9 ((countsAt M i).getD 0 0)).map iv++[iv (BM.d9 ((countsAt M (a'+1)).getD 0 0))]))=H7 at bF ZN⊢;have all: ∀c o,c≠pc->c≠wl->H' c=some o->H7 c=some o:=λc o n1 n2 e=>bF _ _ n2 (b6 _ _ n1 (s_ _ _ e));refine⟨n+1-(a'+1),by lia,D,a'+1,rfl,λc o nb e=>?_,⟨bF _ _ uN.symm rj,?_,bF _ _ nwD uF,?_,⟨kd,ks,pm,λH2 b2=>Fd H2 λc o nb e=>b2 _ _ nb (all _ _ (λz=>nb (z▸bT.rE)) (λz=>nb (z▸bT.qd)) e)⟩,λc hc=>?_,bT.rE,bT.qd,bT.qe,nD,bT.sY,bT.wc⟩,by lia,rfl⟩
    ·have h1:=b' _ _ nb e;exact all _ _ (λz=>nb (.inl z)) (λz=>nb (.inr (.inl z))) h1
    ·show H7 wl=_;rw[ZN,<-aoC (λi=>BM.d9 ((countsAt M i).getD 0 0)),bI];rfl
    ·refine⟨all _ _ uO bT.wc.symm bT.hX.af,bT.hX.len,λi c ec=>?_⟩;have hc:=bT.sY c (eF ec);exact all _ _ (λz=>hc (z▸bT.rE)) (λz=>hc (z▸bT.qd)) (bT.hX.at_ i c ec)
    ·by_cases z1:c=wl
     ·fin2
     ·by_cases z2:c=pc
      ·exact⟨_,by rw[z2];exact bF _ _ uN.symm rj⟩
      ·obtain⟨o,e⟩:=bT.fA c hc;exact⟨o,all _ _ z2 z1 e⟩
  ·have mq:n<=a':=by
    fin2
   refine⟨_,rfl,pc,_,dx,_,_,rfl,bT.obj,T.jE,T.H_,N8,_,rfl,wl,_,_,iv (BM.d9 ((countsAt M n).getD 0 0)),rfl,rfl,bT.wr.sq,bc ?_,k H' sZ a' b' bT xJ⟩;fin2
inductive aoG(CC:ag)(CL:ag)(CJ:ag)(vs:List V)(H:Hp)(Q:VK)(z6:XK):Prop|mk:∀S pc dx wp wl lw cl cM ss mr M a b n,vs=[.ref pc,iv n]->f7 CC CL CJ S H pc dx wp wl lw cl cM ss mr M a b->BM.cZ ss mr M->n<=4096->b<=4096->(∀H' d6 b' c,Bs (Mc pc wl cl) H H'->f7 CC CL CJ S H' pc dx wp wl lw cl d6 ss mr M a b'->b'<=4096->LI H' c ((countsAt M n).map BM.cB)->¬S c->Q (.ref c) H')->aoG CC CL CJ vs H Q z6
def ZO(T:cp K mg ad)(hne:ad.b0≠ad.cb):bN P w K mg base bX 11 ad.C3 ad.C4 ["self","length"] (aoG ad.cW ad.cb ad.b0):=by
 refine T.ajs.ok NO (λvs H Q E h=>?_) (λbB A aY s H vs Q E hr h=>?_)
 ·obtain⟨S,pc,dx,wp,wl,lw,cl,cM,ss,mr,M,a,b,n,rfl,_⟩:=h;rfl
 ·obtain⟨S,pc,dx,wp,wl,lw,cl,cM,ss,mr,M,a,b,n,rfl,hC,hI,hn,hb,k⟩:=h;exists _,(aC (pN eR (dY mf (d4 eX (by rfl) T.ee eI (ak (aV (pv 0)) ay)) (pv 1) (dG _)) (aK (ga (ic iB jJ j0 jy (aV (pv 0)) (ak (ke rfl NO.nd (gY (gy (ZJ T hne) hr.m rfl T.WN T.N4.kp T.WM .nil bE (ak (aV (pv 0)) (ak (bD bY (aV (pv 0)) (aeI aeM bm)) ay)))) (bz:=[("count",2)]) (gZ (show gz ["self","length","count"] (bg Ny) _ _=true by x_go)) (λ_ _ _ _ _=>(bU (i:=2) NO.nd)) (λ_ _ _ _ _=>i7) (λ_ _ _ _ _=>(d4 (aeQ rfl) (by rfl) T.ak1 boot_min (ak (pv 2) (ak (dD rfl T.W5) ay))))) ay))))) (aK (bK (bD bY (aV (pv 0)) (pv 1)))))
  rfl'
  exists λm σ H'=> ∃d6 b',σ=[some (.ref pc),some (iv n),none]/\Bs (Mc pc wl cl) H H'/\f7 ad.cW ad.cb ad.b0 S H' pc dx wp wl lw cl d6 ss mr M a b'/\b'<=4096/\m=n+1-b',⟨_,cM,b,rfl,λ_ _ _ e=>e,hC,hb,rfl⟩
  rintro m σ H' ⟨d6,b',rfl,f',bT,oz,rfl⟩;have aoH:d6.length=b'+1:=by rw[bT.hX.len,ax,iX]
  exists _,rfl,pc,_,dx,_,_,rfl,bT.obj,T.jE,T.Ew,Ik,cl,_,rfl,.inl (aJ.of bT.hX.af),_,rfl,_,_,rfl,rfl,_,rfl;refine bq (λc=>?_) (λc=>?_)
  ·have a9:b'+1<=n:=by
    fin2
   obtain⟨kd,ks,pm,Fd⟩:=bT.eW;have uL:=hI.cT;have gg:=hI.AR b';obtain⟨ci,Jk⟩: ∃ci,d6[b']?=some ci:=⟨_,eh (by lia)⟩
   have IF: ∀i,i<=b'->(((aU (b'+1)).map λi=>(countsAt M i).map BM.cB).getD i [])=(countsAt M i).map BM.cB:=λi hi=>by
    rw[BM.cr (by rw[ax,iX];lia),iY,xg]
   have Pr:LI H' ci ((countsAt M b').map BM.cB):=by
    have:=bT.hX.at_ b' ci Jk;fin2
   have aoI:d6.map V.ref=(d6.take b').map V.ref++[V.ref ci]:=by
    have e:d6=d6.take b'++[ci]:=by
     have h1:b'<d6.length:=by lia
     have h2:d6[b']=ci:=by lk
     have h3:=fJ h1;fin2
    fin2
   exists fun aL H2=> ∃m',m'<n+1-b'/\ ∃d6 b',aL=[some (.ref pc),some (iv n),none]/\Bs (Mc pc wl cl) H H2/\f7 ad.cW ad.cb ad.b0 S H2 pc dx wp wl lw cl d6 ss mr M a b'/\b'<=4096/\m'=n+1-b',fun aL H2 h=>h;exists _,rfl,pc,_,dx,_,_,rfl,bT.obj,T.jE,T.Ew,Ik,.inl ⟨rfl,_,aJ.of bT.hX.af⟩;exists _,rfl,pc,_,dx,_,_,rfl,bT.obj,T.jE,T.NU,Xe,_,rfl,pc,_,dx,_,_,rfl,bT.obj,T.jE,T.Ew,Ik;refine⟨1,rfl,cl,_,_,V.ref ci,rfl,rfl,aJ.of bT.hX.af,by rw[aoI];exact aff _ _,
    wp,kd,ci,ks,_,mr.length,pm,_,rfl,Fd H' (λ_ _ _ e=>e),Pr,by rw[ax,gg],uL,aoB _,λH2 sq s2 wV yj=>?_⟩
   rw[ZL hI]at wV;refine⟨sq,rfl,⟨_,wV.sq⟩,λD hD=>lN (K:=K) (a:=sq) (xs:=(further M ((countsAt M b').map BM.cB)).map iv) (λj H5=>LI H5 D (((further M ((countsAt M b').map BM.cB)).take j).map BM.cB)/\al H2 H5) ⟨ao,al.new hD⟩ ?_ ?_ ?_⟩
   ·rintro j H5 _ ⟨_,s5⟩;exact(wV.aA s5).sq
   ·rintro j x H5 mH ⟨bn,s5⟩;have hj:j<(further M ((countsAt M b').map BM.cB)).length:=by
     have:=(gm.mp mH).1
     rwa[ax]at this
    rw[ca hj]at mH;obtain rfl:=(bv mH).symm;refine⟨rfl,ja ⟨_,rfl,_,_,rfl,_,bn,?_,?_,λc o e=>?_⟩⟩
    ·rw[ax,ax,il];have:=hI.K9 ((countsAt M b').map BM.cB);exact cz (by lia)
    ·show aa _ _ _ _=_;rw[ao,fJ hj,bI,bI,<-BM.cr (d:=0) hj,aoy];rfl
    ·rw[aw (aF e hD)];exact s5 _ _ e
   ·rintro H5 ⟨bn,s5⟩;rw[ax,fK,hI.adw]at bn;have s_:=s2.trans s5;have hDf:=s2.free hD;have nD:¬S D:=λz=>by obtain⟨o,e⟩:=bT.fA _ z;fin2
    have O7:D≠cl:=λe=>nD (e▸bT.qe);have Ps:=bT.hX.aA s_;have zE:=s_ _ _ bT.obj;have uO:=bx Ps.af zE (by intro z;cases z);refine⟨cl,_,_,rfl,rfl,Ps.af,by rw[ax,aoH];exact cz (by lia),?_⟩;have Jl:=Ps.push bn O7.symm;have bF:=Bt.aa cl H5 (.af (d6.map V.ref++[V.ref D]));rw[show further M (countsAt M b')=countsAt M (b'+1)from rfl,aoD (λi=>(countsAt M i).map BM.cB)]at Jl;generalize aa H5 cl (.af (d6.map V.ref++[V.ref D]))=H7 at bF Jl⊢;have all: ∀c o,c≠cl->H' c=some o->H7 c=some o:=λc o n1 e=>bF _ _ n1 (s_ _ _ e);have nlc:lw≠cl:=λe=>bT.wU (e▸bT.qe);refine⟨n+1-(b'+1),by lia,d6++[D],b'+1,rfl,λc o nb e=>?_,⟨all _ _ uO.symm bT.obj,all _ _ bT.wc bT.wr,all _ _ nlc bT.wT,Jl,⟨kd,ks,pm,λH2 b2=>Fd H2 λc o nb e=>b2 _ _ nb (all _ _ (λz=>nb (z▸bT.qe)) e)⟩,λc hc=>?_,bT.rE,bT.qd,bT.qe,bT.wU,λc hc=>?_,bT.wc⟩,by lia,rfl⟩
    ·exact all _ _ (λz=>nb (.inr (.inr z))) (f' _ _ nb e)
    ·by_cases z1:c=cl
     ·exact⟨_,by rw[z1];exact Jl.af⟩
     ·obtain⟨o,e⟩:=bT.fA c hc;exact⟨o,all _ _ z1 e⟩
    ·rcases cN.mp hc with hc|hc
     ·exact bT.sY c hc
     ·fin2
  ·have mq:n<=b':=by
    fin2
   obtain⟨ci,Jk⟩: ∃ci,d6[n]?=some ci:=⟨_,eh (by lia)⟩
   have Pr:LI H' ci ((countsAt M n).map BM.cB):=by
    have:=bT.hX.at_ n ci Jk;fin2
   exact⟨_,rfl,pc,_,dx,_,_,rfl,bT.obj,T.jE,T.Ew,Ik,_,rfl,cl,_,_,V.ref ci,rfl,rfl,aJ.of bT.hX.af,bc (by lk),k H' d6 b' ci f' bT oz Pr (bT.sY _ (eF Jk))⟩
inductive aoJ(CM:ag)(CC:ag)(CL:ag)(CJ:ag)(vs:List V)(H:Hp)(Q:VK)(z7:XK):Prop|mk:∀p dx pm dm bC am at_ bG br ss mr M,vs=[.ref p,.ref pm]->H p=some (.aB CC dx [])->jG CM H pm dm bC am at_ bG br ss mr M->(∀H' wp wl cl kd ks m,Bt p H H'->H' p=some (.aB CC dx (gh (.ref wp) (.ref wl) (.ref at_) (.ref cl)))->LI H' wl [(M.takes.map dz).getD 0 0]->H' cl=some (.af [.ref at_])->H wl=none->H cl=none->wl≠cl->(∀H2,Bs (λb=>c_ H b\/b=wl\/b=cl) H' H2->dk CL CJ mr.length H2 8 wp kd ks m (BM.dW ss mr ss.length))->Q .aX H')->aoJ CM CC CL CJ vs H Q z7
def aoK(T:cp K mg ad):bN P w K mg base bX 5 ad.CW ad.CY ["self","machine"] (aoJ ad.dB ad.cW ad.cb ad.b0):=by
 refine T.ajn.ok aio (λvs H Q E h=>?_) (λbB A aY s H vs Q E hr h=>?_)
 ·obtain⟨p,dx,pm,dm,bC,am,at_,bG,br,ss,mr,M,rfl,_⟩:=h;rfl
 ·obtain⟨p,dx,pm,dm,bC,am,at_,bG,br,ss,mr,M,rfl,hp,hM,k⟩:=h;exists _,(aC (eQ (pv 0) (gy (aov T) hr.m rfl T.aki T.WL.kp T.akh .nil bE (ak (pv 1) ay)) rfl) (aC (eQ (pv 0) (cH (ak (bD bY (aV (pv 1)) bm) ay)) rfl) (aC (eQ (pv 0) (aV (pv 1)) rfl) (aK (eQ (pv 0) (cH (ak (aV (pv 1)) ay)) rfl)))))
  rfl'
  refine⟨_,rfl,pm,dm,bC,am,at_,bG,br,ss,mr,M,rfl,hM,λH1 wp kd ks m s1 hP=>?_⟩;have uG:=bx hM.obj hp (by intro z;injection z with _ _ z;unfold iU at z;cases z);have nat:=bx hM.takes hp (by intro z;cases z);exists _,rfl,p,_,dx,_,rfl,s1 _ _ hp,T.jE,T.NU,(by simp);have b2:=Bt.aa p H1 (.aB ad.cW dx (aM "whole" (.ref wp) []));have cC:aa H1 p (.aB ad.cW dx (aM "whole" (.ref wp) [])) p=_:=ao;generalize aa H1 p (.aB ad.cW dx (aM "whole" (.ref wp) []))=H2 at b2 cC⊢;have sS:=b2 _ _ uG (s1 _ _ hM.obj);have lr:LI H2 at_ _:=b2 _ _ nat (s1 _ _ hM.takes);have h0:0<(M.takes.map dz).length:=by rw[ax,hM.mG.xL];exact hM.mG.pos
  refine⟨_,rfl,pm,_,dm,_,_,rfl,sS,T.d5,T.qT,sK,at_,_,_,iv ((M.takes.map dz).getD 0 0),rfl,rfl,lr.sq,bc (j:=0) (ca h0),(cA rfl),λwl oU=>?_⟩;have s3:=al.new (o:=.af [iv ((M.takes.map dz).getD 0 0)]) oU;have Fe:LI (aa H2 wl (.af [iv ((M.takes.map dz).getD 0 0)])) wl [(M.takes.map dz).getD 0 0]:=ao;have uN:wl≠p:=λe=>by lk
  generalize aa H2 wl (.af [iv ((M.takes.map dz).getD 0 0)])=H3 at s3 Fe⊢;exists _,rfl,p,_,dx,_,rfl,s3 _ _ cC,T.jE,T.H_,(by show 1<1000;decide);have b4:=Bt.aa p H3 (.aB ad.cW dx (aM "wrapped" (.ref wl) (aM "whole" (.ref wp) [])));have oI:aa H3 p (.aB ad.cW dx (aM "wrapped" (.ref wl) (aM "whole" (.ref wp) []))) p=_:=ao;generalize aa H3 p (.aB ad.cW dx (aM "wrapped" (.ref wl) (aM "whole" (.ref wp) [])))=H4 at b4 oI⊢;have ZP:=b4 _ _ uG (s3 _ _ sS);exists _,rfl,pm,_,dm,_,_,rfl,ZP,T.d5,T.qT,sK,_,rfl,p,_,dx,_,rfl,oI,T.jE,T.Ia,y4;have b5:=Bt.aa p H4 (.aB ad.cW dx (aM "last_wrapped" (.ref at_) (aM "wrapped" (.ref wl) (aM "whole" (.ref wp) []))));have rB:aa H4 p (.aB ad.cW dx (aM "last_wrapped" (.ref at_) (aM "wrapped" (.ref wl) (aM "whole" (.ref wp) [])))) p=_:=ao;generalize aa H4 p (.aB ad.cW dx (aM "last_wrapped" (.ref at_) (aM "wrapped" (.ref wl) (aM "whole" (.ref wp) []))))=H5 at b5 rB⊢;have EQ:=b5 _ _ uG ZP;refine⟨_,rfl,pm,_,dm,_,_,rfl,EQ,T.d5,T.qT,sK,(cA rfl),λcl gg=>?_⟩;have s6:=al.new (o:=.af [V.ref at_]) gg;have zg:aa H5 cl (.af [V.ref at_]) cl=_:=ao;have uO:cl≠p:=λe=>by lk
  have ZQ:=b5 _ _ uN (b4 _ _ uN Fe);have Jm:=aF ZQ gg;generalize aa H5 cl (.af [V.ref at_])=H6 at s6 zg⊢;exists _,rfl,p,_,dx,_,rfl,s6 _ _ rB,T.jE,T.Ew,Iu;rw[alZ];have b7:=Bt.aa p H6 (.aB ad.cW dx (gh (.ref wp) (.ref wl) (.ref at_) (.ref cl)));have Ff:aa H6 p (.aB ad.cW dx (gh (.ref wp) (.ref wl) (.ref at_) (.ref cl))) p=_:=ao;generalize aa H6 p (.aB ad.cW dx (gh (.ref wp) (.ref wl) (.ref at_) (.ref cl)))=H7 at b7 Ff⊢;have up: ∀c o,c≠p->H1 c=some o->H7 c=some o:=λc o nc e=>b7 _ _ nc (s6 _ _ (b5 _ _ nc (b4 _ _ nc (s3 _ _ (b2 _ _ nc e)))));have aoL:H1 wl=none:=by
   cases e:H1 wl with
   |none=>rfl
   |some o=>rw[b2 _ _ uN e]at oU;cases oU
  have aoM:H1 cl=none:=by
   cases e:H1 cl with
   |none=>rfl
   |some o=>rw[b5 _ _ uO (b4 _ _ uO (s3 _ _ (b2 _ _ uO e)))]at gg;cases gg
  refine k H7 wp wl cl kd ks m (λc o nc e=>up _ _ nc (s1 _ _ e)) Ff (b7 _ _ uN (s6 _ _ ZQ)) (b7 _ _ uO zg) (s1.free aoL) (s1.free aoM) Jm λH8 b8=>hP H8 λc o nc e=>?_;refine b8 _ _ (λz=>?_) (up _ _ (λz=>nc (z▸.inr ⟨_,_,_,hp⟩)) e);lia
end
end Bp
namespace Bp
open PySem PySem.Spec PyProof.Rows L2
open Sw15 (countsAt further spelledBy)
def f7.aoN(h:f7 CC CL CJ S H pc dx wp wl lw cl cM ss mr M a b)(s:al H H2)(hq:H q=none)(gB: ∃o,H2 q=some o):f7 CC CL CJ (λc=>S c\/c=q) H2 pc dx wp wl lw cl cM ss mr M a b:=by
 obtain⟨kd,ks,m,hp⟩:=h.eW;refine⟨s _ _ h.obj,h.wr.aA s,h.wT.aA s,h.hX.aA s,⟨kd,ks,m,λH3 b3=>hp H3 λc o nc e=>b3 _ _ (λz=>?_) (s _ _ e)⟩,λc hc=>?_,.inl h.rE,.inl h.qd,.inl h.qe,λz=>?_,λc hc z=>?_,h.wc⟩
 ·lk
 ·rcases hc with hc|rfl
  ·obtain⟨o,e⟩:=h.fA c hc;exact⟨o,s _ _ e⟩
  ·exact gB
 ·rcases z with z|z
  ·exact h.wU z
  ·exact aF h.wT hq z
 ·rcases z with z|z
  ·exact h.sY c hc z
  ·obtain⟨i,hi,e⟩:=kD hc;exact aF (h.hX.at_ i c (by lk)) hq z
def f7.Lw(h:f7 CC CL CJ S' H pc dx wp wl lw cl cM ss mr M a b)(hs: ∀c,S c->S' c)(h1:S pc)(h2:S wl)(h3:S cl):f7 CC CL CJ S H pc dx wp wl lw cl cM ss mr M a b:=by
 obtain⟨kd,ks,m,hp⟩:=h.eW;exact⟨h.obj,h.wr,h.wT,h.hX,⟨kd,ks,m,λH3 b3=>hp H3 λc o nc e=>b3 _ _ (λz=>nc (hs _ z)) e⟩,λc hc=>h.fA c (hs _ hc),h1,h2,h3,λz=>h.wU (hs _ z),λc hc z=>h.sY c hc (hs _ z),h.wc⟩
def f7.put(h:f7 CC CL CJ S H pc dx wp wl lw cl cM ss mr M a b)(o:HO)(hq:S q)(h1:pc≠q)(h2:wl≠q)(h3:cl≠q):f7 CC CL CJ S (aa H q o) pc dx wp wl lw cl cM ss mr M a b:=by
 obtain⟨kd,ks,m,hp⟩:=h.eW;have ns: ∀{c:ag},¬S c->c≠q:=λn e=>n (e▸hq);have up: ∀{c:ag}{o'},c≠q->H c=some o'->aa H q o c=some o':=λn e=>by rw[aw n];exact e
 refine⟨up h1 h.obj,up h2 h.wr,up (ns h.wU) h.wT,⟨up h3 h.hX.af,h.hX.len,λi c ec=>up (ns (h.sY c (eF ec))) (h.hX.at_ i c ec)⟩,⟨kd,ks,m,λH3 b3=>hp H3 λc o nc e=>b3 _ _ nc (up (ns nc) e)⟩,λc hc=>?_,h.rE,h.qd,h.qe,h.wU,h.sY,h.wc⟩;by_cases z:c=q
 ·exact⟨o,by rw[z,ao]⟩
 ·obtain⟨o',e⟩:=h.fA c hc;exact⟨o',up z e⟩
def nN(CM:ag)(S:ag->Prop)(H:Hp)(pm dm bC am at_ bG:ag)(br:bp)(ss:aj)(mr:aZ)(M:o8):Prop:= ∀H2,Bs S H H2->jG CM H2 pm dm bC am at_ bG br ss mr M
def nN.here(h:nN CM S H pm dm bC am at_ bG br ss mr M):jG CM H pm dm bC am at_ bG br ss mr M:=h H λ_ _ _ e=>e
def nN.to(h:nN CM S H pm dm bC am at_ bG br ss mr M)(s: ∀H9,Bs S' H' H9->Bs S H H9):nN CM S' H' pm dm bC am at_ bG br ss mr M:=λH2 b2=>h H2 (s H2 b2)
structure Fg(ss:aj)(mr:aZ)(M:o8)(W:aj)(n j st k:Nat)(w:aj):Prop where
 len:w.length=j
 le:j<=n
 eq:w++spelledBy M (BM.down M (n-j)) st k=W
 kl:k<(countsAt M (n-j)).getD st 0
 kL:k<BM.f9
 sl:st<mr.length
 bytes: ∀x∈w,x<256
structure zF(ss:aj)(mr:aZ)(M:o8)(l:aj)(st k j bb c r:Nat):Prop where
 jl:j<ss.length
 pick:BM.kX (λc=>l.getD (M.next st c) 0) (Kk (ss.getD j 0) (256-ss.getD j 0)) bb=some (c,r)
 bL:bb<BM.f9
def Fg.pick{n j st k:Nat}(h:Fg ss mr M W n j st k w)(hI:BM.cZ ss mr M)(hj:j<n):
  ∃c r,zF ss mr M (countsAt M (n-j-1)) st k 0 k c r/\Fg ss mr M W n (j+1) (M.next st c) r (w++[c]):=by
 have e:n-j=(n-j-1)+1:=by lia
 have hk:=h.kl;rw[e]at hk;have kP:k<((aU 256).map λc=>(countsAt M (n-j-1)).getD (M.next st c) 0).sum:=by
  rw[<-hI.adJ _ h.sl];exact hk
 obtain⟨c,r,hp,hc,hr⟩:=BM.Sq kP;rw[lF]at hc;obtain⟨t,et⟩:=hI.zero;refine⟨c,r,⟨hI.Gz,?_,h.kL⟩,?_⟩
 ·rw[show ss.getD 0 0=0 by rw[et];rfl,<-aq3];exact hp
 ·have dJ:r<=k:=by
   have key: ∀cs k c r,BM.kX (λc=>(countsAt M (n-j-1)).getD (M.next st c) 0) cs k=some (c,r)->r<=k:=by
    intro cs;induction cs with
    |nil=>intro k c r h;cases h
    |cons d cs ih=>
     intro k c r h;rw[BM.So]at h;fin2
   exact key _ _ _ _ hp
  refine⟨by rw[dS,h.len];rfl,by lia,?_,by omega,abx dJ h.kL,(hI.next h.sl hc).2,λx hx=>?_⟩
  ·rw[<-h.eq,e];show _=w++spelledBy M (countsAt M (n-j-1)::BM.down M (n-j-1)) st k;rw[BM.adC _ hp,show n-(j+1)=n-j-1 by lia,z7];rfl
  ·rcases cN.mp hx with hx|hx
   ·exact h.bytes x hx
   ·rw[hZ.mp hx];exact hc
def zF.step{st k j bb c r:Nat}(h:zF ss mr M l st k j bb c r)(hI:BM.cZ ss mr M)(hs:st<mr.length):
  ((BM.cy ss).getD j 0*BM.cB (l.getD ((mr.getD st []).getD j 0) 0)<=bb->zF ss mr M l st k (j+1) (bb-(BM.cy ss).getD j 0*BM.cB (l.getD ((mr.getD st []).getD j 0) 0)) c r)/\(¬(BM.cy ss).getD j 0*BM.cB (l.getD ((mr.getD st []).getD j 0) 0)<=bb->c=ss.getD j 0+bb/BM.cB (l.getD ((mr.getD st []).getD j 0) 0)/\r=bb%BM.cB (l.getD ((mr.getD st []).getD j 0) 0)/\M.next st c=(mr.getD st []).getD j 0/\0<BM.cB (l.getD ((mr.getD st []).getD j 0) 0)):=by
 have hp:=h.pick;rw[hI.adI l hs h.jl]at hp;have hw:=BM.AO hI.st h.jl;constructor
 ·intro dJ;rw[BM.La h.bL hw.1]at dJ;rw[if_neg (by lia)]at hp;rw[BM.Sv h.bL hw.1 dJ];by_cases q:j+1<ss.length
  ·rw[if_pos q]at hp;exact⟨q,hp,by have:=h.bL;omega⟩
  ·lk
 ·intro dJ;rw[BM.La h.bL hw.1]at dJ;rw[if_pos (by lia)]at hp;have e:=bv hp;have e1:ss.getD j 0+bb/l.getD ((mr.getD st []).getD j 0) 0=c:=congrArg as0 e;have e2:bb%l.getD ((mr.getD st []).getD j 0) 0=r:=congrArg qo e;have hd:=BM.adF (a:=l.getD ((mr.getD st []).getD j 0) 0) h.bL;have hv:0<l.getD ((mr.getD st []).getD j 0) 0:=by
   fin2
  have atH:bb/l.getD ((mr.getD st []).getD j 0) 0<(BM.cy ss).getD j 0:=by
   rw[Nat.div_lt_iff_lt_mul hv];lia
  have he:=BM.Sw ss hI.st h.jl;have h1:ss.getD j 0<=c:=by lia
  have h2:c<ss.getD j 0+(BM.cy ss).getD j 0:=by rw[←e1];exact Nat.add_lt_add_left atH _
  have hc:c<256:=by
   have:ss.getD j 0+(BM.cy ss).getD j 0<=256:=by
    rw[he];split
    ·rename_i q;exact lY (hI.st.2 _ (BM.eU q))
    ·exact aW _
   lia
  refine⟨by rw[hd.1,e1],by rw[hd.2,e2],?_,BM.adG.mpr hv⟩;rw[(hI.next hs hc).1,hI.Sy h.jl h1 h2]
def aoO(x:Nat):BM.cB x<=18446744073709551616:=by unfold BM.cB BM.f9;exact Nat.min_le_right _ _
section
variable{P:bj}{w:a_}{K:aP}{mg:Str->Option au}{base:Heap}{ad:Ad}
inductive aoP(CM:ag)(CC:ag)(CL:ag)(CJ:ag)(vs:List V)(H:Hp)(Q:VK)(z7:XK):Prop|mk:∀S pm dm bC am at_ bG br pc dx wp wl lw cl cM ss mr M a b n k0,vs=[.ref pm,.ref pc,iv n,iv k0]->nN CM S H pm dm bC am at_ bG br ss mr M->f7 CC CL CJ S H pc dx wp wl lw cl cM ss mr M a b->n<=256->b<=4096->k0<BM.f9->k0<(countsAt M n).getD 0 0->(∀H' q d6 b',Bs (Mc pc wl cl) H H'->f7 CC CL CJ S H' pc dx wp wl lw cl d6 ss mr M a b'->b'<=4096->LI H' q (spelledBy M (BM.down M n) 0 k0)->H q=none->(spelledBy M (BM.down M n) 0 k0).length=n->Q (.ref q) H')->aoP CM CC CL CJ vs H Q z7
def aoQ(T:cp K mg ad)(hne:ad.b0≠ad.cb):bN P w K mg base bX 12 ad.Eh ad.Ei ["machine","counts","length","before"] (aoP ad.dB ad.cW ad.cb ad.b0):=by
 refine T.WY.ok p7 (λvs H Q E h=>?_) (λbB A aY s H vs Q E hr h=>?_)
 ·obtain⟨S,pm,dm,bC,am,at_,bG,br,pc,dx,wp,wl,lw,cl,cM,ss,mr,M,a,b,n,k0,rfl,_⟩:=h;rfl
 ·obtain⟨S,pm,dm,bC,am,at_,bG,br,pc,dx,wp,wl,lw,cl,cM,ss,mr,M,a,b,n,k0,rfl,hM,hC,hn,hb,ou,hk1,kk⟩:=h;exists _,(aC (bP (i:=4) p7.nd (gy (Oc T) hr.m rfl T.N1 T.Ic.kp T.N0 .nil bE (ak (aV (pv 0)) ay))) (aC (bP (i:=5) p7.nd (cH ay)) (aC (bP (i:=6) p7.nd bm) (aC (pN eR (dY sv (d4 eX (by rfl) T.ee eI (ak (pv 5) ay)) (pv 2) (dG _)) (aC (bP (i:=7) p7.nd (bD bY (aV (pv 0)) (pv 6))) (aC (bP (i:=8) p7.nd (e_ (pv 1) T.jE T.Ww (ZO T hne) hr.m T.Wv .nil bE (ak (df vI (df vI (pv 2) (d4 eX (by rfl) T.ee eI (ak (pv 5) ay))) bm) ay))) (aC (bP (i:=9) p7.nd bm) (aC (pN eR (dY aeN (pv 3) (df LN (bD bY (pv 4) (pv 9)) (bD bY (pv 8) (bD bY (pv 7) (pv 9)))) (dG _)) (aC (Bd (i:=3) p7.nd (df LN (bD bY (pv 4) (pv 9)) (bD bY (pv 8) (bD bY (pv 7) (pv 9)))) (yx Tj)) (aK (Bd (i:=9) p7.nd bm (yx Ti))))) (aC (bP (i:=6) p7.nd (bD bY (pv 7) (pv 9))) (aC (ga (ic iB jJ j0 jy (pv 5) (ak (df nu (bD bY (aV (pv 0)) (pv 9)) (df ahB (pv 3) (bD bY (pv 8) (pv 6)))) ay))) (aK (bP (i:=3) p7.nd (df LO (pv 3) (bD bY (pv 8) (pv 6)))))))))))) (aK (bK (pv 5)))))))
  rfl'
  have qf:=hM.here;have hI:=qf.mG;have uL:=BM.ip 256 ss (hI.st.1.imp λh=>d7 h) hI.st.2;refine⟨_,rfl,pm,_,dm,_,_,rfl,qf.obj,T.d5,T.yQ,ED,bC,ss,rfl,qf.zr,hI.st,hI.Gz,λH1 wq s1 uA aoR=>?_⟩;refine⟨cX _,λq hq=>?_⟩;have s2:=al.new (o:=.af []) hq;have gB:LI (aa H1 q (.af [])) q []:=ao;have fq:=s1.free hq;have Oe:=aF uA hq;generalize aa H1 q (.af [])=H2 at s2 gB⊢;have uP:=s1.trans s2;have zG:=hC.aoN uP fq ⟨_,gB⟩;have mJ:nN ad.dB (λc=>S c\/c=q) H2 pm dm bC am at_ bG br ss mr M:=hM.to λH9 b9 c o nc e=>b9 _ _ (λz=>by
   rcases z with z|z
   ·exact nc z
   ·exact aF e fq z) (uP _ _ e)
  have ZR:¬(S wq\/wq=q):=λz=>by
   rcases z with z|z
   ·obtain⟨o,e⟩:=hC.fA _ z;rw[aoR]at e;cases e
   ·exact Oe z
  have qY:=aF hC.obj fq;have ZS:=aF hC.wr fq;have ZT:=aF hC.hX.af fq;exists λm σ H'=> ∃st k j wd d6 b' v7 v8 v9,σ=[some (.ref pm),some (.ref pc),some (iv n),some (iv k),some (.ref wq),some (.ref q),some (iv st),v7,v8,v9]/\Fg ss mr M (spelledBy M (BM.down M n) 0 k0) n j st k wd/\LI H' q wd/\Bs (λc=>Mc pc wl cl c\/c=q) H2 H'/\f7 ad.cW ad.cb ad.b0 (λc=>S c\/c=q) H' pc dx wp wl lw cl d6 ss mr M a b'/\b'<=4096/\m=n-j,⟨_,0,k0,0,[],cM,b,none,none,none,rfl,⟨rfl,cX _,rfl,hk1,ou,hI.pos,λx hx=>by cases hx⟩,gB,λ_ _ _ e=>e,zG,hb,rfl⟩
  rintro m σ H' ⟨st,k,j,wd,d6,b',v7,v8,v9,rfl,hS,kY,f',bT,oz,rfl⟩;have toS:Bs (λc=>S c\/c=q) H2 H':=λc o nc e=>f' _ _ (λz=>nc (by
   rcases z with(rfl|rfl|rfl)|rfl
   ·exact .inl hC.rE
   ·exact .inl hC.qd
   ·exact .inl hC.qe
   ·exact .inr rfl)) e
  have E4:=mJ H' toS;have hw':LI H' wq (BM.cy ss):=toS _ _ ZR (uA.aA s2);exists _,rfl,q,_,rfl,.inl kY.sq,_,rfl,_,_,rfl,rfl,_,rfl;refine bq (λc=>?_) (λc=>?_)
  ·have hj:j<n:=by
    have:=of_decide_eq_true c;rw[ax,hS.len]at this;lia
   exists fun aL Pu=> ∃m',m'<n-j/\ ∃st k j wd d6 b' v7 v8 v9,aL=[some (.ref pm),some (.ref pc),some (iv n),some (iv k),some (.ref wq),some (.ref q),some (iv st),v7,v8,v9]/\Fg ss mr M (spelledBy M (BM.down M n) 0 k0) n j st k wd/\LI Pu q wd/\Bs (λc=>Mc pc wl cl c\/c=q) H2 Pu/\f7 ad.cW ad.cb ad.b0 (λc=>S c\/c=q) Pu pc dx wp wl lw cl d6 ss mr M a b'/\b'<=4096/\m'=n-j,fun aL H2 h=>h
   obtain⟨rb,Pw⟩: ∃rb,br[st]?=some rb:=⟨_,eh (by rw[E4.rows.len];exact hS.sl)⟩
   exists _,rfl,pm,_,dm,_,_,rfl,E4.obj,T.d5,T.wz,yX,_,rfl,am,_,_,V.ref rb,rfl,rfl,aJ.of E4.rows.af,bc (by lk);have wF:((n:Nat):Int)-(((wd.map iv).length:Nat):Int)-1=((n-j-1:Nat):Int):=by rw[ax,hS.len];omega
   exists _,rfl,pc,dx,_,rfl,bT.obj,N9 (by x_go) _ _ _ _,_,rfl,_,rfl,q,_,rfl,.inl kY.sq,_,_,rfl,rfl,_,_,rfl,rfl;dsimp only;rw[wF];refine⟨λc=>S c\/c=q,pc,dx,wp,wl,lw,cl,d6,ss,mr,M,a,b',n-j-1,rfl,bT,hI,by lia,oz,λH3 Jn b3 cx f3 Fh oM zH ZU=>?_⟩;have toS3:Bs (λc=>S c\/c=q) H2 H3:=λc o nc e=>f3 _ _ (λz=>nc (by
    rcases z with rfl|rfl|rfl
    ·exact .inl hC.rE
    ·exact .inl hC.qd
    ·exact .inl hC.qe)) (toS _ _ nc e)
   have oV:=mJ H3 toS3;have Fe:LI H3 wq (BM.cy ss):=toS3 _ _ ZR (uA.aA s2);have Px:=oV.rows.at_ st rb Pw;have gN:LI H3 q wd:=f3 _ _ (λz=>by
    rcases z with z|z|z
    ·exact qY z.symm
    ·exact ZS z.symm
    ·exact ZT z.symm) kY
   have aoS:=hI.AR (n-j-1);have anW:=hI.jO st hS.sl;obtain⟨cc,rr,lR,aoT⟩:=hS.pick hI hj;have rd: ∀jj,jj<ss.length->(mr.getD st []).getD jj 0<((countsAt M (n-j-1)).map BM.cB).length:=λjj Py=>by
    rw[ax,aoS];exact hI.d8 st hS.sl _ (BM.eU (by lia))
   exists λm σ H'=> ∃jj bb,σ=[some (.ref pm),some (.ref pc),some (iv n),some (iv bb),some (.ref wq),some (.ref q),some (iv st),some (.ref rb),some (.ref cx),some (iv jj)]/\H'=H3/\zF ss mr M (countsAt M (n-j-1)) st k jj bb cc rr/\m=ss.length-jj,⟨_,0,k,rfl,rfl,lR,rfl⟩
   rintro m2 be H4 ⟨jj,bb,rfl,rfl,ZV,rfl⟩;have Fi:=ZV.step hI hS.sl;have Py:=ZV.jl;have hwp:=BM.AO hI.st Py;have MP:=aoO ((countsAt M (n-j-1)).getD ((mr.getD st []).getD jj 0) 0);have gw:(((BM.cy ss).map iv)[jj]?)=some (iv ((BM.cy ss).getD jj 0)):=ca (by rw[BM.vp];exact Py)
   have gr:(((mr.getD st []).map iv)[jj]?)=some (iv ((mr.getD st []).getD jj 0)):=ca (by lia);have gc:((((countsAt M (n-j-1)).map BM.cB).map iv)[(mr.getD st []).getD jj 0]?)=some (iv (BM.cB ((countsAt M (n-j-1)).getD ((mr.getD st []).getD jj 0) 0))):=by
    lk
   generalize atJ:BM.cB ((countsAt M (n-j-1)).getD ((mr.getD st []).getD jj 0) 0)=cv at Fi MP gc;generalize hwv:(BM.cy ss).getD jj 0=wv at Fi hwp gw;generalize hrv:(mr.getD st []).getD jj 0=rv at Fi gr gc;exists _,rfl,_,rfl,_,rfl,wq,_,_,iv wv,rfl,rfl,Fe.sq,bc gw,_,rfl,_,rfl,_,rfl,rb,_,_,iv rv,rfl,rfl,Px.sq,bc gr,cx,_,_,iv cv,rfl,rfl,zH.sq,bc gc,_,_,rfl,rfl,.inl ⟨by lia,by lia⟩,_,_,rfl,rfl,_,rfl;refine bq (λc=>?_) (λc=>?_)
   ·have mq:wv*cv<=bb:=by
     fin2
    have wE:=Fi.1 mq;exists fun aL H'=> ∃m',m'<ss.length-jj/\ ∃jj bb,aL=[some (.ref pm),some (.ref pc),some (iv n),some (iv bb),some (.ref wq),some (.ref q),some (iv st),some (.ref rb),some (.ref cx),some (iv jj)]/\H'=H4/\zF ss mr M (countsAt M (n-j-1)) st k jj bb cc rr/\m'=ss.length-jj,fun aL H2 h=>h;have eb:((bb:Nat):Int)-((wv:Nat):Int)*((cv:Nat):Int)=((bb-wv*cv:Nat):Int):=by lia
    exists _,rfl,_,rfl,_,rfl,wq,_,_,iv wv,rfl,rfl,Fe.sq,bc gw,_,rfl,_,rfl,_,rfl,rb,_,_,iv rv,rfl,rfl,Px.sq,bc gr,cx,_,_,iv cv,rfl,rfl,zH.sq,bc gc,_,_,rfl,rfl,.inl ⟨by lia,by lia⟩,_,_,rfl,rfl;refine⟨_,rfl,_,_,rfl,rfl,ss.length-(jj+1),by lia,jj+1,bb-wv*cv,?_,rfl,wE,rfl⟩;show[_,_,_,some (V.int _),_,_,_,_,_,some (V.int _)]=_;rw[eb];rfl
   ·have a9:¬wv*cv<=bb:=λz=>c (decide_eq_true (by lia));obtain⟨e1,e2,e3,e4⟩:=Fi.2 a9;have gs:((ss.map iv)[jj]?)=some (iv (ss.getD jj 0)):=ca Py;have ea:V.int (((ss.getD jj 0:Nat):Int)+((bb:Nat):Int)/((cv:Nat):Int))=iv cc:=by rw[e1];rfl
    have em:V.int (((bb:Nat):Int)%((cv:Nat):Int))=iv rr:=by rw[e2];rfl
    exists _,rfl,_,rfl,rb,_,_,iv rv,rfl,rfl,Px.sq,bc gr;exists _,rfl,.inl ⟨rfl,_,gN.sq⟩,_,rfl,pm,_,dm,_,_,rfl,oV.obj,T.d5,T.yQ,ED,_,rfl,bC,_,_,iv (ss.getD jj 0),rfl,rfl,oV.zr.sq,bc gs,_,rfl,_,rfl,_,rfl,cx,_,_,iv cv,rfl,rfl,zH.sq,bc gc,_,_,rfl,rfl,⟨by lia,by lia⟩,_,_,rfl,rfl;dsimp only;rw[ea];refine⟨q,_,_,rfl,rfl,gN,by rw[ax,hS.len];exact cz (by lia),?_⟩;have ncx:cx≠q:=λz=>ZU (.inr z);have aoU:LI (aa H4 q (.af (wd.map iv++[iv cc]))) cx ((countsAt M (n-j-1)).map BM.cB):=by show aa _ _ _ _=_;rw[aw ncx];exact zH
    exists _,rfl,_,rfl,_,rfl,cx,_,_,iv cv,rfl,rfl,aoU.sq,bc gc,_,_,rfl,rfl,(by lia);have ZW:=aoT;rw[e3]at ZW;refine⟨n-(j+1),by lia,rv,rr,j+1,wd++[cc],Jn,b3,some (V.ref rb),some (V.ref cx),some (iv jj),?_,ZW,?_,λc o nc e=>?_,Fh.put _ (.inr rfl) qY ZS ZT,oM,rfl⟩
    ·lk
    ·show aa _ _ _ _=_;rw[ao,bI];rfl
    ·rw[aw (λz=>nc (.inr z))];exact f3 _ _ (λz=>nc (.inl z)) (f' _ _ nc e)
  ·have hj:j=n:=by
    have:¬((((wd.map iv).length:Nat):Int)<((n:Nat):Int)):=λz=>c (decide_eq_true z);rw[ax,hS.len]at this;have:=hS.le;lia
   subst hj;have e:=hS.eq;rw[Ki]at e;have e':wd=spelledBy M (BM.down M j) 0 k0:=by rw[<-e];exact(lE _).symm
   refine⟨_,rfl,kk H' q d6 b' (λc o nc e=>?_) (bT.Lw (λc hc=>.inl hc) hC.rE hC.qd hC.qe) oz (e'▸kY) fq (by rw[<-e',hS.len])⟩;exact f' _ _ (λz=>by
    rcases z with z|z
    ·exact nc z
    ·exact aF e fq z) (uP _ _ e)
inductive aoV(CM:ag)(CC:ag)(CL:ag)(CJ:ag)(vs:List V)(H:Hp)(Q:VK)(z7:XK):Prop|mk:∀(S:ag->Prop)(pm dm bC am at_ bG:ag)(br:bp)(pc dx wp wl lw cl:ag)(cM:bp)(ss:aj)(mr:aZ)(M:o8)(a b k0:Nat),vs=[.ref pm,.ref pc,iv k0]->nN CM S H pm dm bC am at_ bG br ss mr M->f7 CC CL CJ S H pc dx wp wl lw cl cM ss mr M a b->b<=4096->k0<BM.f9->(∀H' d6 b',Bs (Mc pc wl cl) H H'->f7 CC CL CJ S H' pc dx wp wl lw cl d6 ss mr M a b'->b'<=4096->(Ko M k0=none->Q .aX H')/\ ∀q(wd:aj),Ko M k0=some wd->LI H' q wd->H q=none->wd.length<=256->Q (.ref q) H')->aoV CM CC CL CJ vs H Q z7
def aoW(T:cp K mg ad)(hne:ad.b0≠ad.cb):bN P w K mg base bX 13 ad.Ej ad.El ["machine","counts","place"] (aoV ad.dB ad.cW ad.cb ad.b0):=by
 refine T.WZ.ok Ci (λvs H Q E h=>?_) (λbB A aY s H vs Q E hr h=>?_)
 ·obtain⟨S,pm,dm,bC,am,at_,bG,br,pc,dx,wp,wl,lw,cl,cM,ss,mr,M,a,b,k0,rfl,_⟩:=h;rfl
 ·obtain⟨S,pm,dm,bC,am,at_,bG,br,pc,dx,wp,wl,lw,cl,cM,ss,mr,M,a,b,k0,rfl,hM,hC,hb,ou,kk⟩:=h;exists _,(aC (bP (i:=3) Ci.nd (pv 2)) (aC (ib eR rfl (Tc rfl T.yV (ak (df nu (dD rfl T.akN) bm) ay)) (bU (i:=4) Ci.nd) (aC (bP (i:=5) Ci.nd (bD bY (e_ (pv 1) T.jE T.Ww (ZO T hne) hr.m T.Wv .nil bE (ak (pv 4) ay)) bm)) (aC (dF (dY sv (pv 3) (pv 5) (dG _)) (aK (bK (gy (aoQ T hne) hr.m rfl T.akE T.WY.kp T.akD .nil bE (ak (pv 0) (ak (pv 1) (ak (pv 4) (ak (pv 3) ay))))))) dE) (aK (Bd (i:=3) Ci.nd (pv 5) (yx Tj)))))) (aK (bK si))))
  rfl'
  have hI:=hM.here.mG;have ZX: ∀c,Mc pc wl cl c->S c:=λc z=>by
   rcases z with rfl|rfl|rfl
   ·exact hC.rE
   ·exact hC.qd
   ·exact hC.qe
  refine⟨_,rfl,_,_,rfl,rfl,257,rfl,by room,by room,Tf (n:=257)
   (λi σ H'=> ∃v4 v5 bf d6 b',σ=[some (.ref pm),some (.ref pc),some (iv k0),some (iv bf),v4,v5]/\Bs (Mc pc wl cl) H H'/\f7 ad.cW ad.cb ad.b0 S H' pc dx wp wl lw cl d6 ss mr M a b'/\b'<=4096/\bf<BM.f9/\Ko M k0=Sw15.kthFrom M (257-i) (BM.down M i) (countsAt M i) bf)
   ⟨none,none,k0,cM,b,rfl,λ_ _ _ e=>e,hC,hb,ou,BM.adE M k0⟩ ?_ ?_⟩
  ·rintro i σ H' hi ⟨v4,v5,bf,d6,b',rfl,f',bT,oz,Jo,uQ⟩;rw[Int.zero_add _];have h0:0<((countsAt M i).map BM.cB).length:=by rw[ax,hI.AR];exact hI.pos
   have g0:((((countsAt M i).map BM.cB).map iv)[0]?)=some (iv (BM.cB ((countsAt M i).getD 0 0))):=by lk
   refine⟨_,rfl,pc,dx,_,rfl,bT.obj,N9 (by x_go) _ _ _ _,_,rfl,S,pc,dx,wp,wl,lw,cl,d6,ss,mr,M,a,b',i,rfl,bT,hI,by lia,oz,λH3 Jn b3 cx f3 Fh oM zH ZU=>?_⟩;exists cx,_,_,iv (BM.cB ((countsAt M i).getD 0 0)),rfl,rfl,zH.sq,bc (j:=0) g0;have Jp:Bs (Mc pc wl cl) H H3:=λc o nc e=>f3 _ _ nc (f' _ _ nc e);have aoX:257-i=(256-i)+1:=by lia
   rw[aoX,BM.adD]at uQ;have oV:=hM.to λH9 b9 c o nc e=>b9 _ _ nc (Jp _ _ (λz=>nc (ZX _ z)) e);generalize EN:(countsAt M i).getD 0 0=c0 at uQ⊢;exists _,rfl,_,rfl,_,_,rfl,rfl,_,rfl;refine bq (λc=>?_) (λc=>?_)
   ·have a9:bf<BM.cB c0:=by
     lk
    have sB:=iC a9 (by unfold BM.cB;exact Nat.min_le_left _ _)
    rw[if_pos sB]at uQ
    refine⟨_,rfl,_,rfl,_,rfl,_,rfl,S,pm,dm,bC,am,at_,bG,br,pc,dx,wp,wl,lw,cl,Jn,ss,mr,M,a,b3,i,bf,rfl,oV,Fh,by lia,oM,Jo,by rw[EN];exact sB,fun H5 q aoY b5 f5 hC5 EK fW oW cS=>?_⟩
    have f05:Bs (Mc pc wl cl) H H5:=λc o nc e=>f5 _ _ nc (Jp _ _ nc e)
    refine(kk H5 aoY b5 f05 hC5 EK).2 q _ uQ fW ?_ (by rw[cS];lia)
    cases e:H q with
    |none=>rfl
    |some o=>
     by_cases z:Mc pc wl cl q
     ·obtain⟨o',e'⟩:=Fh.fA _ (ZX _ z)
      rw[oW]at e';cases e'
     ·rw[Jp _ _ z e]at oW;cases oW
   ·have mq:BM.cB c0<=bf:=by
     lk
    have ZY:1*BM.cB c0<=bf:=by lia
    rw[BM.La Jo (by room)]at ZY
    have AY:=BM.Sv Jo (by room) ZY
    rw[if_neg (by lia)]at uQ
    rw[AY]at mq⊢
    have eb:((bf:Nat):Int)-((c0:Nat):Int)=((bf-c0:Nat):Int):=by lia
    exists _,rfl,_,rfl,_,_,rfl,rfl
    refine⟨some (iv i),some (iv c0),bf-c0,Jn,b3,?_,Jp,Fh,oM,by lia,?_⟩
    ·show[_,_,_,some (V.int _),_,_]=_
     rw[eb];rfl
    ·lk
  ·rintro σ H' ⟨v4,v5,bf,d6,b',rfl,f',bT,oz,Jo,uQ⟩
   rw[Ki]at uQ
   exact(kk H' d6 b' f' bT oz).1 uQ
end
end Bp
namespace Bp
open PySem PySem.Spec PyProof.Rows L2
def ZZ(h:j<n):nz n ((j:Nat):Int)=some j:=by
 unfold nz;lk
def Z0(l:aj)(i x:Nat):(l.map iv).set i (iv x)=(l.set i x).map iv:=by rw[Ai]
def Pz:(!decide (iv a=iv b))=true↔a≠b:=by
 rw[Bool.not_eq_true',decide_eq_false_iff_not];constructor
 ·fin2
 ·intro h e;have:=V.int.inj e;lia
section
variable{P:bj}{w:a_}{K:aP}{mg:Str->Option au}{base:Heap}{ad:Ad}
inductive Z1(C:ag)(vs:List V)(H:Hp)(Q:VK)(z4:XK):Prop|mk:∀p dx n,vs=[.ref p,iv n]->H p=some (.aB C dx [])->n<=4096->(∀H' ab,Bt p H H'->H' p=some (.aB C dx (qW (.ref ab)))->LI H' ab (aU n)->H ab=none->Q .aX H')->Z1 C vs H Q z4
def aoZ(T:cp K mg ad):bN P w K mg base bX 1 ad.Cj ad.Ck ["self","size"] (Z1 ad.lg):=by
 refine T.aiY.ok aik (λvs H Q E h=>?_) (λbB A aY s H vs Q E hr h=>?_)
 ·obtain⟨p,dx,n,rfl,_⟩:=h
  rfl
 ·obtain⟨p,dx,n,rfl,hp,hn,k⟩:=h;refine⟨_,(aK (eQ (pv 0) (yb (UR rfl) (by rfl) T.EB JQ (ak (yb UQ (by rfl) T.yV Kt (ak (pv 1) ay)) ay)) rfl)),_,rfl,_,rfl,λrg hrg=>⟨rg,n,rfl,ao,kr (by lia),λab gU=>?_⟩⟩;have s1:=al.new (o:=.kO 0 ((n:Nat):Int)) hrg;have PB:=gU;generalize aa H rg (.kO 0 ((n:Nat):Int))=H1 at s1 PB⊢;have s2:=al.new (o:=.af ((aU n).map λi=>V.int (i:Nat))) PB;have zq:LI (aa H1 ab (.af ((aU n).map λi=>V.int (i:Nat)))) ab (aU n):=ao;generalize aa H1 ab (.af ((aU n).map λi=>V.int (i:Nat)))=H2 at s2 zq⊢;have dQ:=s1.trans s2;have cC:=dQ _ _ hp;have wW:=bx zq cC (by intro z;cases z);exists _,rfl,p,_,dx,_,rfl,cC,T.p8,T.wy,(by simp);rw[ak3];exact k _ ab (λb o nb e=>by rw[aw nb];exact dQ _ _ e) ao (by show aa _ _ _ _=_;rw[aw wW];exact zq) (s1.free PB)
inductive Z2(C:ag)(vs:List V)(H:Hp)(Q:VK)(z4:XK):Prop|mk:∀p dx ab l N x,vs=[.ref p,iv x]->H p=some (.aB C dx (qW (.ref ab)))->LI H ab l->BM.Uf N l->x<N->(∀H' l' y,Bt ab H H'->LI H' ab l'->BM.GC N l x l' y->Q (iv y) H')->Z2 C vs H Q z4
def Z3(T:cp K mg ad):bN P w K mg base bX 1 ad.Cm ad.Cn ["self","number"] (Z2 ad.lg):=by
 refine T.ai0.ok Wh (λvs H Q E h=>?_) (λbB A aY s H vs Q E hr h=>?_)
 ·grind[Z2]
 ·obtain⟨p,dx,ab,l,N,x,rfl,hp,gU,hU,hx,k⟩:=h;exists _,(aC (pN eR (dY vJ (bD bY (aV (pv 0)) (pv 1)) (pv 1) (dG _)) (aC (Bc (bD bY (aV (pv 0)) (bD bY (aV (pv 0)) (pv 1))) (Bb (aV (pv 0)) (pv 1) ye)) (aK (bP (i:=1) Wh.nd (bD bY (aV (pv 0)) (pv 1)))))) (aK (bK (pv 1))))
  rfl'
  have wW:=bx hp gU (by intro z;cases z);obtain⟨rk,B,hW⟩:=BM.oj.start hU hx;exists λm σ H'=> ∃l' z,σ=[some (.ref p),some (iv z)]/\Bt ab H H'/\LI H' ab l'/\BM.oj N l x rk B l' z/\m=B-rk z,⟨_,l,x,rfl,Bt.refl _ _,gU,hW,rfl⟩;rintro m σ H' ⟨l',z,rfl,b',sf,nO,rfl⟩;have kS:=b' _ _ wW hp;have hz:z<l'.length:=by rw[nO.len];exact nO.lt
  have hz2:l'.getD z 0<l'.length:=by rw[nO.len];exact nO.aB z nO.lt
  refine⟨_,rfl,p,_,dx,_,_,rfl,kS,T.p8,T.wy,yW,_,rfl,ab,_,_,iv (l'.getD z 0),rfl,rfl,sf.sq,bc (ca hz),_,rfl,rfl,_,rfl,bq (λc=>?_) (λc=>?_)⟩
  ·have hne:=Pz.mp c;obtain⟨hW2,hm⟩:=nO.step hne;exists fun aL H2=> ∃m',m'<B-rk z/\ ∃l' z,aL=[some (.ref p),some (iv z)]/\Bt ab H H2/\LI H2 ab l'/\BM.oj N l x rk B l' z/\m'=B-rk z,fun aL H2 h=>h;exists _,rfl,p,_,dx,_,_,rfl,kS,T.p8,T.wy,yW,_,rfl,p,_,dx,_,_,rfl,kS,T.p8,T.wy,yW,_,rfl,ab,_,_,iv (l'.getD z 0),rfl,rfl,sf.sq,bc (ca hz),ab,_,_,iv (l'.getD (l'.getD z 0) 0),rfl,rfl,sf.sq,bc (ca hz2),_,rfl,p,_,dx,_,_,rfl,kS,T.p8,T.wy,yW,_,rfl,ab,_,_,z,rfl,rfl,sf,ZZ (by lk)
   rw[Z0];have b2:=Bt.aa ab H' (.af ((l'.set z (l'.getD (l'.getD z 0) 0)).map iv));have ed:LI (aa H' ab (.af ((l'.set z (l'.getD (l'.getD z 0) 0)).map iv))) ab (l'.set z (l'.getD (l'.getD z 0) 0)):=ao;generalize aa H' ab (.af ((l'.set z (l'.getD (l'.getD z 0) 0)).map iv))=H2 at b2 ed⊢;have hz3:z<(l'.set z (l'.getD (l'.getD z 0) 0)).length:=by rw[mN];exact hz
   refine⟨_,rfl,p,_,dx,_,_,rfl,b2 _ _ wW kS,T.p8,T.wy,yW,_,rfl,ab,_,_,iv (l'.getD (l'.getD z 0) 0),rfl,rfl,ed.sq,bc ?_,_,hm,_,_,rfl,b'.trans b2,ed,hW2,rfl⟩;lk
  ·have he:l'.getD z 0=z:=by
    rcases Nat.decEq (l'.getD z 0) z with h|h
    ·exact absurd (Pz.mpr h) c
    ·exact h
   exact⟨_,rfl,k H' l' z b' sf (nO.done he)⟩
inductive ao0(C:ag)(vs:List V)(H:Hp)(Q:VK)(z4:XK):Prop|mk:∀p dx ab l N x y,vs=[.ref p,iv x,iv y]->H p=some (.aB C dx (qW (.ref ab)))->LI H ab l->BM.Uf N l->x<N->y<N->(∀H' l' r,Bt ab H H'->LI H' ab l'->BM.AU N l x y l' r->Q (.bl r) H')->ao0 C vs H Q z4
def Z4(T:cp K mg ad):bN P w K mg base bX 2 ad.Co ad.Cp ["self","one","other"] (ao0 ad.lg):=by
 refine T.ai1.ok NK (λvs H Q E h=>?_) (λbB A aY s H vs Q E hr h=>?_)
 ·obtain⟨p,dx,ab,l,N,x,y,rfl,_⟩:=h;rfl
 ·obtain⟨p,dx,ab,l,N,x,y,rfl,hp,gU,hU,hx,hy,k⟩:=h;exists _,(aC (bP (i:=3) NK.nd (e_ (pv 0) T.p8 T.Wr (Z3 T) hr.m T.Wq .nil bE (ak (pv 1) ay))) (aC (bP (i:=4) NK.nd (e_ (pv 0) T.p8 T.Wr (Z3 T) hr.m T.Wq .nil bE (ak (pv 2) ay))) (aC (Bc (pv 3) (Bb (aV (pv 0)) (pv 4) ye)) (aK (bK (Tr vJ (pv 3) (pv 4) (dG _)))))))
  rfl'
  have wW:=bx hp gU (by intro z;cases z);refine⟨_,rfl,p,dx,_,rfl,hp,Ih (by x_go) _,_,rfl,p,dx,ab,l,N,x,rfl,hp,gU,hU,hx,λH1 l1 f1 b1 eY L1=>?_⟩;have di:=b1 _ _ wW hp;refine⟨_,rfl,p,dx,_,rfl,di,Ih (by x_go) _,_,rfl,p,dx,ab,l1,N,y,rfl,di,eY,L1.uf,hy,λH2 l2 f2 b2 ed L2=>?_⟩;have cC:=b2 _ _ wW di;have hf2:f2<l2.length:=by rw[L2.uf.len];exact L2.lt
  exists _,rfl,_,rfl,p,_,dx,_,_,rfl,cC,T.p8,T.wy,yW,_,rfl,ab,_,_,f2,rfl,rfl,ed,ZZ (by lk);rw[Z0];have b3:=Bt.aa ab H2 (.af ((l2.set f2 f1).map iv));have iS:LI (aa H2 ab (.af ((l2.set f2 f1).map iv))) ab (l2.set f2 f1):=ao;generalize aa H2 ab (.af ((l2.set f2 f1).map iv))=H3 at b3 iS⊢;exists _,rfl,_,rfl,rfl;have e:(!decide (iv f1=iv f2))=!decide (f1=f2):=by
   by_cases h:f1=f2
   ·rw[h];simp
   ·rw[decide_eq_false h,decide_eq_false (λz=>h (by have:=V.int.inj z;lia))]
  have:=k H3 (l2.set f2 f1) _ ((b1.trans b2).trans b3) iS (BM.adP L1 L2);lk
end
structure tf(C:ag)(H:Hp)(p dx ps sr lb:ag)(ts:bp)(D:List BM.fP)(bZ cq:aj):Prop where
 obj:H p=some (.aB C dx (mC (.ref ps) (.ref sr) (.ref lb)))
 af:H ps=some (.af (ts.map V.ref))
 len:ts.length=D.length
 aE: ∀(i:Nat)(t:ag),ts[i]?=some t->H t=some (.aE [iv (D.getD i BM.d0).2.1,iv (D.getD i BM.d0).2.2])
 eP:LI H sr bZ
 qg:LI H lb cq
 n1:ps≠sr
 n2:ps≠lb
 n3:sr≠lb
def tf.aA(h:tf C H p dx ps sr lb ts D bZ cq)(s:al H H'):tf C H' p dx ps sr lb ts D bZ cq:=
 ⟨s _ _ h.obj,s _ _ h.af,h.len,λi t e=>s _ _ (h.aE i t e),h.eP.aA s,h.qg.aA s,h.n1,h.n2,h.n3⟩
section
variable{P:bj}{w:a_}{K:aP}{mg:Str->Option au}{base:Heap}{ad:Ad}
inductive ao1(C:ag)(vs:List V)(H:Hp)(Q:VK)(z4:XK):Prop|mk:∀p dx,vs=[.ref p]->H p=some (.aB C dx [])->(∀H' ps sr lb t,Bt p H H'->tf C H' p dx ps sr lb [t] [BM.d0] [0] [0]->H ps=none->H sr=none->H lb=none->H t=none->Q .aX H')->ao1 C vs H Q z4
def ao2(T:cp K mg ad):bN P w K mg base bX 1 ad.Cq ad.Cr ["self"] (ao1 ad.fX):=by
 refine T.ai2.ok ail (λvs H Q E h=>?_) (λbB A aY s H vs Q E hr h=>?_)
 ·obtain⟨p,dx,rfl,_⟩:=h;rfl
 ·obtain⟨p,dx,rfl,hp,k⟩:=h;exists _,(aC (eQ (pv 0) (cH (ak (G5 (ak bm (ak bm ay))) ay)) rfl) (aC (eQ (pv 0) (cH (ak bm ay)) rfl) (aK (eQ (pv 0) (cH (ak bm ay)) rfl))))
  rfl'
  refine⟨(cA rfl),λt ht=>⟨(cA rfl),λps tV=>?_⟩⟩;have s1:=al.new (o:=.aE [V.int 0,V.int 0]) ht;have gE:aa H t (.aE [V.int 0,V.int 0]) t=some (.aE [iv 0,iv 0]):=ao;generalize aa H t (.aE [V.int 0,V.int 0])=H1 at s1 gE tV⊢;have s2:=al.new (o:=.af [V.ref t]) tV;have Jq:aa H1 ps (.af [V.ref t]) ps=some (.af [V.ref t]):=ao;generalize aa H1 ps (.af [V.ref t])=H2 at s2 Jq⊢;have dQ:=s1.trans s2;have cC:=dQ _ _ hp;exists _,rfl,p,_,dx,_,rfl,cC,T.nH,T.Eu,(by simp);have b3:=Bt.aa p H2 (.aB ad.fX dx (aM "states" (.ref ps) []));have ii:aa H2 p (.aB ad.fX dx (aM "states" (.ref ps) [])) p=_:=ao;generalize aa H2 p (.aB ad.fX dx (aM "states" (.ref ps) []))=H3 at b3 ii⊢;refine⟨(cA rfl),λsr PD=>?_⟩;have s4:=al.new (o:=.af [V.int 0]) PD;have PF:LI (aa H3 sr (.af [V.int 0])) sr [0]:=ao;generalize aa H3 sr (.af [V.int 0])=H4 at s4 PF⊢;have oI:=s4 _ _ ii;exists _,rfl,p,_,dx,_,rfl,oI,T.nH,T.NR,(by show 1<1000;decide);have b5:=Bt.aa p H4 (.aB ad.fX dx (aM "sources" (.ref sr) (aM "states" (.ref ps) [])));have rB:aa H4 p (.aB ad.fX dx (aM "sources" (.ref sr) (aM "states" (.ref ps) []))) p=_:=ao;generalize aa H4 p (.aB ad.fX dx (aM "sources" (.ref sr) (aM "states" (.ref ps) [])))=H5 at b5 rB⊢;refine⟨(cA rfl),λlb Jr=>?_⟩;have s6:=al.new (o:=.af [V.int 0]) Jr;have PH:LI (aa H5 lb (.af [V.int 0])) lb [0]:=ao;generalize aa H5 lb (.af [V.int 0])=H6 at s6 PH⊢;have rj:=s6 _ _ rB;exists _,rfl,p,_,dx,_,rfl,rj,T.nH,T.NS,y4;rw[ak_];have b7:=Bt.aa p H6 (.aB ad.fX dx (mC (.ref ps) (.ref sr) (.ref lb)));have Ff:aa H6 p (.aB ad.fX dx (mC (.ref ps) (.ref sr) (.ref lb))) p=_:=ao;generalize aa H6 p (.aB ad.fX dx (mC (.ref ps) (.ref sr) (.ref lb)))=H7 at b7 Ff⊢;have EG:=bx Jq cC (by intro z;cases z);have nt:=bx (s2 _ _ gE) cC (by intro z;cases z);have PJ:=bx PF oI (by intro z;cases z);have Z5:=bx PH rj (by intro z;cases z);have Z6:=b3 _ _ EG Jq;have n1:=aF Z6 PD;have ao3:=b5 _ _ EG (s4 _ _ Z6);have Z7:=b5 _ _ PJ PF;have up: ∀c o,c≠p->H2 c=some o->H7 c=some o:=λc o n e=>b7 _ _ n (s6 _ _ (b5 _ _ n (s4 _ _ (b3 _ _ n e))));have fr: ∀{c:ag},c≠p->H3 c=none->H c=none:=λ{c}n e=>by
   cases e':H c with
   |none=>rfl
   |some o=>rw[b3 _ _ n (dQ _ _ e')]at e;cases e
  have LJ: ∀{c:ag},c≠p->H5 c=none->H c=none:=λ{c}n e=>by
   cases e':H c with
   |none=>rfl
   |some o=>rw[b5 _ _ n (s4 _ _ (b3 _ _ n (dQ _ _ e')))]at e;cases e
  exact k H7 ps sr lb t (λc o n e=>up _ _ n (dQ _ _ e)) ⟨Ff,up _ _ EG Jq,rfl,λi t' e=>by
   match i,e with
   |0,e=>obtain rfl:=bv (e);exact up _ _ nt (s2 _ _ gE),b7 _ _ PJ (s6 _ _ Z7),b7 _ _ Z5 PH,n1,aF ao3 Jr,aF Z7 Jr⟩ (s1.free tV) (fr PJ PD) (LJ Z5 Jr) ht
inductive ao4(C:ag)(vs:List V)(H:Hp)(Q:VK)(z4:XK):Prop|mk:∀(p dx ps sr lb:ag)(ts:bp)(D:List BM.fP)(bZ cq:aj)(wd:aj)(a b sc wX:Nat),vs=[.ref p,iv a,iv b,iv sc,iv wX]->tf C H p dx ps sr lb ts D bZ cq->D.length<=4096->bZ.length<=4096->cq.length<=4096->(∀H' t,(∀c o,c≠ps->c≠sr->c≠lb->H c=some o->H' c=some o)->tf C H' p dx ps sr lb (ts++[t]) (D++[(wd,a,b)]) (bZ++[sc]) (cq++[wX])->Q .aX H')->ao4 C vs H Q z4
def ao5(T:cp K mg ad):bN P w K mg base bX 1 ad.Cs ad.Ct ["self","one","other","source","byte"] (ao4 ad.fX):=by
 refine T.ai4.ok aim (λvs H Q E h=>?_) (λbB A aY s H vs Q E hr h=>?_)
 ·obtain⟨p,dx,ps,sr,lb,ts,D,bZ,cq,wd,a,b,sc,wX,rfl,_⟩:=h;rfl
 ·obtain⟨p,dx,ps,sr,lb,ts,D,bZ,cq,wd,a,b,sc,wX,rfl,hA,h1,h2,h3,k⟩:=h;exists _,(aC (ga (ic iB jJ j0 jy (aV (pv 0)) (ak (G5 (ak (pv 1) (ak (pv 2) ay))) ay))) (aC (ga (ic iB jJ j0 jy (aV (pv 0)) (ak (pv 3) ay))) (aK (ga (ic iB jJ j0 jy (aV (pv 0)) (ak (pv 4) ay))))))
  rfl'
  have np1:=bx hA.obj hA.af (by intro z;cases z);have np2:=bx hA.obj hA.eP (by intro z;cases z);have np3:=bx hA.obj hA.qg (by intro z;cases z);refine⟨_,rfl,p,_,dx,_,_,rfl,hA.obj,T.nH,T.Eu,Ii,.inl ⟨rfl,_,aJ.of hA.af⟩,_,rfl,_,rfl,(cA rfl),λt ht=>?_⟩;have s1:=al.new (o:=.aE [iv a,iv b]) ht;have gE:aa H t (.aE [iv a,iv b]) t=some (.aE [iv a,iv b]):=ao;generalize aa H t (.aE [iv a,iv b])=H1 at s1 gE⊢;have mK:=hA.aA s1;refine⟨ps,_,_,rfl,rfl,mK.af,by rw[ax,hA.len];exact cz (by lia),?_⟩;have b2:=Bt.aa ps H1 (.af (ts.map V.ref++[V.ref t]));have ed:aa H1 ps (.af (ts.map V.ref++[V.ref t])) ps=_:=ao;generalize aa H1 ps (.af (ts.map V.ref++[V.ref t]))=H2 at b2 ed⊢;have cC:=b2 _ _ np1 mK.obj;have gL:LI H2 sr bZ:=b2 _ _ hA.n1.symm mK.eP;refine⟨_,rfl,p,_,dx,_,_,rfl,cC,T.nH,T.NR,W_,.inl ⟨rfl,_,gL.sq⟩,_,rfl,sr,_,_,rfl,rfl,gL,by rw[ax];exact cz (by lia),?_⟩;have b3:=Bt.aa sr H2 (.af (bZ.map iv++[iv sc]));have iS:aa H2 sr (.af (bZ.map iv++[iv sc])) sr=_:=ao;generalize aa H2 sr (.af (bZ.map iv++[iv sc]))=H3 at b3 iS⊢;have ii:=b3 _ _ np2 cC;have oM:LI H3 lb cq:=b3 _ _ hA.n3.symm (b2 _ _ hA.n2.symm mK.qg);refine⟨_,rfl,p,_,dx,_,_,rfl,ii,T.nH,T.NS,W',.inl ⟨rfl,_,oM.sq⟩,_,rfl,lb,_,_,rfl,rfl,oM,by rw[ax];exact cz (by lia),?_⟩;have b4:=Bt.aa lb H3 (.af (cq.map iv++[iv wX]));have PL:aa H3 lb (.af (cq.map iv++[iv wX])) lb=_:=ao;generalize aa H3 lb (.af (cq.map iv++[iv wX]))=H4 at b4 PL⊢;have up: ∀c o,c≠ps->c≠sr->c≠lb->H1 c=some o->H4 c=some o:=λc o m1 m2 m3 e=>b4 _ _ m3 (b3 _ _ m2 (b2 _ _ m1 e));have nt: ∀{c:ag}{xs:List V},H1 c=some (.aE xs)->c≠ps/\c≠sr/\c≠lb:=λe=>⟨bx e mK.af (by intro z;cases z),bx e mK.eP (by intro z;cases z),bx e mK.qg (by intro z;cases z)⟩
  refine k H4 t (λc o m1 m2 m3 e=>up _ _ m1 m2 m3 (s1 _ _ e)) ⟨b4 _ _ np3 ii,?_,by rw[dS,dS,hA.len];rfl,λi t' e=>?_,?_,?_,hA.n1,hA.n2,hA.n3⟩
  ·rw[b4 _ _ hA.n2 (b3 _ _ hA.n1 ed),bI];rfl
  ·by_cases hi:i<ts.length
   ·rw[FB hi]at e;have h:=mK.aE i t' e;rw[BM.on (by rw[<-hA.len];exact hi)];lk
   ·have h_:i=ts.length:=by
     have:=(gm.mp e).1
     rw[dS,zW]at this
     lia
    subst h_;rw[JO (aW _),Ki]at e;obtain rfl:=bv (e);rw[hA.len,BM.AW];lk
  ·show H4 sr=_;rw[b4 _ _ hA.n3 iS,bI];rfl
  ·show H4 lb=_;lk
inductive Z8(C:ag)(vs:List V)(H:Hp)(Q:VK)(z4:XK):Prop|mk:∀p dx ps sr lb ts D bZ cq,vs=[.ref p]->tf C H p dx ps sr lb ts D bZ cq->0<D.length->D.length<=4096->bZ.length=D.length->cq.length=D.length->(D.getD 0 BM.d0).1=[]->(∀k,0<k->k<D.length->bZ.getD k 0<k/\(D.getD k BM.d0).1=(D.getD (bZ.getD k 0) BM.d0).1++[cq.getD k 0])->(∀H' q,al H H'->LI H' q (D.getD (D.length-1) BM.d0).1->H q=none->(D.getD (D.length-1) BM.d0).1.length<=4096->Q (.ref q) H')->Z8 C vs H Q z4
def ao6(T:cp K mg ad):bN P w K mg base bX 1 ad.Cu ad.Cv ["self"] (Z8 ad.fX):=by
 refine T.ai7.ok HR (λvs H Q E h=>?_) (λbB A aY s H vs Q E hr h=>?_)
 ·obtain⟨p,dx,ps,sr,lb,ts,D,bZ,cq,rfl,_⟩:=h
  rfl
 ·obtain⟨p,dx,ps,sr,lb,ts,D,bZ,cq,rfl,hA,mE,hD,E3,Ot,h0,Js,kk⟩:=h;exists _,(aC (bP (i:=1) HR.nd (cH ay)) (aC (bP (i:=2) HR.nd (df vI (d4 eX (by rfl) T.ee eI (ak (aV (pv 0)) ay)) bm)) (aC (pN eR (dY ua (pv 2) bm (dG _)) (aC (ga (ic iB jJ j0 jy (pv 1) (ak (bD bY (aV (pv 0)) (pv 2)) ay))) (aK (bP (i:=2) HR.nd (bD bY (aV (pv 0)) (pv 2)))))) (aK (bK (ahQ rfl rfl T.EB rfl T.ak2 (pv 1)))))))
  rfl'
  refine⟨cX _,λq hq=>?_⟩;have s1:=al.new (o:=.af []) hq;have fF:LI (aa H q (.af [])) q []:=ao;have fq:=hq;generalize aa H q (.af [])=H1 at s1 fF⊢;have mK:=hA.aA s1;have el:(((ts.map V.ref).length:Nat):Int)-1=((D.length-1:Nat):Int):=by rw[ax,hA.len];lia
  exists _,rfl,p,_,dx,_,_,rfl,mK.obj,T.nH,T.Eu,Ii,ps,_,rfl,.inl (aJ.of mK.af),_,_,rfl,rfl;dsimp only;rw[el];exists λm σ H'=> ∃kx ap,σ=[some (.ref p),some (.ref q),some (iv kx)]/\LI H' q ap/\Bt q H1 H'/\kx<D.length/\(D.getD (D.length-1) BM.d0).1=(D.getD kx BM.d0).1++ap.reverse/\ap.length+kx<=D.length-1/\m=kx,⟨_,D.length-1,[],rfl,fF,Bt.refl _ _,by lia,by simp,by simp,rfl⟩
  rintro m σ H' ⟨kx,ap,rfl,kY,b',hk,Z9,uv,rfl⟩;have qY:=aF hA.obj fq;have Z_:=aF hA.eP fq;have nbq:=aF hA.qg fq;exists _,rfl,_,_,rfl,rfl,_,rfl;refine bq (λc=>?_) (λc=>?_)
  ·have ou:0<m:=by
    lk
   have hp:=Js m ou hk;have kS:=b' _ _ qY mK.obj;have oz:LI H' lb cq:=b' _ _ nbq mK.qg;have l8:=b' _ _ Z_ mK.eP;exists fun aL H2=> ∃m',m'<m/\ ∃(kx:Nat)(ap:aj),aL=[some (.ref p),some (.ref q),some (iv kx)]/\LI H2 q ap/\Bt q H1 H2/\kx<D.length/\(D.getD (D.length-1) BM.d0).1=(D.getD kx BM.d0).1++ap.reverse/\ap.length+kx<=D.length-1/\m'=kx,fun aL H2 h=>h;refine⟨_,rfl,.inl ⟨rfl,_,kY.sq⟩,_,rfl,p,_,dx,_,_,rfl,kS,T.nH,T.NS,W',_,rfl,lb,_,_,iv (cq.getD m 0),rfl,rfl,oz.sq,bc (ca (by rw[Ot];exact hk)),q,_,_,rfl,rfl,kY,by rw[ax];exact cz (by lia),?_⟩;have b2:=Bt.aa q H' (.af (ap.map iv++[iv (cq.getD m 0)]));have gB:LI (aa H' q (.af (ap.map iv++[iv (cq.getD m 0)]))) q (ap++[cq.getD m 0]):=by show aa _ _ _ _=_;rw[ao,bI];rfl
   generalize aa H' q (.af (ap.map iv++[iv (cq.getD m 0)]))=H2 at b2 gB⊢;exists _,rfl,p,_,dx,_,_,rfl,b2 _ _ qY kS,T.nH,T.NR,W_,_,rfl,sr,_,_,iv (bZ.getD m 0),rfl,rfl,aJ.of (b2 _ _ Z_ l8),bc (ca (by rw[E3];exact hk));refine⟨bZ.getD m 0,hp.1,bZ.getD m 0,ap++[cq.getD m 0],rfl,gB,b'.trans b2,by lia,?_,?_,rfl⟩
   ·fin2
   ·fin2
  ·have ou:m=0:=by
    lk
   subst ou;rw[h0,J']at Z9;refine⟨_,rfl,q,_,rfl,kY.sq,λl hl=>?_⟩;have s':al H H':=λc o e=>b' _ _ (aF e fq) (s1 _ _ e);refine kk _ l (s'.trans (al.new hl)) ?_ (s'.free hl) (by fin2);rw[Z9];show aa _ _ _ _=_;rw[ao,List.map_reverse]
inductive Z'(CM:ag)(vs:List V)(H:Hp)(Q:VK)(z4:XK):Prop|mk:∀pm dm bC am at_ bG lt br ss mr M Ls st,vs=[.ref pm,iv st,.ref lt]->jG CM H pm dm bC am at_ bG br ss mr M->LI H lt Ls->(∀x∈Ls,x<256)->Ls.length<=256->st<mr.length->(∀H' q,al H H'->LI H' q (Ls.map (M.next st))->H q=none->Q (.ref q) H')->Z' CM vs H Q z4
def aaa(T:cp K mg ad):bN P w K mg base bX 1 ad.DN ad.DO ["machine","state","letters"] (Z' ad.dB):=by
 refine T.NZ.ok HW (λvs H Q E h=>?_) (λbB A aY s H vs Q E hr h=>?_)
 ·grind[Z']
 ·obtain⟨pm,dm,bC,am,at_,bG,lt,br,ss,mr,M,Ls,st,rfl,hM,a9,wG,PM,bW,k⟩:=h;exists _,(aC (bP (i:=3) HW.nd (bD bY (aV (pv 0)) (pv 1))) (aK (bK (ke rfl HW.nd (gY (pv 2)) (bz:=[("byte",4)]) (gZ (show gz ["machine","state","letters","row","byte"] (bg NB) _ _=true by x_go)) (λ_ _ _ _ _=>(bU (i:=4) HW.nd)) (λ_ _ _ _ _=>i7) (λ_ _ _ _ _=>(bD (nE K) (pv 3) (bD (nE K) (MR K (pv 0) rfl) (pv 4))))))))
  rfl'
  have hI:=hM.mG;obtain⟨rb,Pw⟩: ∃rb,br[st]?=some rb:=⟨_,eh (by rw[hM.rows.len];exact bW)⟩
  have hr:=hM.rows.at_ st rb Pw;exists _,rfl,pm,_,dm,_,_,rfl,hM.obj,T.d5,T.wz,yX,_,rfl,am,_,_,V.ref rb,rfl,rfl,aJ.of hM.rows.af,bc (by lk);refine⟨_,rfl,lt,rfl,⟨_,a9.sq⟩,λD hD=>lN (K:=K) (a:=lt) (xs:=Ls.map iv) (λj H5=>LI H5 D ((Ls.take j).map (M.next st))/\al H H5) ⟨ao,al.new hD⟩ ?_ ?_ ?_⟩
  ·rintro j H5 _ ⟨_,s5⟩;exact(a9.aA s5).sq
  ·rintro j x H5 hx ⟨bn,s5⟩;have hj:j<Ls.length:=by
    fin2
   rw[ca hj]at hx;obtain rfl:=(bv hx).symm;have hc:=wG _ (BM.eU (d:=0) hj);have ny:=hI.AQ hc;have mX:=(hI.next bW hc).1;refine⟨rfl,ja ⟨_,rfl,_,rfl,pm,_,dm,_,_,rfl,s5 _ _ hM.obj,T.d5,T.Ev,Ij,_,rfl,bG,_,_,iv _,rfl,rfl,(hM.dU.aA s5).sq,bc (ca (by rw[hI.xM];exact hc)),rb,_,_,iv _,rfl,rfl,(hr.aA s5).sq,bc (ca (by rw[hI.jO st bW];exact ny)),_,bn,?_,?_,λc o e=>?_⟩⟩
   ·rw[ax,ax,il];exact cz (by lia)
   ·show aa _ _ _ _=_;rw[ao,fJ hj,bI,bI,<-mX,BM.cr hj];rfl
   ·rw[aw (aF e hD)];exact s5 _ _ e
  ·lk
end
def Fj(l:List Bool)(i:Nat):(l.map dz).getD i 0=(l.getD i false).toNat:=by
 fin2
def Jt:(!decide (iv ((M.takes.map dz).getD a 0)=iv ((N.takes.map dz).getD b 0)))=true↔BM.gK M N [] a b:=by
 rw[Pz,Fj,Fj];show _↔M.takes.getD a false≠N.takes.getD b false
 cases M.takes.getD a false<;>cases N.takes.getD b false<;>simp
def ao7{ts:aj}{cK:List Int}(e:cK.map V.int=ts.map iv)(hs:cK.Pairwise (·<= ·))(hn:ts.Nodup):ts.Pairwise (·< ·):=by
 have e1:cK=ts.map λ(n:Nat)=>(n:Int):=by
  apply List.map_inj_right (f:=V.int) (λa b h=>V.int.inj h)|>.mp;rw[e,dy];rfl
 rw[e1]at hs;have l8:=(Qz.mp hs).imp λh=>by omega
 exact(l8.and hn).imp λh=>by lia
def ao8{D:List BM.fP}{p c:Nat}{a b:Nat}(h1:bZ.length=D.length)(h2:cq.length=D.length)(hp:p<D.length)(h: ∀k,0<k->k<D.length->bZ.getD k 0<k/\(D.getD k BM.d0).1=(D.getD (bZ.getD k 0) BM.d0).1++[cq.getD k 0]):
  ∀k,0<k->k<(D++[((D.getD p BM.d0).1++[c],a,b)]).length->(bZ++[p]).getD k 0<k/\((D++[((D.getD p BM.d0).1++[c],a,b)]).getD k BM.d0).1=((D++[((D.getD p BM.d0).1++[c],a,b)]).getD ((bZ++[p]).getD k 0) BM.d0).1++[(cq++[c]).getD k 0]:=by
 intro k k1 k2;rw[dS,zW]at k2;by_cases q:k<D.length
 ·fin2
 ·have:k=D.length:=by lia
  subst this;rw[BM.AW,<-h1,BM.xT,h1,<-h2,BM.xT,BM.on hp];lk
section
variable{P:bj}{w:a_}{K:aP}{mg:Str->Option au}{base:Heap}{ad:Ad}
inductive ao9(CM:ag)(vs:List V)(H:Hp)(Q:VK)(z4:XK):Prop|mk:∀(p1 d1 uR rF tj wY:ag)(qh:bp)(ss:aj)(mr:aZ)(M:o8)(p2 d2 wZ w4 uS zI:ag)(uT:bp)(tt:aj)(nr:aZ)(N:o8),vs=[.ref p1,.ref p2]->jG CM H p1 d1 uR rF tj wY qh ss mr M->jG CM H p2 d2 wZ w4 uS zI uT tt nr N->(∀(H':Hp),al H H'->(QT M N=none->Q .aX H')/\ ∀(q:ag)(wd:aj),QT M N=some wd->LI H' q wd->H q=none->wd.length<=4096->Q (.ref q) H')->ao9 CM vs H Q z4
structure nP(CP CG:ag)(H H':Hp)(lt pp dp ps sr lb pg dg ab:ag)(ts:bp)(Ls:aj)(D:List BM.fP)(bZ cq iz:aj):Prop where
 aA:al H H'
 w6:LI H' lt Ls
 eZ:tf CP H' pp dp ps sr lb ts D bZ cq
 gS:H' pg=some (.aB CG dg (qW (.ref ab)))
 uU:LI H' ab iz
 f1:H ps=none
 f2:H sr=none
 f3:H lb=none
 f4:H ab=none
 n1:ab≠ps
 n2:ab≠sr
 n3:ab≠lb
 n4:ab≠lt
 n5:lt≠ps
 n6:lt≠sr
 n7:lt≠lb
def nP.to(h:nP CP CG H H' lt pp dp ps sr lb pg dg ab ts Ls D bZ cq iz)(s:al H' H2):nP CP CG H H2 lt pp dp ps sr lb pg dg ab ts Ls D bZ cq iz:=
 ⟨h.aA.trans s,h.w6.aA s,h.eZ.aA s,s _ _ h.gS,h.uU.aA s,h.f1,h.f2,h.f3,h.f4,h.n1,h.n2,h.n3,h.n4,h.n5,h.n6,h.n7⟩
def nP.aab(h:nP CP CG H H' lt pp dp ps sr lb pg dg ab ts Ls D bZ cq iz)(b:Bt ab H' H2)(hl:LI H2 ab ao_):nP CP CG H H2 lt pp dp ps sr lb pg dg ab ts Ls D bZ cq ao_:=by
 have ni: ∀{c C d:ag}{fs:List (Str×V)},H' c=some (.aB C d fs)->c≠ab:=λe=>bx e h.uU (by intro z;cases z);have nt: ∀{c:ag}{xs:List V},H' c=some (.aE xs)->c≠ab:=λe=>bx e h.uU (by intro z;cases z);exact⟨λc o e=>b _ _ (aF e h.f4) (h.aA _ _ e),b _ _ h.n4.symm h.w6,⟨b _ _ (ni h.eZ.obj) h.eZ.obj,b _ _ h.n1.symm h.eZ.af,h.eZ.len,λi t e=>b _ _ (nt (h.eZ.aE i t e)) (h.eZ.aE i t e),b _ _ h.n2.symm h.eZ.eP,b _ _ h.n3.symm h.eZ.qg,h.eZ.n1,h.eZ.n2,h.eZ.n3⟩,b _ _ (ni h.gS) h.gS,hl,h.f1,h.f2,h.f3,h.f4,h.n1,h.n2,h.n3,h.n4,h.n5,h.n6,h.n7⟩
def nP.add(h:nP CP CG H H' lt pp dp ps sr lb pg dg ab ts Ls D bZ cq iz)(b: ∀c o,c≠ps->c≠sr->c≠lb->H' c=some o->H2 c=some o)(hA:tf CP H2 pp dp ps sr lb ts2 D2 apa apb):nP CP CG H H2 lt pp dp ps sr lb pg dg ab ts2 Ls D2 apa apb iz:=by
 have ni: ∀{c C d:ag}{fs:List (Str×V)},H' c=some (.aB C d fs)->c≠ps/\c≠sr/\c≠lb:=λe=>⟨bx e h.eZ.af (by intro z;cases z),bx e h.eZ.eP (by intro z;cases z),bx e h.eZ.qg (by intro z;cases z)⟩
 exact⟨λc o e=>b _ _ (aF e h.f1) (aF e h.f2) (aF e h.f3) (h.aA _ _ e),b _ _ h.n5 h.n6 h.n7 h.w6,hA,b _ _ (ni h.gS).1 (ni h.gS).2.1 (ni h.gS).2.2 h.gS,b _ _ h.n1 h.n2 h.n3 h.uU,h.f1,h.f2,h.f3,h.f4,h.n1,h.n2,h.n3,h.n4,h.n5,h.n6,h.n7⟩
def apc(T:cp K mg ad):bN P w K mg base bX 4 ad.DP ad.DQ ["one","other"] (ao9 ad.dB):=by
 refine T.WJ.ok oE (λvs H Q E h=>?_) (λbB A aY s H vs Q E hr h=>?_)
 ·obtain⟨p1,d1,uR,rF,tj,wY,qh,ss,mr,M,p2,d2,wZ,w4,uS,zI,uT,tt,nr,N,rfl,_⟩:=h;rfl
 ·obtain⟨p1,d1,uR,rF,tj,wY,qh,ss,mr,M,p2,d2,wZ,w4,uS,zI,uT,tt,nr,N,rfl,hM,hN,kk⟩:=h;exists _,(aC (dF (dY vJ (bD bY (aV (pv 0)) bm) (bD bY (aV (pv 1)) bm) (dG _)) (aK (bK (cH ay))) dE) (aC (bP (i:=2) oE.nd (Vq rfl rfl T.EC rfl T.N6 (df yh (aV (pv 0)) (aV (pv 1))))) (aC (bP (i:=3) oE.nd (TF T.aiI (ao2 T) hr.m rfl T.aiJ T.ai3 .nil bE)) (aC (bP (i:=4) oE.nd (vN T.aiG (aoZ T) hr.m rfl T.aiH T.aiZ .nil bE (ak (df nu (mh (pv 0) T.d5 T.yU (y6 T) hr.m T.yT .nil bE) (mh (pv 1) T.d5 T.yU (y6 T) hr.m T.yT .nil bE)) ay))) (aC (ga (e_ (pv 4) T.p8 T.Wt (Z4 T) hr.m T.Ws .nil bE (ak bm (ak (mh (pv 0) T.d5 T.yU (y6 T) hr.m T.yT .nil bE) ay)))) (aC (bP (i:=5) oE.nd bm) (aC (pN eR (dY sv (pv 5) (d4 eX (by rfl) T.ee eI (ak (aV (pv 3)) ay)) (dG _)) (aC (bP (i:=6) oE.nd (bD bY (aV (pv 3)) (pv 5))) (aC (bP (i:=7) oE.nd (gy (aaa T) hr.m rfl T.WI T.NZ.kp T.WH .nil bE (ak (pv 0) (ak (bD TW (pv 6) bm) (ak (pv 2) ay))))) (aC (bP (i:=8) oE.nd (gy (aaa T) hr.m rfl T.WI T.NZ.kp T.WH .nil bE (ak (pv 1) (ak (bD TW (pv 6) bm) (ak (pv 2) ay))))) (aC (ib eR rfl (agW rfl T.Ig (ak (pv 2) (ak (pv 7) (ak (pv 8) ay)))) (nh rfl (dt (bU (i:=9) oE.nd) (dt (bU (i:=10) oE.nd) (dt (bU (i:=11) oE.nd) jT)))) (aK (dF (A8 (e_ (pv 4) T.p8 T.Wt (Z4 T) hr.m T.Ws .nil bE (ak (pv 10) (ak (df nu (mh (pv 0) T.d5 T.yU (y6 T) hr.m T.yT .nil bE) (pv 11)) ay)))) (aC (ga (e_ (pv 3) T.nH T.ai6 (ao5 T) hr.m T.ai5 .nil bE (ak (pv 10) (ak (pv 11) (ak (pv 5) (ak (pv 9) ay)))))) (aK (dF (dY vJ (bD bY (aV (pv 0)) (pv 10)) (bD bY (aV (pv 1)) (pv 11)) (dG _)) (aK (bK (mh (pv 3) T.nH T.ai9 (ao6 T) hr.m T.ai8 .nil bE))) dE))) dE))) (aK (Bd (i:=5) oE.nd bm (yx Ti)))))))) (aK (bK si)))))))))
  rfl'
  have iM:=hM.mG
  have iN:=hN.mG
  have fM:=iM.cT
  have fN:=iN.cT
  have fs:=BM.ip 256 ss (iM.st.1.imp λh=>d7 h) iM.st.2
  have ft:=BM.ip 256 tt (iN.st.1.imp λh=>d7 h) iN.st.2
  have tM: ∀a,a<mr.length->((M.takes.map dz).map iv)[a]?=some (iv ((M.takes.map dz).getD a 0)):=λa ha=>ca (by rw[ax,iM.xL];exact ha)
  have tN: ∀a,a<nr.length->((N.takes.map dz).map iv)[a]?=some (iv ((N.takes.map dz).getD a 0)):=λa ha=>ca (by rw[ax,iN.xL];exact ha)
  exists _,rfl,p1,_,d1,_,_,rfl,hM.obj,T.d5,T.qT,sK,tj,_,_,iv _,rfl,rfl,hM.takes.sq,bc (j:=0) (tM 0 iM.pos),_,rfl,p2,_,d2,_,_,rfl,hN.obj,T.d5,T.qT,sK,uS,_,_,iv _,rfl,rfl,hN.takes.sq,bc (j:=0) (tN 0 iN.pos),rfl,_,rfl
  refine bq (λc=>?_) (λc=>?_)
  ·have ht:=Jt.mp c
   refine⟨cX _,λq hq=>(kk _ (al.new hq)).2 q [] (BM.SG iM iN ⟨λx hx=>(by cases hx),ht,λv _ _=>cX _⟩) ao hq (cX _)⟩
  have AX:=λz=>c (Jt.mpr z)
  refine⟨_,rfl,p1,_,d1,_,_,rfl,hM.obj,T.d5,T.yQ,ED,_,rfl,p2,_,d2,_,_,rfl,hN.obj,T.d5,T.yQ,ED,uR,wZ,_,_,rfl,rfl,hM.zr,hN.zr,by rw[ax,ax];exact kr (by lia),λl1 eY=>?_⟩
  have e12:ss.map iv++tt.map iv=(ss++tt).map iv:=by simp
  rw[e12]
  have s1:=al.new (o:=.af ((ss++tt).map iv)) eY
  have aac:LI (aa H l1 (.af ((ss++tt).map iv))) l1 (ss++tt):=ao
  generalize aa H l1 (.af ((ss++tt).map iv))=H1 at s1 aac⊢
  have E7:((ss++tt).map λ(n:Nat)=>(n:Int)).map V.int=(ss++tt).map iv:=by rw[dy];rfl
  refine⟨l1,(ss++tt).map λ(n:Nat)=>(n:Int),rfl,by rw[E7];exact aac.sq,by rw[ax,dS];unfold mS;lia,λcK lt eV zo sE a9=>?_⟩
  obtain⟨Ls,zw,wR,uK⟩:=O6 eV sE
  have aad:=ao7 zw zo wR
  have hL:BM.GH ss tt Ls:=⟨aad,λx hx=>by
   rcases cN.mp ((uK x).mp hx)with h|h
   ·exact iM.st.2 x h
   ·exact iN.st.2 x h,λx=>by lk⟩
  have PM:Ls.length<=256:=BM.ip 256 Ls wR hL.lt
  rw[zw]
  have s2:=al.new (o:=.af (Ls.map iv)) a9
  have zJ:LI (aa H1 lt (.af (Ls.map iv))) lt Ls:=ao
  generalize aa H1 lt (.af (Ls.map iv))=H2 at s2 zJ⊢
  have uP:=s1.trans s2
  intro pp dp EU hdp xK
  have mk2: ∀c o,H2 c=some o->aa (aa H2 dp (.bz pp)) pp (.aB ad.fX dp []) c=some o:=λc o e=>by
   rw[aw (aF e EU),aw (aF e hdp)];exact e
  refine⟨pp,dp,rfl,ao,λH3 ps sr lb t0 b3 Ju f1 f2 f3 f4=>⟨rfl,?_⟩⟩
  have s3:al H2 H3:=λc o e=>b3 _ _ (aF e EU) (mk2 _ _ e)
  have fr: ∀{c:ag},aa (aa H2 dp (.bz pp)) pp (.aB ad.fX dp []) c=none->H2 c=none:=λ{c}e=>by
   cases e':H2 c with
   |none=>rfl
   |some o=>rw[mk2 _ _ e']at e;cases e
  have uJ:=uP.trans s3
  have oV:=hM.to uJ
  have PN:=hN.to uJ
  refine⟨_,rfl,p1,d1,_,rfl,oV.obj,qX (by x_go) _ _ _ _,p1,d1,rF,_,_,_,_,rfl,oV.obj,oV.rows.af,_,rfl,p2,d2,_,rfl,PN.obj,qX (by x_go) _ _ _ _,p2,d2,w4,_,_,_,_,rfl,PN.obj,PN.rows.af,_,_,rfl,rfl,λpg dg hpg hdg hng=>?_⟩
  have z1:(qh.map V.ref).length=mr.length:=by rw[ax,hM.rows.len]
  have z2:(uT.map V.ref).length=nr.length:=by rw[ax,hN.rows.len]
  have mk3: ∀c o,H3 c=some o->aa (aa H3 dg (.bz pg)) pg (.aB ad.lg dg []) c=some o:=λc o e=>by
   rw[aw (aF e hpg),aw (aF e hdg)];exact e
  refine⟨pg,dg,(qh.map V.ref).length+(uT.map V.ref).length,rfl,ao,by lia,λH4 ab b4 hg4 aae f5=>⟨rfl,?_⟩⟩
  rw[z1,z2]at aae
  have s4:al H3 H4:=λc o e=>b4 _ _ (aF e hpg) (mk3 _ _ e)
  have Fk:H3 ab=none:=by
   cases e':H3 ab with
   |none=>rfl
   |some o=>rw[mk3 _ _ e']at f5;cases f5
  have E8:=uJ.trans s4
  have Jv:nP ad.fX ad.lg H H4 lt pp dp ps sr lb pg dg ab [t0] Ls [BM.d0] [0] [0] (aU (mr.length+nr.length)):=
   ⟨E8,(zJ.aA s3).aA s4,Ju.aA s4,hg4,aae,uP.free (fr f1),uP.free (fr f2),uP.free (fr f3),uJ.free Fk,(aF Ju.af Fk).symm,(aF Ju.eP Fk).symm,(aF Ju.qg Fk).symm,(aF (zJ.aA s3) Fk).symm,aF zJ (fr f1),aF zJ (fr f2),aF zJ (fr f3)⟩
  have rD:=hM.to E8
  refine⟨_,rfl,pg,dg,_,rfl,Jv.gS,Ih (by x_go) _,_,rfl,p1,d1,_,rfl,rD.obj,qX (by x_go) _ _ _ _,p1,d1,rF,_,_,_,_,rfl,rD.obj,rD.rows.af,pg,dg,ab,_,mr.length+nr.length,0,(qh.map V.ref).length,rfl,Jv.gS,Jv.uU,(BM.SM _).1,by have:=iM.pos;lia,by have:=iN.pos;lia,λH5 aaf r5 b5 hl5 hU5=>?_⟩
  rw[z1]at hU5
  have hW5:=Jv.aab b5 hl5
  have Pp:BM.ia M N mr.length nr.length Ls [BM.d0] [0] [0] aaf 0 0:=BM.ia.start iM.pos iN.pos AX hU5
  exists λm σ H'=> ∃(pl:Nat)(ts:bp)(D:List BM.fP)(bZ cq iz:aj)(v6 v7 v8 v9 nI tm:Option V),σ=[some (.ref p1),some (.ref p2),some (.ref lt),some (.ref pp),some (.ref pg),some (iv pl),v6,v7,v8,v9,nI,tm]/\nP ad.fX ad.lg H H' lt pp dp ps sr lb pg dg ab ts Ls D bZ cq iz/\(BM.ia M N mr.length nr.length Ls D bZ cq iz pl 0\/(pl=D.length/\ ∀v,asB v->¬BM.gK M N v 0 0))/\D.length<=mr.length+nr.length/\m=mr.length+nr.length+1-pl,⟨_,0,[t0],[BM.d0],[0],[0],aaf,none,none,none,none,none,none,rfl,hW5,.inl Pp,(by have:=iM.pos;show 1<=_;lia),rfl⟩
  rintro m σ H6 ⟨pl,ts,D,bZ,cq,iz,v6,v7,v8,v9,nI,tm,rfl,hW,hP,hDl,rfl⟩
  exists _,rfl,_,rfl,pp,_,dp,_,_,rfl,hW.eZ.obj,T.nH,T.Eu,Ii,ps,_,rfl,.inl (aJ.of hW.eZ.af),_,_,rfl,rfl,_,rfl
  refine bq (λc=>?_) (λc=>?_)
  ·have dH:pl<D.length:=by
    have:=of_decide_eq_true c
    rw[ax,hW.eZ.len]at this
    lia
   have yE:BM.ia M N mr.length nr.length Ls D bZ cq iz pl 0:=by
    fin2
   obtain⟨t,ht⟩: ∃t,ts[pl]?=some t:=⟨_,eh (by lk)⟩
   have aag:=hW.eZ.aE pl t ht
   have wQ:=yE.eK _ (BM.xS dH)
   have hM6:=hM.to hW.aA
   have hN6:=hN.to hW.aA
   exists fun aL H'=> ∃m',m'<mr.length+nr.length+1-pl/\ ∃(pl:Nat)(ts:bp)(D:List BM.fP)(bZ cq iz:aj)(v6 v7 v8 v9 nI tm:Option V),aL=[some (.ref p1),some (.ref p2),some (.ref lt),some (.ref pp),some (.ref pg),some (iv pl),v6,v7,v8,v9,nI,tm]/\nP ad.fX ad.lg H H' lt pp dp ps sr lb pg dg ab ts Ls D bZ cq iz/\(BM.ia M N mr.length nr.length Ls D bZ cq iz pl 0\/(pl=D.length/\ ∀v,asB v->¬BM.gK M N v 0 0))/\D.length<=mr.length+nr.length/\m'=mr.length+nr.length+1-pl,fun aL H2 h=>h
   exists _,rfl,pp,_,dp,_,_,rfl,hW.eZ.obj,T.nH,T.Eu,Ii,_,rfl,ps,_,_,V.ref t,rfl,rfl,aJ.of hW.eZ.af,bc (by lk)
   refine⟨_,rfl,_,rfl,t,_,_,iv (D.getD pl BM.d0).2.1,rfl,rfl,c8.of aag,bc (j:=0) rfl,_,rfl,p1,d1,uR,rF,tj,wY,lt,qh,ss,mr,M,Ls,_,rfl,hM6,hW.w6,hL.lt,PM,wQ.2.2.2.1,λH7 q7 s7 yG Jw=>?_⟩
   have zK:=hW.to s7
   refine⟨_,rfl,_,rfl,t,_,_,iv (D.getD pl BM.d0).2.2,rfl,rfl,c8.of (s7 _ _ aag),bc (j:=1) rfl,_,rfl,p2,d2,wZ,w4,uS,zI,lt,uT,tt,nr,N,Ls,_,rfl,hN6.to s7,zK.w6,hL.lt,PM,wQ.2.2.2.2,λH8 q8 s8 pZ Jx=>?_⟩
   have hW8:=zK.to s8
   have PP:=yG.aA s8
   have hP8:=yE
   generalize qi:D.getD pl BM.d0=x0 at wQ yG pZ PP
   have k7:q7≠ab/\q7≠ps/\q7≠sr/\q7≠lb:=⟨(aF hW.uU Jw).symm,(aF hW.eZ.af Jw).symm,(aF hW.eZ.eP Jw).symm,(aF hW.eZ.qg Jw).symm⟩
   have k8:q8≠ab/\q8≠ps/\q8≠sr/\q8≠lb:=⟨(aF zK.uU Jx).symm,(aF zK.eZ.af Jx).symm,(aF zK.eZ.eP Jx).symm,(aF zK.eZ.qg Jx).symm⟩
   have pG:=hL.GJ iM iN
   exists _,rfl,_,rfl,_,rfl,lt,q7,q8,Ls.map iv,(Ls.map (M.next x0.2.1)).map iv,(Ls.map (N.next x0.2.2)).map iv,rfl,hW8.w6.sq,PP.sq,pZ.sq
   refine agX (K:=K) (a:=lt) (b:=q7) (c:=q8) (xs:=Ls.map iv) (ys:=(Ls.map (M.next x0.2.1)).map iv) (zs:=(Ls.map (N.next x0.2.2)).map iv) (by simp) (by simp)
    (λj σ H'=> ∃(ts:bp)(D:List BM.fP)(bZ cq iz:aj)(v9 nI tm:Option V),σ=[some (.ref p1),some (.ref p2),some (.ref lt),some (.ref pp),some (.ref pg),some (iv pl),some (.ref t),some (.ref q7),some (.ref q8),v9,nI,tm]/\nP ad.fX ad.lg H H' lt pp dp ps sr lb pg dg ab ts Ls D bZ cq iz/\LI H' q7 (Ls.map (M.next x0.2.1))/\LI H' q8 (Ls.map (N.next x0.2.2))/\BM.ia M N mr.length nr.length Ls D bZ cq iz pl j/\D.getD pl BM.d0=x0)
    ⟨ts,D,bZ,cq,iz,v9,nI,tm,rfl,hW8,PP,pZ,hP8,qi⟩ ?_ ?_ ?_
   ·rintro j σ H' _ ⟨_,_,_,_,_,_,_,_,_,nO,h7,h8,_⟩
    exact⟨nO.w6.sq,h7.sq,h8.sq⟩
   ·rintro j x y z Tt σ H' hx hy hz ⟨ts,D,bZ,cq,iz,v9,nI,tm,rfl,nO,h7,h8,iA,qi⟩ gj
    have hj:j<Ls.length:=by
     have:=(gm.mp hx).1
     lk
    rw[ca hj]at hx
    rw[ca (by fin2),BM.cr (by fin2),iY,<-BM.cr (d:=0) hj]at hy hz
    obtain rfl:=(bv hx).symm
    obtain rfl:=(bv hy).symm
    obtain rfl:=(bv hz).symm
    have hc:=hL.lt _ (BM.eU (d:=0) hj)
    have Fl:=(iM.next wQ.2.2.2.1 hc).2
    have hsb:=(iN.next wQ.2.2.2.2 hc).2
    have st:=al.new (o:=.aE [iv (Ls.getD j 0),iv (M.next x0.2.1 (Ls.getD j 0)),iv (N.next x0.2.2 (Ls.getD j 0))]) gj
    exists Tt,_,rfl,c8.of ao,rfl,_,_,rfl,_,_,rfl,_,_,rfl,rfl
    generalize aa H' Tt (.aE [iv (Ls.getD j 0),iv (M.next x0.2.1 (Ls.getD j 0)),iv (N.next x0.2.2 (Ls.getD j 0))])=H9 at st⊢
    have zM:=nO.to st
    have PQ:=hM.to zM.aA
    have hN9:=hN.to zM.aA
    have aah:D.length<=mr.length+nr.length:=by have:=iA.AV;lia
    refine⟨_,rfl,pg,dg,_,rfl,zM.gS,Ih (by x_go) _,_,rfl,_,rfl,p1,d1,_,rfl,PQ.obj,qX (by x_go) _ _ _ _,p1,d1,rF,_,_,_,_,rfl,PQ.obj,PQ.rows.af,_,rfl,_,_,rfl,rfl,pg,dg,ab,iz,mr.length+nr.length,M.next x0.2.1 (Ls.getD j 0),(qh.map V.ref).length+N.next x0.2.2 (Ls.getD j 0),rfl,zM.gS,zM.uU,iA.uf,by lia,by lia,λHA atK r bA hlA hU=>?_⟩
    rw[z1]at hU
    have Jy:=zM.aab bA hlA
    have h7A:LI HA q7 _:=bA _ _ k7.1 (h7.aA st)
    have h8A:LI HA q8 _:=bA _ _ k8.1 (h8.aA st)
    rw[<-qi]at hU Fl hsb
    exists _,rfl
    refine bq (λc=>?_) (λc=>?_)
    ·subst c
     refine⟨_,rfl,pp,dp,_,rfl,Jy.eZ.obj,Xa (by x_go) _ _ _,_,rfl,_,rfl,_,rfl,_,rfl,pp,dp,ps,sr,lb,ts,D,bZ,cq,x0.1++[Ls.getD j 0],_,_,pl,_,rfl,Jy.eZ,by lia,by rw[iA.rZ];lia,by rw[iA.cq];lia,λHB tB fB hAB=>?_⟩
     have w8:=Jy.add fB hAB
     have h7B:LI HB q7 _:=fB _ _ k7.2.1 k7.2.2.1 k7.2.2.2 h7A
     have h8B:LI HB q8 _:=fB _ _ k8.2.1 k8.2.2.1 k8.2.2.2 h8A
     have hMB:=hM.to w8.aA
     have hNB:=hN.to w8.aA
     exists _,rfl,p1,_,d1,_,_,rfl,hMB.obj,T.d5,T.qT,sK,_,rfl,tj,_,_,iv _,rfl,rfl,hMB.takes.sq,bc (tM _ (by lk)),_,rfl,p2,_,d2,_,_,rfl,hNB.obj,T.d5,T.qT,sK,_,rfl,uS,_,_,iv _,rfl,rfl,hNB.takes.sq,bc (tN _ (by lk)),rfl,_,rfl
     refine bq (λc=>?_) (λc=>?_)
     ·have ht:=Jt.mp c
      rw[<-qi]at ht
      have hF:=iA.found iM iN rfl rfl hL hj ht pG
      rw[qi]at hF
      have Js:=ao8 (c:=Ls.getD j 0) (a:=M.next x0.2.1 (Ls.getD j 0)) (b:=N.next x0.2.2 (Ls.getD j 0)) iA.rZ iA.cq iA.jp iA.GF
      rw[qi]at Js
      refine⟨_,rfl,pp,dp,_,rfl,w8.eZ.obj,Xa (by x_go) _ _ _,pp,dp,ps,sr,lb,_,_,_,_,rfl,w8.eZ,by simp,by rw[dS,zW];lia,by rw[dS,dS,iA.rZ];rfl,by rw[dS,dS,iA.cq];rfl,?_,Js,λHC q sC hq oW E_=>?_⟩
      ·rw[BM.on (by have:=iA.jp;lia),iA.zero];rfl
      ·rw[dS,zW,Nat.add_sub_cancel,BM.AW]at hq E_
       exact(kk HC (w8.aA.trans sC)).2 q _ (BM.SG iM iN hF) hq (w8.aA.free oW) E_
     ·have ht:¬BM.gK M N [] (M.next x0.2.1 (Ls.getD j 0)) (N.next x0.2.2 (Ls.getD j 0)):=λz=>c (Jt.mpr z)
      rw[<-qi]at ht
      have hPB:=iA.add aad hL.lt hj Fl hsb hU ht
      rw[qi]at hPB
      exists _,_,_,_,_,some (iv (Ls.getD j 0)),some (iv (M.next x0.2.1 (Ls.getD j 0))),some (iv (N.next x0.2.2 (Ls.getD j 0))),rfl,w8,h7B,h8B,hPB
      rw[BM.on iA.jp];exact qi
    ·have c':r=false:=by lk
     subst c'
     exact⟨_,_,_,_,_,some (iv (Ls.getD j 0)),some (iv (M.next x0.2.1 (Ls.getD j 0))),some (iv (N.next x0.2.2 (Ls.getD j 0))),rfl,Jy,h7A,h8A,iA.skip hj Fl hU,qi⟩
   ·rintro σ H' ⟨ts,D,bZ,cq,iz,v9,nI,tm,rfl,nO,h7,h8,iA,qi⟩
    rw[ax]at iA
    have aah:D.length<=mr.length+nr.length:=by have:=iA.AV;lia
    have atL:=iA.jp
    refine⟨_,rfl,_,_,rfl,rfl,mr.length+nr.length+1-(pl+1),by lia,pl+1,ts,D,bZ,cq,iz,_,_,_,_,_,_,rfl,nO,?_,aah,rfl⟩
    by_cases q:pl+1<D.length
    ·exact .inl (iA.next q pG)
    ·exact .inr ⟨by lia,iA.none q pG⟩
  ·have mq:D.length<=pl:=by
    have:¬(((pl:Nat):Int)<(((ts.map V.ref).length:Nat):Int)):=λz=>c (decide_eq_true z)
    rw[ax,hW.eZ.len]at this
    lia
   rcases hP with h|h
   ·exact absurd h.jp (by lia)
   ·exact(kk H6 hW.aA).1 (BM.adO iM iN h.2)
end
end Bp
namespace Bp
open PySem PySem.Spec PyProof.Rows L2
open Sw15 (countsAt)
def fc(Mu:bp)(H:Hp):Hp:=λb=>if b∈Mu then none else H b
def oX(h:H b=some o)(n:b∉Mu):fc Mu H b=some o:=by unfold fc;lk
def lU(h:fc Mu H b=some o):b∉Mu/\H b=some o:=by
 unfold fc at h;lk
def tw:al (fc Mu H) H:=λb o e=>(lU e).2
inductive uV(ad:Ad)(Mu:bp)(H:Hp):V->V->bp->Option o8->Prop
 |none:uV ad Mu H .aX .aX [] none
 |l7 {pm dm bC am at_ bG:ag} {br:bp} {ss:aj} {mr:aZ} {M:o8}:jG ad.dB (fc Mu H) pm dm bC am at_ bG br ss mr M->uV ad Mu H (.ref pm) .aX [] (some M)
 |w9 {pm dm bC am at_ bG:ag} {br:bp} {ss:aj} {mr:aZ} {M:o8} {pc dc wp wl lw cl kd:ag} {cM:bp} {a b m:Nat} {ks:aj}:jG ad.dB (fc Mu H) pm dm bC am at_ bG br ss mr M->H pc=some (.aB ad.cW dc (gh (.ref wp) (.ref wl) (.ref lw) (.ref cl)))->LI H wl ((aU (a+1)).map λi=>BM.d9 ((countsAt M i).getD 0 0))->LI (fc Mu H) lw ((countsAt M a).map BM.d9)->H cl=some (.af (cM.map V.ref))->cM.length=b+1->(∀(i:Nat)(c:ag),cM[i]?=some c->LI (fc Mu H) c ((countsAt M i).map BM.cB))->dk ad.cb ad.b0 mr.length (fc Mu H) 8 wp kd ks m (BM.dW ss mr ss.length)->a<=4096->b<=4096->uV ad Mu H (.ref pm) (.ref pc) [pc,wl,cl] (some M)
structure ef(ad:Ad)(Mu:bp)(H:Hp)(pd dd tk st:ag)(ts:bp)(vm vc:V)(ex:bp)(x:kM):Prop where
 obj:H pd=some (.aB ad.c9 dd (dv (.ref tk) (.ref st) vm vc))
 bw:LI H tk (x.drawing.takes.map dz)
 dw:uC H st ts x.drawing.steps
 ms:uV ad Mu H vm vc ex x.machine
 nd:(pd::tk::st::ex).Nodup
 sub: ∀c∈pd::tk::st::ex,c∈Mu
def uV.to{ad:Ad}(h:uV ad Mu H vm vc ex om)(s:al (fc Mu H) (fc nQ H'))(e: ∀c∈ex,∀o,H c=some o->H' c=some o):uV ad nQ H' vm vc ex om:=by
 cases h with
 |none=>exact .none
 |l7 a=>exact .l7 (a.to s)
 |w9 a b c d f g i j k l=>exact .w9 (a.to s) (e _ (by simp) _ b) (e _ (by simp) _ c) (d.aA s) (e _ (by simp) _ f) g (λx y z=>(i x y z).aA s) (j.aA s) k l
def ef.to{ad:Ad}{pd dd tk st:ag}(h:ef ad Mu H pd dd tk st ts vm vc ex x)(s:al (fc Mu H) (fc nQ H'))(e: ∀c∈pd::tk::st::ex,∀o,H c=some o->H' c=some o)(et: ∀c xs,H c=some (.aE xs)->H' c=some (.aE xs))(hs: ∀c∈pd::tk::st::ex,c∈nQ):ef ad nQ H' pd dd tk st ts vm vc ex x:=
 ⟨e _ (by simp) _ h.obj,e _ (by simp) _ h.bw,⟨e _ (by simp) _ h.dw.af,h.dw.len,λi c y e1 e2=>et _ _ (h.dw.at_ i c y e1 e2)⟩,h.ms.to s λc hc o he=>e _ (by simp[hc]) _ he,h.nd,hs⟩
def PR(s:al H H'):al (fc Mu H) (fc Mu H'):=λb o e=>oX (s _ _ (lU e).2) (lU e).1
def ef.new{ad:Ad}{pd dd tk st:ag}(h:ef ad Mu H pd dd tk st ts vm vc ex x)(s:al H H'):ef ad Mu H' pd dd tk st ts vm vc ex x:=
 h.to (PR s) (λc _ o e=>s _ _ e) (λc xs e=>s _ _ e) h.sub
def dq(ad:Ad)(H:Hp)(pd dd tk st:ag)(ex aD:bp)(x:kM)(zs:List Int)(Q:VK):Prop:= ∀H' ts vm vc t6 q,(∀c o,c∉pd::tk::st::ex->H c=some o->H' c=some o)->ef ad (pd::tk::st::t6++aD) H' pd dd tk st ts vm vc t6 x->(∀c∈t6,c∈ex\/H c=none)->H' q=some (.af (zs.map V.int))->H q=none->Q (.ref q) H'
section
variable{P:bj}{w:a_}{K:aP}{mg:Str->Option au}{base:Heap}{ad:Ad}
def iW{pd dd tk st:ag}{ex aD:bp}(k:dq ad H pd dd tk st ex aD x zs Q)(h:ef ad (pd::tk::st::ex++aD) H pd dd tk st ts vm vc ex x)(hq:H q=none)(e:xs=zs.map V.int):Q (.ref q) (aa H q (.af xs)):=
 k _ ts vm vc ex q (λc o _ he=>al.new hq _ _ he) (h.new (al.new hq)) (λc hc=>.inl hc) (by rw[e];exact ao) hq
def apd:Sp:=λvs H Q _=>(∃m:Nat,vs=[.aX,iv m]/\ ∀q,H q=none->Q (.ref q) (aa H q (.af [.int (-1)])))\/ ∃a wd m,vs=[.ref a,iv m]/\LI H a wd/\wd.length<=4096/\∀H' q,al H H'->H' q=some (.af (V.int (wd.length:Nat)::(wd.take m).map iv))->H q=none->Q (.ref q) H'
def ape(ns:List V)(m:Nat):k5 ns none (some (m:Int))=ns.take m:=by
 unfold k5;rw[HT.G7,HT.yc,QV,ar8];simp
def aai(T:cp K mg ad):bN P w K mg base bX 1 ad.Em ad.En ["word","most"] apd:=by
 refine T.N5.ok aiF (λvs H Q E h=>?_) (λbB A aY s H vs Q E hr h=>?_)
 ·rcases h with⟨m,rfl,_⟩|⟨a,wd,m,rfl,_⟩<;>rfl
 ·exists _,(aC (dF (ng (qE (pv 0))) (aK (bK (cH (ak (dD rfl T.akO) ay)))) dE) (aK (bK (df yh (cH (ak (d4 eX (by rfl) T.ee eI (ak (pv 0) ay)) ay)) (yd yf (pv 0) Bn (vO (pv 1)))))))
  rfl'
  rcases h with⟨m,rfl,k⟩|⟨a,wd,m,rfl,ha,hl,k⟩
  ·exists _,rfl,_,rfl;refine gA ?_;exact⟨(cA rfl),λq hq=>k q hq⟩
  ·exists _,rfl,_,rfl;refine iR ?_;refine⟨_,rfl,a,_,rfl,.inl ha.sq,(cA rfl),λl1 eY=>?_⟩;have s1:=al.new (o:=.af [V.int (((wd.map iv).length:Nat):Int)]) eY;have h1:aa H l1 (.af [V.int (((wd.map iv).length:Nat):Int)]) l1=_:=ao;generalize aa H l1 (.af [V.int (((wd.map iv).length:Nat):Int)])=H1 at s1 h1⊢;refine⟨_,rfl,_,rfl,_,rfl,a,_,rfl,(ha.aA s1).sq,λl2 ed=>?_⟩;rw[ape];have s2:=al.new (o:=.af ((wd.map iv).take m)) ed;have h2:aa H1 l2 (.af ((wd.map iv).take m)) l2=_:=ao;generalize aa H1 l2 (.af ((wd.map iv).take m))=H2 at s2 h2⊢;refine⟨l1,l2,_,_,rfl,rfl,s2 _ _ h1,h2,?_,λq hq=>?_⟩
   ·rw[il,ax];exact kr (by show 1+_<=_;lia)
   have dQ:=s1.trans s2;refine k _ q (dQ.trans (al.new hq)) ?_ (dQ.free hq);rw[ao,ax,<-abN];rfl
end
end Bp
namespace Bp
open PySem PySem.Spec PyProof.Rows L2
open Sw15 (within)
def lv:within z a b=true↔a<=z/\z<=b:=by
 unfold Sw15.within;simp
def Fn(a b c d:V):(dv a b c d).length<1000:=by rw[amj];decide
section
variable{P:bj}{w:a_}{K:aP}{mg:Str->Option au}{base:Heap}{ad:Ad}
inductive aaj(C:ag)(vs:List V)(H:Hp)(Q:VK)(z4:XK):Prop|mk:∀pd dd tk b vm vc l z,vs=[.ref pd,.int z]->H pd=some (.aB C dd (dv (.ref tk) b vm vc))->H tk=some (.af l)->Q (.bl (decide (0<=z)&&decide (z<((l.length:Nat):Int)))) H->aaj C vs H Q z4
def aak(T:cp K mg ad):bN P w K mg base bX 1 ad.Do ad.Dq ["self","state"] (aaj ad.c9):=by
 refine T.ajN.ok aiu (λvs H Q E h=>?_) (λbB A aY s H vs Q E hr h=>?_)
 ·obtain⟨pd,dd,tk,b,vm,vc,l,z,rfl,_⟩:=h
  rfl
 ·obtain⟨pd,dd,tk,b,vm,vc,l,z,rfl,hp,hl,k⟩:=h;refine⟨_,(aK (bK (aeO mf sv bm (pv 1) (d4 eX (by rfl) T.ee eI (ak (aV (pv 0)) ay))))),_,rfl,_,_,rfl,rfl,_,rfl,bq (λc=>?_) (λc=>?_)⟩
  ·exists _,rfl,pd,_,dd,_,_,rfl,hp,T.b_,T.yS,EF,tk,_,rfl,.inl (aJ.of hl),_,_,rfl,rfl;lk
  ·lk
inductive aal(C:ag)(vs:List V)(H:Hp)(Q:VK)(z4:XK):Prop|mk:∀pd dd a b vm vc,vs=[.ref pd]->H pd=some (.aB C dd (dv a b vm vc))->Q .aX (aa H pd (.aB C dd (dv a b .aX .aX)))->aal C vs H Q z4
def aam(T:cp K mg ad):bN P w K mg base bX 1 ad.Dr ad.Ds ["self"] (aal ad.c9):=by
 refine T.ajO.ok aiv (λvs H Q E h=>?_) (λbB A aY s H vs Q E hr h=>?_)
 ·grind[aal]
 ·obtain⟨pd,dd,a,b,vm,vc,rfl,hp,k⟩:=h;exists _,(aC (eQ (pv 0) si rfl) (aK (eQ (pv 0) si rfl)))
  rfl'
  exists _,rfl,pd,_,dd,_,rfl,hp,T.b_,T.eC,Fn _ _ _ _;rw[Ob];exists _,rfl,pd,_,dd,_,rfl,ao,T.b_,T.wB,Fn _ _ _ _;rw[Xl,qB];exact k
inductive aan(C:ag)(vs:List V)(H:Hp)(Q:VK)(z4:XK):Prop|mk:∀p dx,vs=[.ref p]->H p=some (.aB C dx [])->(∀H' tk st,Bt p H H'->H' p=some (.aB C dx (dv (.ref tk) (.ref st) .aX .aX))->LI H' tk []->H' st=some (.af [])->H tk=none->H st=none->tk≠st->Q .aX H')->aan C vs H Q z4
def apf(T:cp K mg ad):bN P w K mg base bX 1 ad.Dm ad.Dn ["self"] (aan ad.c9):=by
 refine T.ajL.ok ait (λvs H Q E h=>?_) (λbB A aY s H vs Q E hr h=>?_)
 ·grind[aan]
 ·obtain⟨p,dx,rfl,hp,k⟩:=h;exists _,(aC (eQ (pv 0) (cH ay) rfl) (aC (eQ (pv 0) (cH ay) rfl) (aC (eQ (pv 0) si rfl) (aK (eQ (pv 0) si rfl)))))
  rfl'
  refine⟨cX _,λtk lu=>?_⟩;have s1:=al.new (o:=.af []) lu;have gE:LI (aa H tk (.af [])) tk []:=ao;have apg:=lu;generalize aa H tk (.af [])=H1 at s1 gE⊢;have di:=s1 _ _ hp;exists _,rfl,p,_,dx,_,rfl,di,T.b_,T.yS,(by simp);have b2:=Bt.aa p H1 (.aB ad.c9 dx (aM "taking" (.ref tk) []));have cC:aa H1 p (.aB ad.c9 dx (aM "taking" (.ref tk) [])) p=_:=ao;generalize aa H1 p (.aB ad.c9 dx (aM "taking" (.ref tk) []))=H2 at b2 cC⊢;refine⟨cX _,λst bW=>?_⟩;have s3:=al.new (o:=.af []) bW;have IU:aa H2 st (.af []) st=some (.af []):=ao;have Jz:=bx gE di (by intro z;cases z);have nts:=aF (b2 _ _ Jz gE) bW;have PU:st≠p:=λe=>by lk
  have aph:H st=none:=by
   cases e:H st with
   |none=>rfl
   |some o=>rw[b2 _ _ PU (s1 _ _ e)]at bW;cases bW
  generalize aa H2 st (.af [])=H3 at s3 IU⊢;exists _,rfl,p,_,dx,_,rfl,s3 _ _ cC,T.b_,T.Ib,(by show 1<1000;decide),_,rfl,p,_,dx,_,rfl,ao,T.b_,T.eC,y4;rw[qB];exists _,rfl,p,_,dx,_,rfl,ao,T.b_,T.wB,Iu;rw[qB,ami];have b4:=Bt.aa p H3 (.aB ad.c9 dx (dv (.ref tk) (.ref st) .aX .aX));exact k _ tk st (((al.bt s1 p).trans b2).trans ((al.bt s3 p).trans b4)) ao (b4 _ _ Jz (s3 _ _ (b2 _ _ Jz gE))) (b4 _ _ PU IU) apg aph nts
inductive api(ad:Ad)(vs:List V)(H:Hp)(Q:VK)(z4:XK):Prop|mk:∀pd dd tk st ts vm vc ex aD x z,vs=[.ref pd,.int z]->ef ad (pd::tk::st::ex++aD) H pd dd tk st ts vm vc ex x->x.drawing.takes.length<=64->(within z 0 1=false->dq ad H pd dd tk st ex aD x [-2] Q)->(within z 0 1=true->x.drawing.takes.length=64->dq ad H pd dd tk st ex aD x [-1] Q)->(within z 0 1=true->x.drawing.takes.length≠64->dq ad H pd dd tk st ex aD ⟨{x.drawing with takes:=x.drawing.takes++[z==1]},none⟩ [((x.drawing.takes.length:Nat):Int)] Q)->api ad vs H Q z4
def apj(T:cp K mg ad):bN P w K mg base bX 2 ad.Dt ad.Du ["self","takes"] (api ad):=by
 refine T.ajP.ok aiw (λvs H Q E h=>?_) (λbB A aY s H vs Q E hr h=>?_)
 ·obtain⟨pd,dd,tk,st,ts,vm,vc,ex,aD,x,z,rfl,_⟩:=h;rfl
 ·obtain⟨pd,dd,tk,st,ts,vm,vc,ex,aD,x,z,rfl,hD,hn,k1,k2,k3⟩:=h;exists _,(aC (dF (PW.pt (GU (dY vJ (pv 1) bm (dG _)) (LA (dY vJ (pv 1) bm (dG _))))) (aK (bK (cH (ak (dD rfl T.wC) ay)))) dE) (aC (dF (dY me (d4 eX (by rfl) T.ee eI (ak (aV (pv 0)) ay)) (dD rfl T.akQ) (dG _)) (aK (bK (cH (ak (dD rfl T.W6) ay)))) dE) (aC (ga (ic iB jJ j0 jy (aV (pv 0)) (ak (pv 1) ay))) (aC (ga (mh (pv 0) T.b_ T.WE (aam T) hr.m T.WD .nil bE)) (aK (bK (cH (ak (df vI (d4 eX (by rfl) T.ee eI (ak (aV (pv 0)) ay)) bm) ay))))))))
  rfl'
  have uW:(¬z=0)->(¬z=1)->within z 0 1=false:=λh0 h1=>by
   cases e:within z 0 1 with
   |false=>rfl
   |true=>have:=lv.mp e;lia
  have jP: ∀{xs:List V}{zs:List Int},xs=zs.map V.int->dq ad H pd dd tk st ex aD x zs Q-> ∀q,H q=none->Q (.ref q) (aa H q (.af xs)):=λe k q hq=>iW k hD hq e;have hne:tk≠pd/\st≠pd/\tk≠st:=by
   have:=hD.nd
   fin2
  exists _,rfl,rfl,_,rfl
  by_cases hz:z=0\/z=1
  ·have hw:within z 0 1=true:=lv.mpr (by lia)
   have ez:V.int z=iv (z==1).toNat:=by rcases hz with rfl|rfl<;>rfl
   have k2:=k2 hw
   have k3:=k3 hw
   clear k1 uW hw
   have e0:z=0->(!decide (V.int z=V.int 0))=false:=λe=>by rw[e];simp
   have e1:z=1->(!decide (V.int z=V.int 0))=true:=λe=>by rw[e];decide
   have e2:z=1->(!decide (V.int z=V.int 1))=false:=λe=>by rw[e];simp
   rcases hz with hz|hz
   rw[e0 hz]
   refine iR (iR ?_)
   rotate_left
   rw[e1 hz]
   refine gA ⟨_,rfl,rfl,_,rfl,?_⟩
   rw[e2 hz]
   refine iR ?_
   all_goals
    exists _,rfl,pd,_,dd,_,_,rfl,hD.obj,T.b_,T.yS,EF,tk,_,rfl,.inl hD.bw.sq,rfl,_,rfl
    refine bq (λc=>?_) (λc=>?_)
    ·have hl:x.drawing.takes.length=64:=by
      fin2
     exact⟨(cA rfl),λq hq=>jP rfl (k2 hl) q hq⟩
    ·have hl:x.drawing.takes.length≠64:=λe=>c (decide_eq_true (by lk))
     refine⟨_,rfl,pd,_,dd,_,_,rfl,hD.obj,T.b_,T.yS,EF,.inl ⟨rfl,_,hD.bw.sq⟩,_,rfl,tk,_,_,rfl,rfl,hD.bw,by rw[ax,ax];exact cz (by lia),?_⟩
     rw[ez]
     have b1:=Bt.aa tk H (.af ((x.drawing.takes.map dz).map iv++[iv (z==1).toNat]))
     have gE:LI (aa H tk (.af ((x.drawing.takes.map dz).map iv++[iv (z==1).toNat]))) tk ((x.drawing.takes++[z==1]).map dz):=by show aa _ _ _ _=_;rw[ao,bI,bI];rfl
     generalize aa H tk (.af ((x.drawing.takes.map dz).map iv++[iv (z==1).toNat]))=H1 at b1 gE⊢
     have di:=b1 _ _ hne.1.symm hD.obj
     exists _,rfl,pd,dd,_,rfl,di,mD (by x_go) _ _ _ _,pd,dd,_,_,_,_,rfl,di
     have b2:=Bt.aa pd H1 (.aB ad.c9 dd (dv (.ref tk) (.ref st) .aX .aX))
     have cC:aa H1 pd (.aB ad.c9 dd (dv (.ref tk) (.ref st) .aX .aX)) pd=_:=ao
     generalize aa H1 pd (.aB ad.c9 dd (dv (.ref tk) (.ref st) .aX .aX))=H2 at b2 cC⊢
     have lr:LI H2 tk _:=b2 _ _ hne.1 gE
     have el:(((((x.drawing.takes++[z==1]).map dz).map iv).length:Nat):Int)-1=((x.drawing.takes.length:Nat):Int):=by simp
     refine⟨_,rfl,pd,_,dd,_,_,rfl,cC,T.b_,T.yS,EF,tk,_,rfl,.inl lr.sq,_,_,rfl,rfl,(cA rfl),λq hq=>?_⟩
     dsimp only
     rw[el]
     have up: ∀c o,c≠pd->c≠tk->H c=some o->H2 c=some o:=λc o n1 n2 e=>b2 _ _ n1 (b1 _ _ n2 e)
     have sq:=al.new (o:=.af [V.int ((x.drawing.takes.length:Nat):Int)]) hq
     have nt: ∀{c:ag}{xs:List V},H c=some (.aE xs)->c≠pd/\c≠tk:=λe=>⟨bx e hD.obj (by intro z;cases z),bx e hD.bw (by intro z;cases z)⟩
     have fq:H q=none:=by
      cases e:H q with
      |none=>rfl
      |some o=>
       have n1:q≠pd:=λe=>by lk
       have n2:q≠tk:=λe=>by rw[e,lr]at hq;cases hq
       lk
     refine k3 hl _ ts .aX .aX [] q (λc o nc e=>?_) ⟨sq _ _ cC,lr.aA sq,⟨sq _ _ (up _ _ hne.2.1 hne.2.2.symm hD.dw.af),hD.dw.len,λi c y h1 h2=>sq _ _ (up _ _ (nt (hD.dw.at_ i c y h1 h2)).1 (nt (hD.dw.at_ i c y h1 h2)).2 (hD.dw.at_ i c y h1 h2))⟩,.none,?_,λc hc=>?_⟩ (λc hc=>by cases hc) ao fq
     ·simp only[cO,not_or]at nc
      exact sq _ _ (up _ _ nc.1 nc.2.1 e)
     ·fin2
     ·fin2
  ·have h0:¬z=0:=λe=>hz (.inl e)
   have h1:¬z=1:=λe=>hz (.inr e)
   have e0:(!decide (V.int z=V.int 0))=true:=by lk
   have e1:(!decide (V.int z=V.int 1))=true:=by lk
   rw[e0]
   refine gA ⟨_,rfl,rfl,_,rfl,?_⟩
   rw[e1]
   refine gA ?_
   exact⟨(cA rfl),λq hq=>jP rfl (k1 (uW h0 h1)) q hq⟩
noncomputable def w_(n:Nat)(a l h b:Int):Bool:=within a 0 ((n:Int)-1)&&(within b 0 ((n:Int)-1)&&(within l 0 255&&within h l 255))
def aao:w_ n a l h b=true↔(0<=a/\a<n)/\(0<=l/\l<=h/\h<256)/\0<=b/\b<n:=by
 unfold w_;rw[eA,eA,eA,lv,lv,lv,lv];omega
inductive apk(ad:Ad)(vs:List V)(H:Hp)(Q:VK)(z4:XK):Prop|mk:∀pd dd tk st ts vm vc ex aD x a l h b,vs=[.ref pd,.int a,.int l,.int h,.int b]->ef ad (pd::tk::st::ex++aD) H pd dd tk st ts vm vc ex x->x.drawing.steps.length<=1024->(w_ x.drawing.takes.length a l h b=false->dq ad H pd dd tk st ex aD x [-2] Q)->(w_ x.drawing.takes.length a l h b=true->x.drawing.steps.length=1024->dq ad H pd dd tk st ex aD x [-1] Q)->(w_ x.drawing.takes.length a l h b=true->x.drawing.steps.length≠1024->dq ad H pd dd tk st ex aD ⟨{x.drawing with steps:=x.drawing.steps++[⟨a.toNat,l.toNat,h.toNat,b.toNat⟩]},none⟩ [0] Q)->apk ad vs H Q z4
def apl(T:cp K mg ad):bN P w K mg base bX 2 ad.Dv ad.Dx ["self","source","low","high","target"] (apk ad):=by
 refine T.ajS.ok aix (λvs H Q E h=>?_) (λbB A aY s H vs Q E hr h=>?_)
 ·obtain⟨pd,dd,tk,st,ts,vm,vc,ex,aD,x,a,l,h,b,rfl,_⟩:=h;rfl
 ·obtain⟨pd,dd,tk,st,ts,vm,vc,ex,aD,x,a,l,h,b,rfl,hD,hn,k1,k2,k3⟩:=h;exists _,(aC (dF (vD (PW.pt (GU (A8 (e_ (pv 0) T.b_ T.WC (aak T) hr.m T.WB .nil bE (ak (pv 1) ay))) (GU (ahz mf mf sv bm (pv 2) (pv 3) (dD rfl T.Ie)) (LA (A8 (e_ (pv 0) T.b_ T.WC (aak T) hr.m T.WB .nil bE (ak (pv 4) ay)))))))) (aK (bK (cH (ak (dD rfl T.wC) ay)))) dE) (aC (dF (dY me (d4 eX (by rfl) T.ee eI (ak (aV (pv 0)) ay)) (dD rfl T.akR) (dG _)) (aK (bK (cH (ak (dD rfl T.W6) ay)))) dE) (aC (ga (ic iB jJ j0 jy (aV (pv 0)) (ak (G5 (ak (pv 1) (ak (pv 2) (ak (pv 3) (ak (pv 4) ay))))) ay))) (aC (ga (mh (pv 0) T.b_ T.WE (aam T) hr.m T.WD .nil bE)) (aK (bK (cH (ak bm ay))))))))
  rfl'
  have jP: ∀{xs:List V}{zs:List Int},xs=zs.map V.int->dq ad H pd dd tk st ex aD x zs Q-> ∀q,H q=none->Q (.ref q) (aa H q (.af xs)):=λe k q hq=>iW k hD hq e
  have hne:tk≠pd/\st≠pd/\tk≠st:=by
   have:=hD.nd
   fin2
  have cS:(((x.drawing.takes.map dz).map iv).length:Nat)=x.drawing.takes.length:=by simp
  have uW:=λz=>k1 (by
   cases e:w_ x.drawing.takes.length a l h b with
   |false=>rfl
   |true=>exact absurd (aao.mp e) z)
  exists _,rfl,pd,dd,_,rfl,hD.obj,mD (by x_go) _ _ _ _,_,rfl,pd,dd,tk,_,_,_,_,a,rfl,hD.obj,hD.bw,_,rfl
  rw[cS]
  refine bq (λc1=>?_) (λc1=>?_)
  case refine_2=>
   refine gA (A:=_) (B:=_) ?_
   exact⟨(cA rfl),λq hq=>jP rfl (uW λz=>c1 (by lk)) q hq⟩
  rw[eA,decide_eq_true_eq,decide_eq_true_eq]at c1
  exists _,rfl,_,_,rfl,rfl,_,rfl
  refine bq (λc2=>?_) (λc2=>?_)
  case refine_2=>
   exists _,rfl
   refine iR (gA ?_)
   exact⟨(cA rfl),λq hq=>jP rfl (uW λz=>c2 (decide_eq_true z.2.1.1)) q hq⟩
  exists _,rfl,_,_,rfl,rfl,_,rfl
  refine bq (λc3=>?_) (λc3=>?_)
  case refine_2=>
   exists _,rfl
   refine iR (gA ?_)
   exact⟨(cA rfl),λq hq=>jP rfl (uW λz=>c3 (decide_eq_true z.2.1.2.1)) q hq⟩
  exists _,_,rfl,rfl,_,rfl
  refine bq (λc4=>?_) (λc4=>?_)
  case refine_2=>
   refine gA ?_
   exact⟨(cA rfl),λq hq=>jP rfl (uW λz=>c4 (decide_eq_true z.2.1.2.2)) q hq⟩
  exists _,rfl,pd,dd,_,rfl,hD.obj,mD (by x_go) _ _ _ _,_,rfl,pd,dd,tk,_,_,_,_,b,rfl,hD.obj,hD.bw,_,rfl
  rw[cS]
  refine bq (λc5=>?_) (λc5=>?_)
  ·refine⟨(cA rfl),λq hq=>jP rfl (uW λz=>?_) q hq⟩
   lk
  have hb:0<=b/\b<x.drawing.takes.length:=by
   cases e:(decide (0<=b)&&decide (b<((x.drawing.takes.length:Nat):Int)))with
   |true=>rw[eA,decide_eq_true_eq,decide_eq_true_eq]at e;exact e
   |false=>rw[e]at c5;exact absurd rfl c5
  have h2:=of_decide_eq_true c2
  have h3:=of_decide_eq_true c3
  have h4:=of_decide_eq_true c4
  have gI:=aao.mpr ⟨c1,⟨h2,h3,h4⟩,hb⟩
  have eN: ∀z:Int,0<=z->V.int z=iv z.toNat:=λz hz=>by unfold iv;rw[abt hz]
  exists _,rfl,pd,_,dd,_,_,rfl,hD.obj,T.b_,T.Ib,Oa,st,_,rfl,.inl (aJ.of hD.dw.af),rfl,_,rfl
  refine bq (λc=>?_) (λc=>?_)
  ·have hl:x.drawing.steps.length=1024:=by
    have:=V.int.inj (of_decide_eq_true c)
    rw[ax,hD.dw.len]at this
    lia
   exact⟨(cA rfl),λq hq=>jP rfl (k2 gI hl) q hq⟩
  have hl:x.drawing.steps.length≠1024:=λe=>c (decide_eq_true (by rw[ax,hD.dw.len,e];rfl))
  refine⟨_,rfl,pd,_,dd,_,_,rfl,hD.obj,T.b_,T.Ib,Oa,.inl ⟨rfl,_,aJ.of hD.dw.af⟩,_,rfl,_,rfl,_,rfl,_,rfl,(cA rfl),λt ht=>?_⟩
  rw[eN a c1.1,eN l h2,eN h (by lia),eN b hb.1]at*
  have s1:=al.new (o:=.aE [iv a.toNat,iv l.toNat,iv h.toNat,iv b.toNat]) ht
  have gE:aa H t (.aE [iv a.toNat,iv l.toNat,iv h.toNat,iv b.toNat]) t=some (.aE [iv a.toNat,iv l.toNat,iv h.toNat,iv b.toNat]):=ao
  generalize aa H t (.aE [iv a.toNat,iv l.toNat,iv h.toNat,iv b.toNat])=H1 at s1 gE⊢
  refine⟨st,_,_,rfl,rfl,s1 _ _ hD.dw.af,by rw[ax,hD.dw.len];exact cz (by lia),?_⟩
  have b2:=Bt.aa st H1 (.af (ts.map V.ref++[V.ref t]))
  have gL:aa H1 st (.af (ts.map V.ref++[V.ref t])) st=some (.af ((ts++[t]).map V.ref)):=by rw[ao,bI];rfl
  generalize aa H1 st (.af (ts.map V.ref++[V.ref t]))=H2 at b2 gL⊢
  have cC:=b2 _ _ hne.2.1.symm (s1 _ _ hD.obj)
  exists _,rfl,pd,dd,_,rfl,cC,mD (by x_go) _ _ _ _,pd,dd,_,_,_,_,rfl,cC
  have b3:=Bt.aa pd H2 (.aB ad.c9 dd (dv (.ref tk) (.ref st) .aX .aX))
  have ii:aa H2 pd (.aB ad.c9 dd (dv (.ref tk) (.ref st) .aX .aX)) pd=_:=ao
  generalize aa H2 pd (.aB ad.c9 dd (dv (.ref tk) (.ref st) .aX .aX))=H3 at b3 ii⊢
  have yl:=b3 _ _ hne.2.1 gL
  refine⟨(cA rfl),λq hq=>?_⟩
  have up: ∀c o,c≠pd->c≠st->H1 c=some o->H3 c=some o:=λc o n1 n2 e=>b3 _ _ n1 (b2 _ _ n2 e)
  have sq:=al.new (o:=.af [V.int 0]) hq
  have nt: ∀{c:ag}{xs:List V},H1 c=some (.aE xs)->c≠pd/\c≠st:=λe=>⟨bx e (s1 _ _ hD.obj) (by intro z;cases z),bx e (s1 _ _ hD.dw.af) (by intro z;cases z)⟩
  have fq:H q=none:=by
   cases e:H q with
   |none=>rfl
   |some o=>
    have n1:q≠pd:=λe=>by lk
    have n2:q≠st:=λe=>by lia
    rw[up _ _ n1 n2 (s1 _ _ e)]at hq;cases hq
  refine k3 gI hl _ (ts++[t]) .aX .aX [] q (λc o nc e=>?_) ⟨sq _ _ ii,sq _ _ (up _ _ hne.1 hne.2.2 (s1 _ _ hD.bw)),⟨sq _ _ yl,by rw[dS,dS,hD.dw.len];rfl,λi c y e1 e2=>?_⟩,.none,?_,λc hc=>?_⟩ (λc hc=>by cases hc) ao fq
  ·simp only[cO,not_or]at nc
   exact sq _ _ (up _ _ nc.1 nc.2.2.1 (s1 _ _ e))
  ·by_cases hi:i<ts.length
   ·rw[FB hi]at e1
    rw[FB (by rw[<-hD.dw.len];exact hi)]at e2
    have h':=s1 _ _ (hD.dw.at_ i c y e1 e2)
    exact sq _ _ (up _ _ (nt h').1 (nt h').2 h')
   ·have h_:i=ts.length:=by
     have:=(gm.mp e1).1
     rw[dS,zW]at this
     lia
    subst h_
    rw[JO (aW _),Ki]at e1
    rw[JO (by rw[hD.dw.len];lia),hD.dw.len,Ki]at e2
    obtain rfl:=bv (show some t=some c from e1)
    obtain rfl:=bv (show some _=some y from e2)
    exact sq _ _ (up _ _ (nt gE).1 (nt gE).2 gE)
  ·fin2
  ·fin2
def jG.JA(h:jG CM H p dx bC am at_ bG br ss mr M):(br.map V.ref).length=M.size:=by rw[ax,h.rows.len,h.mG.size]
def ef.nT{pd dd tk st:ag}(h:ef ad Mu H pd dd tk st ts vm vc ex x): ∀c∈pd::tk::st::ex,c_ H c:=λc hc=>by
 rcases cO.mp hc with rfl|hc
 ·exact .inr ⟨_,_,_,h.obj⟩
 rcases cO.mp hc with rfl|hc
 ·exact .inl ⟨_,h.bw⟩
 rcases cO.mp hc with rfl|hc
 ·exact .inl ⟨_,h.dw.af⟩
 obtain⟨d,om⟩:=x;have hm:=h.ms
 cases hm with
 |none=>cases hc
 |l7 _=>cases hc
 |w9 a b c' d f g i j k l=>
  simp only[cO,rO,or_false]at hc;rcases hc with rfl|rfl|rfl
  ·exact .inr ⟨_,_,_,b⟩
  ·exact .inl ⟨_,c'⟩
  ·exact .inl ⟨_,f⟩
inductive apm(ad:Ad)(vs:List V)(H:Hp)(Q:VK)(z4:XK):Prop|mk:∀pd dd tk st ts vm vc ex aD x,vs=[.ref pd]->ef ad (pd::tk::st::ex++aD) H pd dd tk st ts vm vc ex x->(∀c∈aD,c_ H c)->ab_ x.drawing->x.drawing.takes.length<=64->(∀M,x.machine=some M->Kd x.drawing=some M)->(Kd x.drawing=none->dq ad H pd dd tk st ex aD ⟨x.drawing,none⟩ [-3] Q)->(∀M,Kd x.drawing=some M->dq ad H pd dd tk st ex aD ⟨x.drawing,some M⟩ [((M.size:Nat):Int)] Q)->apm ad vs H Q z4
def apn(T:cp K mg ad):bN P w K mg base bX 7 ad.Dy ad.Dz ["self"] (apm ad):=by
 refine T.ajV.ok aiy (λvs H Q E h=>?_) (λbB A aY s H vs Q E hr h=>?_)
 ·obtain⟨pd,dd,tk,st,ts,vm,vc,ex,aD,x,rfl,_⟩:=h;rfl
 ·obtain⟨pd,dd,tk,st,ts,vm,vc,ex,aD,x,rfl,hD,hR,hG,hn,JB,k1,k2⟩:=h;exists _,(aC (dF (ng (qE (aV (pv 0)))) (aK (eQ (pv 0) (gy (aod T) hr.m rfl T.akC T.WX.kp T.akB .nil bE (ak (aV (pv 0)) (ak (aV (pv 0)) ay))) rfl)) dE) (aC (dF (ng (qE (aV (pv 0)))) (aK (bK (cH (ak (dD rfl T.akP) ay)))) dE) (aK (bK (cH (ak (mh (aV (pv 0)) T.d5 T.yU (y6 T) hr.m T.yT .nil bE) ay))))))
  rfl'
  have Fo:=hD.nT;have PV: ∀c∈pd::tk::st::ex++aD,c_ H c:=λc hc=>by
   fin2
  have hne:tk≠pd/\st≠pd:=by
   have:=hD.nd;fin2
  obtain⟨⟨takes,steps⟩,om⟩:=x;have ms:=hD.ms
  cases ms with
  |none=>
   refine⟨_,rfl,pd,_,dd,_,_,rfl,hD.obj,T.b_,T.eC,fk,_,rfl,gA ?_⟩;refine⟨_,rfl,pd,_,dd,_,_,rfl,hD.obj,T.b_,T.yS,EF,_,rfl,pd,_,dd,_,_,rfl,hD.obj,T.b_,T.Ib,Oa,tk,st,ts,⟨takes,steps⟩,rfl,hD.bw,hD.dw,hG,hn,λH1 s1=>⟨λhm=>?_,λpm dm bC am at_ bG br ss mr M hm wH hMs=>?_⟩⟩
   ·exists _,rfl,pd,_,dd,_,rfl,s1 _ _ hD.obj,T.b_,T.eC,Fn _ _ _ _;rw[Ob];have b2:=Bt.aa pd H1 (.aB ad.c9 dd (dv (.ref tk) (.ref st) .aX .aX));have cC:aa H1 pd (.aB ad.c9 dd (dv (.ref tk) (.ref st) .aX .aX)) pd=_:=ao;generalize aa H1 pd (.aB ad.c9 dd (dv (.ref tk) (.ref st) .aX .aX))=H2 at b2 cC⊢;refine⟨_,rfl,pd,_,dd,_,_,rfl,cC,T.b_,T.eC,fk,_,rfl,gA ⟨(cA rfl),λq hq=>?_⟩⟩;have up: ∀c o,c≠pd->H c=some o->H2 c=some o:=λc o n e=>b2 _ _ n (s1 _ _ e);have sq:=al.new (o:=.af [V.int (-3)]) hq;have fq:H q=none:=by
     cases e:H q with
     |none=>rfl
     |some o=>
      fin2
    have nt: ∀{c:ag}{xs:List V},H c=some (.aE xs)->c≠pd:=λe=>bx e hD.obj (by intro z;cases z);exact k1 hm _ ts .aX .aX [] q (λc o nc e=>sq _ _ (up _ _ (λz=>nc (by lk)) e)) ⟨sq _ _ cC,sq _ _ (up _ _ hne.1 hD.bw),⟨sq _ _ (up _ _ hne.2 hD.dw.af),hD.dw.len,λi c y e1 e2=>sq _ _ (up _ _ (nt (hD.dw.at_ i c y e1 e2)) (hD.dw.at_ i c y e1 e2))⟩,.none,hD.nd,hD.sub⟩ (λc hc=>by cases hc) ao fq
   ·exists _,rfl,pd,_,dd,_,rfl,s1 _ _ hD.obj,T.b_,T.eC,Fn _ _ _ _;rw[Ob];have b2:=Bt.aa pd H1 (.aB ad.c9 dd (dv (.ref tk) (.ref st) (.ref pm) .aX))
    have cC:aa H1 pd (.aB ad.c9 dd (dv (.ref tk) (.ref st) (.ref pm) .aX)) pd=_:=ao
    generalize aa H1 pd (.aB ad.c9 dd (dv (.ref tk) (.ref st) (.ref pm) .aX))=H2 at b2 cC⊢
    have iy: ∀{c:ag},¬c_ H c->c≠pd:=λn e=>n (e▸Fo pd (eG ..))
    have mJ:=hMs H2 λc o nc e=>b2 _ _ (iy nc) e
    refine⟨_,rfl,pd,_,dd,_,_,rfl,cC,T.b_,T.eC,fk,_,rfl,iR ?_⟩
    refine⟨_,rfl,pd,_,dd,_,_,rfl,cC,T.b_,T.eC,fk,pm,dm,_,rfl,mJ.obj,qX (by x_go) _ _ _ _,pm,dm,am,_,_,_,_,rfl,mJ.obj,mJ.rows.af,(cA rfl),λq hq=>?_⟩
    rw[mJ.JA]
    have up: ∀c o,c≠pd->H c=some o->H2 c=some o:=λc o n e=>b2 _ _ n (s1 _ _ e)
    have sq:=al.new (o:=.af [V.int ((M.size:Nat):Int)]) hq
    have fq:H q=none:=by
     cases e:H q with
     |none=>rfl
     |some o=>
      fin2
    have nt: ∀{c:ag}{xs:List V},H c=some (.aE xs)->c≠pd:=λe=>bx e hD.obj (by intro z;cases z)
    exact k2 M hm _ ts (.ref pm) .aX [] q (λc o nc e=>sq _ _ (up _ _ (λz=>nc (by lk)) e)) ⟨sq _ _ cC,sq _ _ (up _ _ hne.1 hD.bw),⟨sq _ _ (up _ _ hne.2 hD.dw.af),hD.dw.len,λi c y e1 e2=>sq _ _ (up _ _ (nt (hD.dw.at_ i c y e1 e2)) (hD.dw.at_ i c y e1 e2))⟩,.l7 (hMs _ λc o nc e=>oX (sq _ _ (b2 _ _ (iy nc) e)) λz=>nc (PV c z)),hD.nd,hD.sub⟩ (λc hc=>by cases hc) ao fq
  |@l7 pm dm bC am at_ bG br ss mr M hM=>
   refine⟨_,rfl,pd,_,dd,_,_,rfl,hD.obj,T.b_,T.eC,fk,_,rfl,iR ?_⟩
   refine⟨_,rfl,pd,_,dd,_,_,rfl,hD.obj,T.b_,T.eC,fk,_,rfl,iR ?_⟩
   have qf:=hM.to tw
   refine⟨_,rfl,pd,_,dd,_,_,rfl,hD.obj,T.b_,T.eC,fk,pm,dm,_,rfl,qf.obj,qX (by x_go) _ _ _ _,pm,dm,am,_,_,_,_,rfl,qf.obj,qf.rows.af,(cA rfl),λq hq=>?_⟩
   exact iW (k2 M (JB M rfl)) hD hq (by rw[hM.JA];rfl)
  |@w9 pm dm bC am at_ bG br ss mr M pc dc wp wl lw cl kd cM a b m ks hM h2 h3 h4 h5 h6 h7 h8 h9 h10=>
   refine⟨_,rfl,pd,_,dd,_,_,rfl,hD.obj,T.b_,T.eC,fk,_,rfl,iR ?_⟩
   refine⟨_,rfl,pd,_,dd,_,_,rfl,hD.obj,T.b_,T.eC,fk,_,rfl,iR ?_⟩
   have qf:=hM.to tw
   refine⟨_,rfl,pd,_,dd,_,_,rfl,hD.obj,T.b_,T.eC,fk,pm,dm,_,rfl,qf.obj,qX (by x_go) _ _ _ _,pm,dm,am,_,_,_,_,rfl,qf.obj,qf.rows.af,(cA rfl),λq hq=>?_⟩
   exact iW (k2 M (JB M rfl)) hD hq (by rw[hM.JA];rfl)
def ef.zN{pd dd tk st:ag}(h:ef ad Mu H pd dd tk st ts vm vc ex x)(e:x.machine=none):vm=.aX:=by
 have hm:=h.ms;rw[e]at hm
 cases hm;rfl
def ef.zO{pd dd tk st:ag}(h:ef ad Mu H pd dd tk st ts vm vc ex x)(e:x.machine=some M): ∃pm dm bC am at_ bG br ss mr,vm=.ref pm/\jG ad.dB (fc Mu H) pm dm bC am at_ bG br ss mr M:=by
 have hm:=h.ms;rw[e]at hm
 cases hm with
 |l7 a=>exact⟨_,_,_,_,_,_,_,_,_,rfl,a⟩
 |w9 a=>exact⟨_,_,_,_,_,_,_,_,_,rfl,a⟩
def JC(h:0<=z): ∃i:Nat,z=((i:Nat):Int):=⟨z.toNat,(abt h).symm⟩
inductive apo(ad:Ad)(vs:List V)(H:Hp)(Q:VK)(z4:XK):Prop|mk:∀pd dd tk st pw ts vm vc ex aD x z ws,vs=[.ref pd,.int z,.ref pw]->ef ad (pd::tk::st::ex++aD) H pd dd tk st ts vm vc ex x->LI H pw ws->(∀c∈ws,c<256)->(within z 0 65536=false->dq ad H pd dd tk st ex aD x [-2] Q)->(within z 0 65536=true->x.machine=none->dq ad H pd dd tk st ex aD x [-4] Q)->(∀M,within z 0 65536=true->x.machine=some M->dq ad H pd dd tk st ex aD x [if M.accepts ws=true then 1 else 0] Q)->apo ad vs H Q z4
theorem aap{ss:aj}{mr:aZ}{M:o8}(h:BM.cZ ss mr M): ∀ws q,(∀c∈ws,c<256)->q<mr.length->sN ss mr q ws=ws.foldl M.next q
 |[],q,_,_=>rfl
 |c::ws,q,hw,hq=>by
  have hn:=h.next hq (hw c (eG ..));show sN ss mr ((mr.getD q []).getD ((BM.dU ss).getD c 0) 0) ws=ws.foldl M.next (M.next q c);rw[<-hn.1];exact aap h ws _ (λx hx=>hw x (e5 _ hx)) hn.2
def apq(T:cp K mg ad):bN P w K mg base bX 2 ad.DF ad.DG ["self","length","word"] (apo ad):=by
 refine T.aj2.ok aiB (λvs H Q E h=>?_) (λbB A aY s H vs Q E hr h=>?_)
 ·obtain⟨pd,dd,tk,st,pw,ts,vm,vc,ex,aD,x,z,ws,rfl,_⟩:=h;rfl
 ·obtain⟨pd,dd,tk,st,pw,ts,vm,vc,ex,aD,x,z,ws,rfl,hD,EH,Iw,k1,k2,k3⟩:=h;exists _,(aC (dF (vD (Bi mf mf bm (pv 1) (dD rfl T.akS))) (aK (bK (cH (ak (dD rfl T.wC) ay)))) dE) (aC (dF (ng (qE (aV (pv 0)))) (aK (bK (cH (ak (dD rfl T.EA) ay)))) dE) (aK (bK (cH (ak (e_ (aV (pv 0)) T.d5 T.ajh (amo T) hr.m T.ajg .nil bE (ak (pv 2) ay)) ay))))))
  rfl'
  have wf:¬(0<=z/\z<=65536)->within z 0 65536=false:=λn=>by
   cases e:within z 0 65536 with
   |false=>rfl
   |true=>exact absurd (lv.mp e) n
  refine⟨_,rfl,_,_,rfl,rfl,_,rfl,bq (λc1=>?_) (λc1=>?_)⟩
  case refine_2=>
   refine⟨_,rfl,gA ⟨(cA rfl),λq hq=>iW (k1 (wf λh=>c1 (decide_eq_true h.1))) hD hq rfl⟩⟩
  refine⟨_,_,rfl,rfl,_,rfl,bq (λc2=>?_) (λc2=>?_)⟩
  ·refine⟨(cA rfl),λq hq=>iW (k1 (wf λh=>?_)) hD hq rfl⟩;lk
  have hz:=lv.mpr ⟨of_decide_eq_true c1,by
   cases e:decide (z<=65536)with
   |true=>exact of_decide_eq_true e
   |false=>rw[e]at c2;exact absurd rfl c2⟩
  cases em:x.machine with
  |none=>
   obtain rfl:=hD.zN em;refine⟨_,rfl,pd,_,dd,_,_,rfl,hD.obj,T.b_,T.eC,fk,_,rfl,gA ⟨(cA rfl),λq hq=>iW (k2 hz em) hD hq rfl⟩⟩
  |some M=>
   obtain⟨pm,dm,bC,am,at_,bG,br,ss,mr,rfl,oY⟩:=hD.zO em
   have hM:=oY.to tw
   have hI:=hM.mG
   refine⟨_,rfl,pd,_,dd,_,_,rfl,hD.obj,T.b_,T.eC,fk,_,rfl,iR ?_⟩
   refine⟨_,rfl,pd,_,dd,_,_,rfl,hD.obj,T.b_,T.eC,fk,pm,dm,_,rfl,hM.obj,qX (by x_go) _ _ _ _,_,rfl,pm,dm,am,at_,bG,pw,_,br,ss,mr,M.takes.map dz,ws,rfl,hM.obj,hM.dU,hI.xM,λc hc=>hI.AQ hc,hM.rows,hI.pos,hI.jO,hI.d8,hM.takes,by rw[ax,hI.xL],EH,Iw,(cA rfl),λq hq=>iW (k3 M hz em) hD hq ?_⟩
   rw[aap hI ws 0 Iw hI.pos,Fj]
   show[iv (M.takes.getD (M.at_ ws) false).toNat]=[V.int (if M.takes.getD (M.at_ ws) false=true then 1 else 0)]
   cases M.takes.getD (M.at_ ws) false<;>rfl
def apr{pd dd tk st:ag}{ex aD:bp}(k:dq ad H pd dd tk st ex aD x zs Q)(h:ef ad (pd::tk::st::ex++aD) H pd dd tk st ts vm vc ex x)(s:al H H')(hq:H' q=none)(e:xs=zs.map V.int):Q (.ref q) (aa H' q (.af xs)):=
 k _ ts vm vc ex q (λc o _ he=>al.new hq _ _ (s _ _ he)) ((h.new s).new (al.new hq)) (λc hc=>.inl hc) (by rw[e];exact ao) (s.free hq)
inductive aps(ad:Ad)(vs:List V)(H:Hp)(Q:VK)(z4:XK):Prop|mk:∀(pd dd tk st:ag)(ts:bp)(vm vc:V)(ex aD:bp)(x:kM)(z:Int),vs=[.ref pd,.int z]->ef ad (pd::tk::st::ex++aD) H pd dd tk st ts vm vc ex x->(x.machine=none->dq ad H pd dd tk st ex aD x [-4] Q)->(∀M,x.machine=some M->within z 0 ((M.size:Int)-1)=false->dq ad H pd dd tk st ex aD x [-2] Q)->(∀M,x.machine=some M->within z 0 ((M.size:Int)-1)=true->dq ad H pd dd tk st ex aD x (0::(M.rows.getD z.toNat []++[(M.takes.getD z.toNat false).toNat]).map λ(n:Nat)=>(n:Int)) Q)->aps ad vs H Q z4
def apt(T:cp K mg ad):bN P w K mg base bX 2 ad.DA ad.DB ["self","state"] (aps ad):=by
 refine T.ajY.ok aiz (λvs H Q E h=>?_) (λbB A aY s H vs Q E hr h=>?_)
 ·obtain⟨pd,dd,tk,st,ts,vm,vc,ex,aD,x,z,rfl,_⟩:=h;rfl
 ·obtain⟨pd,dd,tk,st,ts,vm,vc,ex,aD,x,z,rfl,hD,k1,k2,k3⟩:=h;exists _,(aC (dF (ng (qE (aV (pv 0)))) (aK (bK (cH (ak (dD rfl T.EA) ay)))) dE) (aC (dF (vD (Bi mf sv bm (pv 1) (mh (aV (pv 0)) T.d5 T.yU (y6 T) hr.m T.yT .nil bE))) (aK (bK (cH (ak (dD rfl T.wC) ay)))) dE) (aK (bK (df yh (df yh (cH (ak bm ay)) (e_ (aV (pv 0)) T.d5 T.aje (amn T) hr.m T.ajd .nil bE (ak (pv 1) ay))) (cH (ak (bD bY (aV (aV (pv 0))) (pv 1)) ay)))))))
  rfl'
  cases em:x.machine with
  |none=>
   obtain rfl:=hD.zN em;refine⟨_,rfl,pd,_,dd,_,_,rfl,hD.obj,T.b_,T.eC,fk,_,rfl,gA ⟨(cA rfl),λq hq=>iW (k1 em) hD hq rfl⟩⟩
  |some M=>
   have k2:=k2 M em;have k3:=k3 M em;obtain⟨pm,dm,bC,am,at_,bG,br,ss,mr,rfl,oY⟩:=hD.zO em;have hM:=oY.to tw;have hI:=hM.mG;have wf:¬(0<=z/\z<(M.size:Int))->within z 0 ((M.size:Int)-1)=false:=λn=>by
    cases e:within z 0 ((M.size:Int)-1)with
    |false=>rfl
    |true=>have:=lv.mp e;exact absurd (by omega) n
   refine⟨_,rfl,pd,_,dd,_,_,rfl,hD.obj,T.b_,T.eC,fk,_,rfl,iR ?_⟩;exists _,rfl,_,_,rfl,rfl,_,rfl;refine bq (λc1=>?_) (λc1=>?_)
   case refine_2=>
    refine⟨_,rfl,gA ⟨(cA rfl),λq hq=>iW (k2 (wf λh=>c1 (decide_eq_true h.1))) hD hq rfl⟩⟩
   exists _,rfl,pd,_,dd,_,_,rfl,hD.obj,T.b_,T.eC,fk,pm,dm,_,rfl,hM.obj,qX (by x_go) _ _ _ _,pm,dm,am,_,_,_,_,rfl,hM.obj,hM.rows.af,_,_,rfl,rfl,_,rfl;rw[hM.JA];refine bq (λc2=>?_) (λc2=>?_)
   ·refine⟨(cA rfl),λq hq=>iW (k2 (wf λh=>?_)) hD hq rfl⟩;lk
   have h0:=of_decide_eq_true c1;have h1:z<(M.size:Int):=by
    cases e:decide (z<((M.size:Nat):Int))with
    |true=>exact of_decide_eq_true e
    |false=>rw[e]at c2;exact absurd rfl c2
   have k3:=k3 (lv.mpr (by omega));obtain⟨i,rfl⟩:=JC h0;have hi:i<mr.length:=by rw[<-hI.size];omega
   refine⟨(cA rfl),λl1 eY=>?_⟩;have s1:=al.new (o:=.af [V.int 0]) eY
   have g1:aa H l1 (.af [V.int 0]) l1=_:=ao
   generalize aa H l1 (.af [V.int 0])=H1 at s1 g1⊢
   have jF:=hD.new s1
   have mI:=hM.to s1
   refine⟨_,rfl,pd,_,dd,_,_,rfl,jF.obj,T.b_,T.eC,fk,pm,dm,_,rfl,mI.obj,qX (by x_go) _ _ _ _,_,rfl,pm,dm,am,bG,_,_,br,ss,mr,i,rfl,mI.obj,mI.dU,hI.xM,λc hc=>hI.AQ hc,mI.rows,hi,hI.jO i hi,λH2 q2 s2 gB hf2=>?_⟩
   have ra:(BM.cY ss (mr.getD i [])).length=256:=by rw[<-hI.row hi];exact hI.Sj hi
   refine⟨l1,q2,_,_,rfl,rfl,s2 _ _ g1,gB,by rw[ax,ra];exact kr (by room),λl3 iS=>?_⟩
   have s3:=al.new (o:=.af ([V.int 0]++(BM.cY ss (mr.getD i [])).map iv)) iS
   have g3:aa H2 l3 (.af ([V.int 0]++(BM.cY ss (mr.getD i [])).map iv)) l3=_:=ao
   generalize aa H2 l3 (.af ([V.int 0]++(BM.cY ss (mr.getD i [])).map iv))=H3 at s3 g3⊢
   have qb:=(s1.trans s2).trans s3
   have Ix:=hD.new qb
   have oV:=hM.to qb
   have jY:i<(M.takes.map dz).length:=by rw[ax,hI.xL];exact hi
   refine⟨_,rfl,pd,_,dd,_,_,rfl,Ix.obj,T.b_,T.eC,fk,pm,_,dm,_,_,rfl,oV.obj,T.d5,T.qT,sK,_,rfl,at_,_,_,iv _,rfl,rfl,oV.takes.sq,bc (ca jY),(cA rfl),λl4 PL=>?_⟩
   have s4:=al.new (o:=.af [iv ((M.takes.map dz).getD i 0)]) PL
   have g4:aa H3 l4 (.af [iv ((M.takes.map dz).getD i 0)]) l4=_:=ao
   generalize aa H3 l4 (.af [iv ((M.takes.map dz).getD i 0)])=H4 at s4 g4⊢
   refine⟨l3,l4,_,_,rfl,rfl,s4 _ _ g3,g4,by rw[dS,ax,ra];exact kr (by simp),λq hq=>apr k3 hD (qb.trans s4) hq ?_⟩
   rw[jf,hI.row hi,Fj,gF,dy,bI]
   rfl
end
end Bp
namespace Bp
open PySem PySem.Spec PyProof.Rows L2
open Sw15 (within countsAt)
section
variable{P:bj}{w:a_}{K:aP}{mg:Str->Option au}{base:Heap}{ad:Ad}
def apu(l:List Bool):(l.map dz).map BM.d9=l.map dz:=by
 rw[dy];apply fy;intro b _
 cases b<;>rfl
def apv(l:List Bool):(l.map dz).map BM.cB=l.map dz:=by
 rw[dy];apply fy;intro b _
 cases b<;>rfl
def apw(l:List Bool)(i:Nat):BM.d9 ((l.map dz).getD i 0)=(l.map dz).getD i 0:=by
 rw[Fj]
 cases l.getD i false<;>rfl
def PX(h:jG ad.dB (fc Mu H) pm dm bC am at_ bG br ss mr M):nN ad.dB (λc=>c∈Mu) H pm dm bC am at_ bG br ss mr M:=λH2 b2=>h.to λc o e=>b2 _ _ (lU e).1 (lU e).2
def apx(h:nN ad.dB (λc=>c∈Mu) H pm dm bC am at_ bG br ss mr M):jG ad.dB (fc Mu H) pm dm bC am at_ bG br ss mr M:=h _ λc o n e=>oX e n
def aaq(hM:nN ad.dB (λc=>c∈Mu) H pm dm bC am at_ bG br ss mr M)(h:f7 ad.cW ad.cb ad.b0 (λc=>c∈Mu) H pc dx wp wl lw cl cM ss mr M a b)(ha:a<=4096)(hb:b<=4096):uV ad Mu H (.ref pm) (.ref pc) [pc,wl,cl] (some M):=by
 obtain⟨kd,ks,m,hp⟩:=h.eW;refine .w9 (apx hM) h.obj h.wr (oX h.wT h.wU) h.hX.af (by rw[h.hX.len,ax,iX]) (λi c ec=>oX ?_ (h.sY c (eF ec))) (hp _ λc o n e=>oX e n) ha hb;have:=h.hX.at_ i c ec;have hi:i<b+1:=by
  have:=(gm.mp ec).1;rwa[h.hX.len,ax,iX]at this
 rwa[BM.cr (by lk),iY,xg]at this
def aar(h1:H pc=some (.aB ad.cW dc (gh (.ref wp) (.ref wl) (.ref lw) (.ref cl))))(h2:LI H wl ((aU (a+1)).map λi=>BM.d9 ((countsAt M i).getD 0 0)))(h3:LI (fc Mu H) lw ((countsAt M a).map BM.d9))(h4:H cl=some (.af (cM.map V.ref)))(h5:cM.length=b+1)
  (h6: ∀i c,cM[i]?=some c->LI (fc Mu H) c ((countsAt M i).map BM.cB))(h7:dk ad.cb ad.b0 mr.length (fc Mu H) 8 wp kd ks m (BM.dW ss mr ss.length))(ho: ∀c∈Mu,c_ H c)(s1:pc∈Mu)(s2:wl∈Mu)(s3:cl∈Mu)(hn:wl≠cl):f7 ad.cW ad.cb ad.b0 (λc=>c∈Mu) H pc dc wp wl lw cl cM ss mr M a b:=by
 refine⟨h1,h2,h3.aA tw,⟨h4,by lk,λi c ec=>?_⟩,⟨kd,ks,m,λH2 b2=>h7.aA λc o e=>b2 _ _ (lU e).1 (lU e).2⟩,λc hc=>(ho c hc).there,s1,s2,s3,(lU h3).1,λc hc=>?_,hn⟩
 ·have hi:i<b+1:=by
   fin2
  rw[BM.cr (by lk),iY,xg];exact(h6 i c ec).aA tw
 ·obtain⟨i,hi,e⟩:=kD hc;exact(lU (h6 i c (by rw[eh hi,e]))).1
inductive apy(ad:Ad)(vs:List V)(H:Hp)(Q:VK)(z4:XK):Prop|mk:∀pd dd tk st ts vm vc ex aD x M,vs=[.ref pd]->ef ad (pd::tk::st::ex++aD) H pd dd tk st ts vm vc ex x->(∀c∈aD,c_ H c)->x.machine=some M->(∀H' pm dm bC am at_ bG pc dc wp wl lw cl br cM ss mr a b,(∀c o,c∉pd::tk::st::ex->H c=some o->H' c=some o)->vm=.ref pm->ef ad (pd::tk::st::[pc,wl,cl]++aD) H' pd dd tk st ts vm (.ref pc) [pc,wl,cl] x->(∀c∈[pc,wl,cl],c∈ex\/H c=none)->(∀c∈ex,c∈[pc,wl,cl])->nN ad.dB (λc=>c∈pd::tk::st::[pc,wl,cl]++aD) H' pm dm bC am at_ bG br ss mr M->f7 ad.cW ad.cb ad.b0 (λc=>c∈pd::tk::st::[pc,wl,cl]++aD) H' pc dc wp wl lw cl cM ss mr M a b->a<=4096->b<=4096->Q (.ref pc) H')->apy ad vs H Q z4
def aas(T:cp K mg ad):bN P w K mg base bX 7 ad.DC ad.DE ["self"] (apy ad):=by
 refine T.aj1.ok aiA (λvs H Q E h=>?_) (λbB A aY s H vs Q E hr h=>?_)
 ·obtain⟨pd,dd,tk,st,ts,vm,vc,ex,aD,x,M,rfl,_⟩:=h;rfl
 ·obtain⟨pd,dd,tk,st,ts,vm,vc,ex,aD,x,M,rfl,hD,hR,JB,kk⟩:=h;exists _,(aC (dF (ng (qE (aV (pv 0)))) (aK (eQ (pv 0) (vN T.aiQ (aoK T) hr.m rfl T.aiR T.ajo .nil bE (ak (aV (pv 0)) ay)) rfl)) dE) (aK (bK (aV (pv 0)))))
  rfl'
  have Fo:=hD.nT;have PV: ∀c∈pd::tk::st::ex++aD,c_ H c:=λc hc=>by
   fin2
  have dL:=hD.nd;obtain⟨d,om⟩:=x;obtain rfl:om=some M:=JB;have ms:=hD.ms
  cases ms with
  |@l7 pm dm bC am at_ bG br ss mr _ oY=>
   have hM:=oY.to tw;refine⟨_,rfl,pd,_,dd,_,_,rfl,hD.obj,T.b_,T.wB,Ip,_,rfl,gA ?_⟩;refine⟨_,rfl,pd,_,dd,_,_,rfl,hD.obj,T.b_,T.eC,fk,λpc dc JD hdc hne=>?_⟩;have mk: ∀c o,H c=some o->aa (aa H dc (.bz pc)) pc (.aB ad.cW dc []) c=some o:=λc o e=>by
    rw[aw (aF e JD),aw (aF e hdc)];exact e
   have apz:c_ (aa (aa H dc (.bz pc)) pc (.aB ad.cW dc [])) pc:=.inr ⟨_,_,_,ao⟩;refine⟨pc,dc,pm,dm,bC,am,at_,bG,br,ss,mr,M,rfl,ao,hM.to mk,λH1 wp wl cl kd ks m b1 di oU gg fwl fcl Jm hP=>⟨rfl,?_⟩⟩;have fr: ∀{c:ag},aa (aa H dc (.bz pc)) pc (.aB ad.cW dc []) c=none->H c=none:=λ{c}e=>by
    cases e':H c with
    |none=>rfl
    |some o=>rw[mk _ _ e']at e;cases e
   have s1:al H H1:=λc o e=>b1 _ _ (aF e JD) (mk _ _ e);exists _,rfl,pd,_,dd,_,rfl,s1 _ _ hD.obj,T.b_,T.wB,Fn _ _ _ _;rw[Xl];have b2:=Bt.aa pd H1 (.aB ad.c9 dd (dv (.ref tk) (.ref st) (.ref pm) (.ref pc)));have cC:aa H1 pd (.aB ad.c9 dd (dv (.ref tk) (.ref st) (.ref pm) (.ref pc))) pd=_:=ao;generalize aa H1 pd (.aB ad.c9 dd (dv (.ref tk) (.ref st) (.ref pm) (.ref pc)))=H2 at b2 cC⊢;have iy: ∀{c:ag}{o:HO},H c=some o->c≠pc/\c≠wl/\c≠cl:=λe=>⟨aF e JD,aF e (fr fwl),aF e (fr fcl)⟩
   have dpc:=(iy hD.obj).1;have dwl:=(iy hD.obj).2.1;have dcl:=(iy hD.obj).2.2;have up: ∀c o,c≠pd->H1 c=some o->H2 c=some o:=λc o n e=>b2 _ _ n e
   have aat:=up _ _ dpc.symm di
   have aau:LI H2 wl _:=up _ _ dwl.symm oU
   have aav:=up _ _ dcl.symm gg
   have nwp:wl≠pc:=bx oU di (by intro z;cases z)
   have ncp:cl≠pc:=bx gg di (by intro z;cases z)
   simp only[jL,cO,rO,not_or,or_false,not_false_iff,Ac,and_true]at dL
   have aaw: ∀c,c∈pd::tk::st::[pc,wl,cl]++aD->c_ H c\/c=pc\/c=wl\/c=cl:=λc hc=>by
    rcases cN.mp hc with h|h
    ·simp only[cO,rO,or_false]at h
     rcases h with rfl|rfl|rfl|h
     ·exact .inl (Fo _ (by simp))
     ·exact .inl (Fo _ (by simp))
     ·exact .inl (Fo _ (by simp))
     ·exact .inr h
    ·exact .inl (hR c h)
   have apA:al (fc (pd::tk::st::[]++aD) H) (fc (pd::tk::st::[pc,wl,cl]++aD) H2):=λc o e=>by
    obtain⟨n,e⟩:=lU e
    refine oX (up _ _ (λz=>n (by rw[z];simp)) (s1 _ _ e)) λz=>?_
    rcases cN.mp z with h|h
    ·simp only[cO,rO,or_false]at h
     rcases h with rfl|rfl|rfl|rfl|rfl|rfl
     ·exact n (by simp)
     ·exact n (by simp)
     ·exact n (by simp)
     ·exact(iy e).1 rfl
     ·exact(iy e).2.1 rfl
     ·exact(iy e).2.2 rfl
    ·fin2
   have mJ:=oY.to apA
   have apB:dk ad.cb ad.b0 mr.length (fc (pd::tk::st::[pc,wl,cl]++aD) H2) 8 wp kd ks m (BM.dW ss mr ss.length):=hP _ λc o nc e=>oX (up _ _ (λz=>nc (.inl (z▸.inr ⟨_,_,_,mk _ _ hD.obj⟩))) e) λz=>by
    rcases aaw c z with h|rfl|h
    ·refine nc (.inl ?_)
     rcases h with⟨xs,h⟩|⟨C,d',fs,h⟩
     ·exact .inl ⟨xs,mk _ _ h⟩
     ·exact .inr ⟨C,d',fs,mk _ _ h⟩
    ·exact nc (.inl apz)
    ·exact nc (.inr h)
   have apC: ∀c∈pd::tk::st::[pc,wl,cl]++aD,c_ H2 c:=λc hc=>by
    rcases aaw c hc with h|rfl|rfl|rfl
    ·by_cases z:c=pd
     ·rw[z];exact .inr ⟨_,_,_,cC⟩
     ·rcases h with⟨xs,h⟩|⟨C,d',fs,h⟩
      ·exact .inl ⟨xs,up _ _ z (s1 _ _ h)⟩
      ·exact .inr ⟨C,d',fs,up _ _ z (s1 _ _ h)⟩
    ·exact .inr ⟨_,_,_,aat⟩
    ·exact .inl ⟨_,aau⟩
    ·exact .inl ⟨_,aav⟩
   have e0:(countsAt M 0)=M.takes.map dz:=rfl
   have aax:=aar (ad:=ad) (Mu:=pd::tk::st::[pc,wl,cl]++aD) (H:=H2) (cM:=[at_]) (ss:=ss) (mr:=mr) (M:=M) (a:=0) (b:=0) (lw:=at_) aat (by show LI H2 wl [BM.d9 ((M.takes.map dz).getD 0 0)];rw[apw];exact aau) (by rw[e0,apu];exact mJ.takes) aav rfl (λi c ec=>by
    match i,ec with
    |0,ec=>obtain rfl:=bv (show some at_=some c from ec);rw[e0,apv];exact mJ.takes) apB apC (by simp) (by simp) (by simp) Jm
   have nt: ∀{c:ag}{xs:List V},H c=some (.aE xs)->c≠pd:=λe=>bx e hD.obj (by intro z;cases z)
   have qZ:ef ad (pd::tk::st::[pc,wl,cl]++aD) H2 pd dd tk st ts (.ref pm) (.ref pc) [pc,wl,cl] ⟨d,some M⟩:=⟨cC,up _ _ (λe=>dL.1.1 e.symm) (s1 _ _ hD.bw),⟨up _ _ (λe=>dL.1.2 e.symm) (s1 _ _ hD.dw.af),hD.dw.len,λi c y e1 e2=>up _ _ (nt (hD.dw.at_ i c y e1 e2)) (s1 _ _ (hD.dw.at_ i c y e1 e2))⟩,aaq (PX mJ) aax (by room) (by room),by
    simp only[jL,cO,rO,not_or,or_false,not_false_iff,Ac,and_true]
    exact⟨⟨dL.1.1,dL.1.2,dpc,dwl,dcl⟩,⟨dL.2,(iy hD.bw).1,(iy hD.bw).2.1,(iy hD.bw).2.2⟩,⟨(iy hD.dw.af).1,(iy hD.dw.af).2.1,(iy hD.dw.af).2.2⟩,⟨nwp.symm,ncp.symm⟩,Jm⟩,λc hc=>jK _ hc⟩
   exists _,rfl,pd,_,dd,_,_,rfl,cC,T.b_,T.wB,Ip
   refine kk H2 pm dm bC am at_ bG pc dc wp wl at_ cl br [at_] ss mr 0 0 (λc o nc e=>?_) rfl qZ (λc hc=>?_) (λc hc=>by cases hc) (PX mJ) aax (by room) (by room)
   ·exact up _ _ (λz=>nc (by rw[z];exact eG ..)) (s1 _ _ e)
   ·simp only[cO,rO,or_false]at hc
    rcases hc with rfl|rfl|rfl
    ·exact .inr JD
    ·exact .inr (fr fwl)
    ·exact .inr (fr fcl)
  |@w9 pm dm bC am at_ bG br ss mr _ pc dc wp wl lw cl kd cM a b m ks oY h2 h3 h4 h5 h6 h7 h8 h9 h10=>
   refine⟨_,rfl,pd,_,dd,_,_,rfl,hD.obj,T.b_,T.wB,Ip,_,rfl,iR ?_⟩
   exists _,rfl,pd,_,dd,_,_,rfl,hD.obj,T.b_,T.wB,Ip
   refine kk H pm dm bC am at_ bG pc dc wp wl lw cl br cM ss mr a b (λc o _ e=>e) rfl hD (λc hc=>.inl hc) (λc hc=>hc) (PX oY) (aar h2 h3 h4 h5 h6 h7 h8 PV (by simp) (by simp) (by simp) ?_) h9 h10
   fin2
def PY{pd dd tk st pm dm bC am at_ bG pc dc wp wl lw cl q:ag}{ts ex aD br cM:bp}(k:dq ad H pd dd tk st ex aD x zs Q)(f1: ∀c o,c∉pd::tk::st::ex->H c=some o->H1 c=some o)
  (jF:ef ad (pd::tk::st::[pc,wl,cl]++aD) H1 pd dd tk st ts (.ref pm) (.ref pc) [pc,wl,cl] x)(zP: ∀c∈[pc,wl,cl],c∈ex\/H c=none)(zQ: ∀c∈ex,c∈[pc,wl,cl])(hx:x.machine=some M)(hM:nN ad.dB (λc=>c∈pd::tk::st::[pc,wl,cl]++aD) H1 pm dm bC am at_ bG br ss mr M)
  (f2:Bs (Mc pc wl cl) H1 H2)(hC:f7 ad.cW ad.cb ad.b0 (λc=>c∈pd::tk::st::[pc,wl,cl]++aD) H2 pc dc wp wl lw cl cM ss mr M a b)(ha:a<=4096)(hb:b<=4096)(s3:al H2 H3)(hq:H2 q=none)(gN:H3 q=some (.af xs))(e:xs=zs.map V.int):Q (.ref q) H3:=by
 have dL:=jF.nd;have hO:=jF.nT;simp only[jL,cO,rO,not_or,or_false,not_false_iff,Ac,and_true]at dL;obtain⟨⟨m1,m2,m3,m4,m5⟩,⟨m6,m7,m8,m9⟩,⟨n1,n2,n3⟩,_⟩:=dL;have mJ:=hM.to λH9 b9 c o nc e=>b9 _ _ nc (f2 _ _ (λz=>nc (by rcases z with rfl|rfl|rfl<;>simp)) e);have mc: ∀{c:ag},c≠pc->c≠wl->c≠cl->¬Mc pc wl cl c:=λh1 h2 h3 z=>by
  rcases z with z|z|z
  ·exact h1 z
  ·exact h2 z
  ·exact h3 z
 have nt: ∀{c:ag}{xs:List V},H1 c=some (.aE xs)->¬Mc pc wl cl c:=λe z=>by
  refine Xw e (hO _ ?_);fin2
 have MY:=f2 _ _ (mc m3 m4 m5) jF.obj;have lr:=f2 _ _ (mc m7 m8 m9) jF.bw;have gL:=f2 _ _ (mc n1 n2 n3) jF.dw.af;obtain⟨d,om⟩:=x;obtain rfl:om=some M:=hx;have qZ:ef ad (pd::tk::st::[pc,wl,cl]++aD) H2 pd dd tk st ts (.ref pm) (.ref pc) [pc,wl,cl] ⟨d,some M⟩:=⟨MY,lr,⟨gL,jF.dw.len,λi c y e1 e2=>f2 _ _ (nt (jF.dw.at_ i c y e1 e2)) (jF.dw.at_ i c y e1 e2)⟩,aaq mJ hC ha hb,jF.nd,jF.sub⟩
 have fq:H q=none:=by
  cases e':H q with
  |none=>rfl
  |some o=>
   exfalso;have no:q∉pd::tk::st::ex:=λz=>by
    have: ∃o,H2 q=some o:=by
     simp only[cO]at z;rcases z with rfl|rfl|rfl|z
     ·exact⟨_,MY⟩
     ·exact⟨_,lr⟩
     ·exact⟨_,gL⟩
     ·have:=zQ q z;simp only[cO,rO,or_false]at this;rcases this with rfl|rfl|rfl
      ·exact⟨_,hC.obj⟩
      ·exact⟨_,hC.wr⟩
      ·exact⟨_,hC.hX.af⟩
    fin2
   have nm:¬Mc pc wl cl q:=λz=>by
    fin2
   have:=f2 _ _ nm (f1 _ _ no e');rw[hq]at this;cases this
 refine k _ ts _ _ [pc,wl,cl] q (λc o nc e'=>?_) (qZ.new s3) zP (by rw[<-e];exact gN) fq;refine s3 _ _ (f2 _ _ (λz=>?_) (f1 _ _ nc e'));fin2
inductive apD(ad:Ad)(vs:List V)(H:Hp)(Q:VK)(z4:XK):Prop|mk:∀pd dd tk st ts vm vc ex aD x z,vs=[.ref pd,.int z]->ef ad (pd::tk::st::ex++aD) H pd dd tk st ts vm vc ex x->(∀c∈aD,c_ H c)->(within z 0 4096=false->dq ad H pd dd tk st ex aD x [-2] Q)->(within z 0 4096=true->x.machine=none->dq ad H pd dd tk st ex aD x [-4] Q)->(∀M,within z 0 4096=true->x.machine=some M->dq ad H pd dd tk st ex aD x [0,(((countsAt M z.toNat).getD 0 0%2^64:Nat):Int)] Q)->apD ad vs H Q z4
def apE(T:cp K mg ad)(hne:ad.b0≠ad.cb):bN P w K mg base bX 12 ad.DH ad.DI ["self","length"] (apD ad):=by
 refine T.aj5.ok aiC (λvs H Q E h=>?_) (λbB A aY s H vs Q E hr h=>?_)
 ·obtain⟨pd,dd,tk,st,ts,vm,vc,ex,aD,x,z,rfl,_⟩:=h;rfl
 ·obtain⟨pd,dd,tk,st,ts,vm,vc,ex,aD,x,z,rfl,hD,hR,k1,k2,k3⟩:=h;exists _,(aC (dF (vD (Bi mf mf bm (pv 1) (dD rfl T.akT))) (aK (bK (cH (ak (dD rfl T.wC) ay)))) dE) (aC (dF (ng (qE (aV (pv 0)))) (aK (bK (cH (ak (dD rfl T.EA) ay)))) dE) (aK (bK (cH (ak bm (ak (e_ (mh (pv 0) T.b_ T.WG (aas T) hr.m T.WF .nil bE) T.jE T.ajr (aoF T hne) hr.m T.ajq .nil bE (ak (pv 1) ay)) ay)))))))
  rfl'
  have wf:¬(0<=z/\z<=4096)->within z 0 4096=false:=λn=>by
   cases e:within z 0 4096 with
   |false=>rfl
   |true=>exact absurd (lv.mp e) n
  refine⟨_,rfl,_,_,rfl,rfl,_,rfl,bq (λc1=>?_) (λc1=>?_)⟩
  case refine_2=>
   refine⟨_,rfl,gA ⟨(cA rfl),λq hq=>iW (k1 (wf λh=>c1 (decide_eq_true h.1))) hD hq rfl⟩⟩
  refine⟨_,_,rfl,rfl,_,rfl,bq (λc2=>?_) (λc2=>?_)⟩
  ·refine⟨(cA rfl),λq hq=>iW (k1 (wf λh=>?_)) hD hq rfl⟩
   lk
  have h0:=of_decide_eq_true c1
  have h1:z<=4096:=by
   cases e:decide (z<=4096)with
   |true=>exact of_decide_eq_true e
   |false=>rw[e]at c2;exact absurd rfl c2
  have hz:=lv.mpr ⟨h0,h1⟩
  cases em:x.machine with
  |none=>
   obtain rfl:=hD.zN em
   refine⟨_,rfl,pd,_,dd,_,_,rfl,hD.obj,T.b_,T.eC,fk,_,rfl,gA ⟨(cA rfl),λq hq=>iW (k2 hz em) hD hq rfl⟩⟩
  |some M=>
   have k3:=k3 M hz em
   obtain⟨pm,dm,bC,am,at_,bG,br,ss,mr,Fp,oY⟩:=hD.zO em
   subst Fp
   obtain⟨n,rfl⟩:=JC h0
   refine⟨_,rfl,pd,_,dd,_,_,rfl,hD.obj,T.b_,T.eC,fk,_,rfl,iR ?_⟩
   refine⟨_,rfl,pd,dd,_,rfl,hD.obj,mD (by x_go) _ _ _ _,pd,dd,tk,st,ts,_,vc,ex,aD,x,M,rfl,hD,hR,em,λH1 yC dm1 uR rF tj wY pc dc wp wl lw cl qh cM PZ P0 a b f1 hv jF zP zQ mI JE ha hb=>?_⟩
   refine⟨pc,dc,_,rfl,JE.obj,N9 (by x_go) _ _ _ _,_,rfl,_,pc,dc,wp,wl,lw,cl,cM,PZ,P0,M,a,b,n,rfl,JE,mI.here.mG,by lia,ha,λH2 sZ a' f2 zG xJ=>?_⟩
   refine⟨(cA rfl),λq hq=>?_⟩
   have apF:ef ad (pd::tk::st::[pc,wl,cl]++aD) H1 pd dd tk st ts (.ref yC) (.ref pc) [pc,wl,cl] x:=by rw[<-hv];exact jF
   exact PY k3 f1 apF zP zQ em mI f2 zG xJ hb (al.new hq) hq ao (by rw[jf];rfl)
def JF(wd:aj)(m:Nat):List Int:=((wd.length:Nat):Int)::(wd.take m).map λ(n:Nat)=>(n:Int)
def aay(wd:aj)(m:Nat):V.int ((wd.length:Nat):Int)::(wd.take m).map iv=(JF wd m).map V.int:=by
 unfold JF;rw[gF,dy];rfl
inductive apG(ad:Ad)(vs:List V)(H:Hp)(Q:VK)(z4:XK):Prop|mk:∀pd dd tk st ts vm vc ex aD x k0 z,vs=[.ref pd,iv k0,.int z]->ef ad (pd::tk::st::ex++aD) H pd dd tk st ts vm vc ex x->(∀c∈aD,c_ H c)->k0<BM.f9->(within z 0 4096=false->dq ad H pd dd tk st ex aD x [-2] Q)->(within z 0 4096=true->x.machine=none->dq ad H pd dd tk st ex aD x [-4] Q)->(∀M,within z 0 4096=true->x.machine=some M->(Ko M k0=none->dq ad H pd dd tk st ex aD x [-1] Q)/\ ∀wd,Ko M k0=some wd->dq ad H pd dd tk st ex aD x (JF wd z.toNat) Q)->apG ad vs H Q z4
def apH(T:cp K mg ad)(hne:ad.b0≠ad.cb):bN P w K mg base bX 14 ad.DJ ad.DK ["self","place","most"] (apG ad):=by
 refine T.aj8.ok aiD (λvs H Q E h=>?_) (λbB A aY s H vs Q E hr h=>?_)
 ·obtain⟨pd,dd,tk,st,ts,vm,vc,ex,aD,x,k0,z,rfl,_⟩:=h;rfl
 ·obtain⟨pd,dd,tk,st,ts,vm,vc,ex,aD,x,k0,z,rfl,hD,hR,ou,k1,k2,k3⟩:=h;exists _,(aC (dF (vD (Bi mf mf bm (pv 2) (dD rfl T.W7))) (aK (bK (cH (ak (dD rfl T.wC) ay)))) dE) (aC (dF (ng (qE (aV (pv 0)))) (aK (bK (cH (ak (dD rfl T.EA) ay)))) dE) (aK (bK (gy (aai T) hr.m rfl T.W1 T.N5.kp T.W0 .nil bE (ak (gy (aoW T hne) hr.m rfl T.akG T.WZ.kp T.akF .nil bE (ak (aV (pv 0)) (ak (mh (pv 0) T.b_ T.WG (aas T) hr.m T.WF .nil bE) (ak (pv 1) ay)))) (ak (pv 2) ay)))))))
  rfl'
  have wf:¬(0<=z/\z<=4096)->within z 0 4096=false:=λn=>by
   cases e:within z 0 4096 with
   |false=>rfl
   |true=>exact absurd (lv.mp e) n
  refine⟨_,rfl,_,_,rfl,rfl,_,rfl,bq (λc1=>?_) (λc1=>?_)⟩
  case refine_2=>
   refine⟨_,rfl,gA ⟨(cA rfl),λq hq=>iW (k1 (wf λh=>c1 (decide_eq_true h.1))) hD hq rfl⟩⟩
  refine⟨_,_,rfl,rfl,_,rfl,bq (λc2=>?_) (λc2=>?_)⟩
  ·refine⟨(cA rfl),λq hq=>iW (k1 (wf λh=>?_)) hD hq rfl⟩
   lk
  have h0:=of_decide_eq_true c1
  have h1:z<=4096:=by
   cases e:decide (z<=4096)with
   |true=>exact of_decide_eq_true e
   |false=>rw[e]at c2;exact absurd rfl c2
  have hz:=lv.mpr ⟨h0,h1⟩
  cases em:x.machine with
  |none=>
   obtain rfl:=hD.zN em
   refine⟨_,rfl,pd,_,dd,_,_,rfl,hD.obj,T.b_,T.eC,fk,_,rfl,gA ⟨(cA rfl),λq hq=>iW (k2 hz em) hD hq rfl⟩⟩
  |some M=>
   have k3:=k3 M hz em
   obtain⟨pm,dm,bC,am,at_,bG,br,ss,mr,Fp,oY⟩:=hD.zO em
   subst Fp
   obtain⟨n,rfl⟩:=JC h0
   rw[jf]at k3
   refine⟨_,rfl,pd,_,dd,_,_,rfl,hD.obj,T.b_,T.eC,fk,_,rfl,iR ?_⟩
   refine⟨_,rfl,pd,_,dd,_,_,rfl,hD.obj,T.b_,T.eC,fk,_,rfl,pd,dd,_,rfl,hD.obj,mD (by x_go) _ _ _ _,pd,dd,tk,st,ts,_,vc,ex,aD,x,M,rfl,hD,hR,em,λH1 yC dm1 uR rF tj wY pc dc wp wl lw cl qh cM PZ P0 a b f1 hv jF zP zQ mI JE ha hb=>?_⟩
   obtain rfl:pm=yC:=by injection hv
   refine⟨_,rfl,_,pm,dm1,uR,rF,tj,wY,qh,pc,dc,wp,wl,lw,cl,cM,PZ,P0,M,a,b,k0,rfl,mI,JE,hb,ou,λH2 atM b2 f2 zG qO=>⟨λhk=>?_,λq wd hk hq oW cS=>?_⟩⟩
   ·exact⟨_,rfl,.inl ⟨n,rfl,λq hq=>PY (k3.1 hk) f1 jF zP zQ em mI f2 zG ha qO (al.new hq) hq ao rfl⟩⟩
   ·exact⟨_,rfl,.inr ⟨q,wd,n,rfl,hq,by lia,λH3 q3 s3 gN P1=>PY (k3.2 wd hk) f1 jF zP zQ em mI f2 zG ha qO s3 P1 gN (aay wd n)⟩⟩
inductive apI(ad:Ad)(vs:List V)(H:Hp)(Q:VK)(z4:XK):Prop|mk:∀pd dd tk st pe de te se ts us vm vc um uc ex aD ey x y z,vs=[.ref pd,.ref pe,.int z]->ef ad (pd::tk::st::ex++aD) H pd dd tk st ts vm vc ex x->ef ad (pd::tk::st::ex++aD) H pe de te se us um uc ey y->(within z 0 4096=false->dq ad H pd dd tk st ex aD x [-2] Q)->(within z 0 4096=true->x.machine=none\/y.machine=none->dq ad H pd dd tk st ex aD x [-4] Q)->(∀M N,within z 0 4096=true->x.machine=some M->y.machine=some N->(QT M N=none->dq ad H pd dd tk st ex aD x [-1] Q)/\ ∀wd,QT M N=some wd->dq ad H pd dd tk st ex aD x (JF wd z.toNat) Q)->apI ad vs H Q z4
def aaz{pd dd tk st:ag}{ex aD:bp}(k:dq ad H pd dd tk st ex aD x zs Q)(h:ef ad (pd::tk::st::ex++aD) H pd dd tk st ts vm vc ex x)(s2:al H H2)(s3:al H2 H3)(hq:H2 q=none)(gN:H3 q=some (.af xs))(e:xs=zs.map V.int):Q (.ref q) H3:=
 k _ ts vm vc ex q (λc o _ he=>s3 _ _ (s2 _ _ he)) ((h.new s2).new s3) (λc hc=>.inl hc) (by rw[<-e];exact gN) (s2.free hq)
def apJ(T:cp K mg ad):bN P w K mg base bX 5 ad.DL ad.DM ["self","other","most"] (apI ad):=by
 refine T.aka.ok aiE (λvs H Q E h=>?_) (λbB A aY s H vs Q E hr h=>?_)
 ·obtain⟨pd,dd,tk,st,pe,de,te,se,ts,us,vm,vc,um,uc,ex,aD,ey,x,y,z,rfl,_⟩:=h;rfl
 ·obtain⟨pd,dd,tk,st,pe,de,te,se,ts,us,vm,vc,um,uc,ex,aD,ey,x,y,z,rfl,hD,hE,k1,k2,k3⟩:=h;exists _,(aC (dF (vD (Bi mf mf bm (pv 2) (dD rfl T.W7))) (aK (bK (cH (ak (dD rfl T.wC) ay)))) dE) (aC (dF (PW.pt (aei (ng (qE (aV (pv 0)))) (aeh (ng (qE (aV (pv 1))))))) (aK (bK (cH (ak (dD rfl T.EA) ay)))) dE) (aK (bK (gy (aai T) hr.m rfl T.W1 T.N5.kp T.W0 .nil bE (ak (gy (apc T) hr.m rfl T.ake T.WJ.kp T.akd .nil bE (ak (aV (pv 0)) (ak (aV (pv 1)) ay))) (ak (pv 2) ay)))))))
  rfl'
  have wf:¬(0<=z/\z<=4096)->within z 0 4096=false:=λn=>by
   cases e:within z 0 4096 with
   |false=>rfl
   |true=>exact absurd (lv.mp e) n
  refine⟨_,rfl,_,_,rfl,rfl,_,rfl,bq (λc1=>?_) (λc1=>?_)⟩
  case refine_2=>
   refine⟨_,rfl,gA ⟨(cA rfl),λq hq=>iW (k1 (wf λh=>c1 (decide_eq_true h.1))) hD hq rfl⟩⟩
  refine⟨_,_,rfl,rfl,_,rfl,bq (λc2=>?_) (λc2=>?_)⟩
  ·refine⟨(cA rfl),λq hq=>iW (k1 (wf λh=>?_)) hD hq rfl⟩
   lk
  have h0:=of_decide_eq_true c1
  have h1:z<=4096:=by
   cases e:decide (z<=4096)with
   |true=>exact of_decide_eq_true e
   |false=>rw[e]at c2;exact absurd rfl c2
  have hz:=lv.mpr ⟨h0,h1⟩
  cases em:x.machine with
  |none=>
   obtain rfl:=hD.zN em
   refine⟨_,rfl,pd,_,dd,_,_,rfl,hD.obj,T.b_,T.eC,fk,_,rfl,gA (gA ⟨(cA rfl),λq hq=>iW (k2 hz (.inl em)) hD hq rfl⟩)⟩
  |some M=>
   obtain⟨pm,dm,bC,am,at_,bG,br,ss,mr,Fp,oY⟩:=hD.zO em
   subst Fp
   refine⟨_,rfl,pd,_,dd,_,_,rfl,hD.obj,T.b_,T.eC,fk,_,rfl,iR ?_⟩
   cases en:y.machine with
   |none=>
    obtain rfl:=hE.zN en
    refine⟨_,rfl,pe,_,de,_,_,rfl,hE.obj,T.b_,T.eC,fk,_,rfl,gA ⟨(cA rfl),λq hq=>iW (k2 hz (.inr en)) hD hq rfl⟩⟩
   |some N=>
    obtain⟨pn,dn,wZ,w4,uS,zI,uT,tt,nr,hvn,hNo⟩:=hE.zO en
    subst hvn
    have k3:=k3 M N hz em en
    obtain⟨n,rfl⟩:=JC h0
    refine⟨_,rfl,pe,_,de,_,_,rfl,hE.obj,T.b_,T.eC,fk,_,rfl,iR ?_⟩
    refine⟨_,rfl,pd,_,dd,_,_,rfl,hD.obj,T.b_,T.eC,fk,_,rfl,pe,_,de,_,_,rfl,hE.obj,T.b_,T.eC,fk,pm,dm,bC,am,at_,bG,br,ss,mr,M,pn,dn,wZ,w4,uS,zI,uT,tt,nr,N,rfl,oY.to tw,hNo.to tw,λH2 s2=>⟨λhk=>?_,λq wd hk hq oW cS=>?_⟩⟩
    ·exact⟨_,rfl,.inl ⟨n,rfl,λq hq=>aaz (k3.1 hk) hD s2 (al.new hq) hq ao rfl⟩⟩
    ·exact⟨_,rfl,.inr ⟨q,wd,n,rfl,hq,by omega,λH3 q3 s3 gN P1=>aaz (k3.2 wd hk) hD s2 s3 P1 gN (aay wd n)⟩⟩
end
end Bp
namespace Bp
open PySem PySem.Spec PyProof.Rows L2
noncomputable def Fq:List (Int×Int):=[(1,1),(2,2),(3,5),(4,1),(5,2),(6,3),(7,2),(8,3),(9,3)]
section
variable{P:bj}{w:a_}{K:aP}{mg:Str->Option au}{base:Heap}{ad:Ad}
def P2(K:aP):Sp:=λvs H Q _=> ∃(ac:ag)(cs:List Int)(pl wd:Nat)(f:Int),vs=[.ref ac,iv pl]/\aJ K H ac (cs.map V.int)/\cs[pl]?=some f/\Fq.lookup f=some ((wd:Nat):Int)/\(f≠6->Q (iv (pl+1+wd)) H)/\(f=6-> ∃l:Nat,cs[pl+wd]?=some ((l:Nat):Int)/\Q (iv (pl+1+wd+l)) H)
def apK(T:cp K mg ad)(gW:BZ K mg "WIDTHS" Fq):bN P w K mg base bX 1 ad.Er ad.Es ["calls","place"] (P2 K):=by
 refine T.W3.ok Wi (λvs H Q E h=>?_) (λbB A aY s H vs Q E hr h=>?_)
 ·grind[P2]
 ·obtain⟨ac,cs,pl,wd,f,rfl,hq,hf,hw,k1,k2⟩:=h;exists _,(aC (bP (i:=2) Wi.nd (df nu (df nu (pv 1) bm) (ahD rfl gW (bD bY (pv 0) (pv 1)) (λ_ _=>rfl)))) (aC (dF (dY me (bD bY (pv 0) (pv 1)) (dD rfl T.W8) (dG _)) (aK (bK (df nu (pv 2) (bD bY (pv 0) (df vI (pv 2) bm))))) dE) (aK (bK (pv 2)))))
  rfl'
  have gf:(cs.map V.int)[pl]?=some (V.int f):=by lk
  refine⟨_,rfl,_,_,rfl,rfl,_,rfl,_,rfl,ac,_,_,V.int f,rfl,rfl,hq,bc gf,f,((wd:Nat):Int),rfl,hw,_,_,rfl,rfl,_,rfl,_,rfl,ac,_,_,V.int f,rfl,rfl,hq,bc gf,rfl,_,rfl,bq (λc=>?_) (λc=>?_)⟩
  ·have e6:=V.int.inj (of_decide_eq_true c);obtain⟨l,hl,k⟩:=k2 e6;have gl:(cs.map V.int)[pl+wd]?=some (V.int ((l:Nat):Int)):=by lk
   have ei:((pl:Nat):Int)+1+((wd:Nat):Int)-1=((pl+wd:Nat):Int):=by lia
   exists _,rfl,_,rfl,_,rfl,_,_,rfl,rfl;dsimp only;rw[ei];exact⟨ac,_,_,V.int ((l:Nat):Int),rfl,rfl,hq,bc gl,_,_,rfl,rfl,k⟩
  ·exact⟨_,rfl,k1 λe=>c (decide_eq_true (by rw[e]))⟩
inductive Slot(ad:Ad)(Mu:bp)(H:Hp):V->bp->Option kM->Prop
 |empty:Slot ad Mu H .aX [] none
 |jA {pd dd tk st:ag} {ts:bp} {vm vc:V} {ex:bp} {x:kM}:ef ad Mu H pd dd tk st ts vm vc ex x->Slot ad Mu H (.ref pd) (pd::tk::st::ex) (some x)
def apL(h: ∀c,c∈nQ->c∈Mu):al (fc Mu H) (fc nQ H):=λc o e=>oX (lU e).2 λz=>(lU e).1 (h c z)
def ef.perm{pd dd tk st:ag}(h:ef ad Mu H pd dd tk st ts vm vc ex x)(hm: ∀c,c∈nQ↔c∈Mu):ef ad nQ H pd dd tk st ts vm vc ex x:=
 h.to (apL λc=>(hm c).mp) (λc _ o e=>e) (λc xs e=>e) λc hc=>(hm c).mpr (h.sub c hc)
structure ly(ad:Ad)(H:Hp)(dl td:ag)(m m':bp)(v v':V)(o o':Option kM)(xs:List V):Prop where
 af:H dl=some (.af xs)
 told: ∃ys,H td=some (.af ys)
 a:Slot ad (m++(m'++[dl,td])) H v m o
 b:Slot ad (m++(m'++[dl,td])) H v' m' o'
 Fs: ∀c∈m,c∉m'
 ds:dl∉m/\dl∉m'/\td∉m/\td∉m'/\dl≠td
def Slot.nT(h:Slot ad Mu H v m o): ∀c∈m,c_ H c:=by
 cases h with
 |empty=>intro c hc;cases hc
 |jA h=>exact h.nT
def Slot.perm(h:Slot ad Mu H v m o)(hm: ∀c,c∈nQ↔c∈Mu):Slot ad nQ H v m o:=by
 cases h with
 |empty=>exact .empty
 |jA h=>exact .jA (h.perm hm)
def Slot.to(h:Slot ad Mu H v m o)(s:al (fc Mu H) (fc nQ H'))(e: ∀c∈m,∀o,H c=some o->H' c=some o)(et: ∀c xs,H c=some (.aE xs)->H' c=some (.aE xs))(hs: ∀c∈m,c∈nQ):Slot ad nQ H' v m o:=by
 cases h with
 |empty=>exact .empty
 |jA h=>exact .jA (h.to s e et hs)
def ly.aaA{dl td:ag}(h:ly ad H dl td m m' v v' o o' xs):ly ad H dl td m' m v' v o' o xs:=by
 have hm: ∀c,c∈m'++(m++[dl,td])↔c∈m++(m'++[dl,td]):=λc=>by
  fin2
 exact⟨h.af,h.told,h.b.perm hm,h.a.perm hm,λc hc fQ=>h.Fs c fQ hc,h.ds.2.1,h.ds.1,h.ds.2.2.2.1,h.ds.2.2.1,h.ds.2.2.2.2⟩
def zR(ad:Ad)(H:Hp)(dl td:ag)(m m':bp)(v':V)(o o':Option kM)(zs:List Int)(Q:VK)(zS:V->List V):Prop:= ∀H' m2 v2 q,ly ad H' dl td m2 m' v2 v' o o' (zS v2)->(∀c o,c∉m->c∉m'->c≠dl->H c=some o->H' c=some o)->H' q=some (.af (zs.map V.int))->H q=none->Q (.ref q) H'
def apM{dl td pd dd tk st:ag}{ts ex m':bp}{vm vc v':V}(h:ly ad H dl td (pd::tk::st::ex) m' (.ref pd) v' (some x) o' (zS (.ref pd)))(k:zR ad H dl td (pd::tk::st::ex) m' v' (some x') o' zs Q zS):
  dq ad H pd dd tk st ex (m'++[dl,td]) x' zs Q:=by
 intro H' ts' vm' vc' t6 q f hD' qN hq oW;have ho:=h.a.nT;have ju:=h.b.nT;have pT: ∀c∈pd::tk::st::t6,c∈pd::tk::st::ex\/H c=none:=λc hc=>by
  fin2
 have keep: ∀c o,c∉pd::tk::st::ex->H c=some o->c∉pd::tk::st::t6:=λc o n e z=>by
  fin2
 refine k H' (pd::tk::st::t6) (.ref pd) q ⟨f _ _ h.ds.1 h.af,?_,.jA hD',?_,λc hc fQ=>?_,?_⟩ (λc o n _ _ e=>f _ _ n e) hq oW
 ·obtain⟨ys,e⟩:=h.told;exact⟨ys,f _ _ h.ds.2.2.1 e⟩
 ·refine h.b.to (λc o e=>?_) (λc hc o e=>f _ _ (λz=>h.Fs c z hc) e) (λc xs e=>f _ _ (λz=>Xw e (ho c z)) e) λc hc=>lV _ (jK _ hc);obtain⟨n,e⟩:=lU e;have n1:=λz=>n (jK _ z);refine oX (f _ _ n1 e) λz=>?_;fin2
 ·rcases pT c hc with h1|h1
  ·exact h.Fs c h1 fQ
  ·obtain⟨o,e⟩:=(ju c fQ).there;rw[h1]at e;cases e
 ·refine⟨keep _ _ h.ds.1 h.af,h.ds.2.1,?_,h.ds.2.2.2.1,h.ds.2.2.2.2⟩;obtain⟨ys,e⟩:=h.told;exact keep _ _ h.ds.2.2.1 e
end
end Bp
namespace Bp
open PySem PySem.Spec PyProof.Rows L2
open Sw15 (worked There Both)
open BM (fz i5 l9)
def cG{α:Type}(i:Nat)(a b:α):List α:=if i=0 then[a,b]else[b,a]
section
variable{α:Type}{i:Nat}{a b c d:α}
def zT(h:i<2):i=0\/i=1:=by lia
def apN:(cG i a b).length=2:=by unfold cG;split<;>rfl
def fe(h:i<2):(cG i a b)[i]?=some a:=by rcases zT h with rfl|rfl<;>rfl
def Fu(h:i<2)(hj:j<2)(n:i≠j):(cG i a b)[j]?=some b:=by
 rcases zT h with rfl|rfl<;>rcases zT hj with rfl|rfl<;>first|exact absurd rfl n|rfl
def ij(h:i<2):(cG i a b).set i c=cG i c b:=by rcases zT h with rfl|rfl<;>rfl
def jH(h:i<2):(cG i a b).getD i d=a:=by rcases zT h with rfl|rfl<;>rfl
def apO(h:i<2)(hj:j<2)(n:i≠j):(cG i a b).getD j d=b:=by rw[xb,Fu h hj n];rfl
end
section
variable{P:bj}{w:a_}{K:aP}{mg:Str->Option au}{base:Heap}{ad:Ad}
def ly.new{dl td:ag}(h:ly ad H dl td m m' v v' o o' xs)(s:al H H'):ly ad H' dl td m m' v v' o o' xs:=by
 refine⟨s _ _ h.af,?_,h.a.to (PR s) (λc _ o e=>s _ _ e) (λc xs e=>s _ _ e) λc hc=>jK _ hc,h.b.to (PR s) (λc _ o e=>s _ _ e) (λc xs e=>s _ _ e) λc hc=>lV _ (jK _ hc),h.Fs,h.ds⟩;obtain⟨ys,e⟩:=h.told;exact⟨ys,s _ _ e⟩
def zR.new{dl td:ag}(h:zR ad H dl td m m' v' o o' zs Q zS)(s:al H H1):zR ad H1 dl td m m' v' o o' zs Q zS:=
 λH' m2 v2 q a b c d=>h H' m2 v2 q a (λe o n1 n2 n3 f=>b e o n1 n2 n3 (s _ _ f)) c (s.free d)
def tz{dl td pd dd tk st:ag}{ts ex m':bp}{vm vc v':V}(hT:ly ad H dl td (pd::tk::st::ex) m' (.ref pd) v' (some x) o' (cG i (.ref pd) v'))(k: ∀o2,(worked (cG i (some x) o') X).1=cG i o2 o'->zR ad H dl td (pd::tk::st::ex) m' v' o2 o' (fz (worked (cG i (some x) o') X).2) Q (λu=>cG i u v')):
  ∀{x':kM}{cE:tR}{zs:List Int},worked (cG i (some x) o') X=(cG i (some x') o',cE)->fz cE=zs->dq ad H pd dd tk st ex (m'++[dl,td]) x' zs Q:=λ{x' cE zs}e1 e2=>by
 have k:=k (some x') (by rw[e1]);rw[e1,e2]at k;exact apM (ts:=ts) (vm:=vm) (vc:=vc) (zS:=λu=>cG i u v') hT k
def aaB(K:aP)(ad:Ad):Sp:=λvs H Q _=> ∃dl td pn m m' v v' o o' i ns x,vs=[.ref dl,.ref pn]/\H pn=some (.af (ns.map V.int))/\ly ad H dl td m m' v v' o o' (cG i v v')/\pn∉m/\pn∉m'/\pn≠dl/\i5 ns x []/\There (cG i o o') x/\l9 (cG i o o')/\ns[1]?=some ((i:Nat):Int)/\i<2/\∀o2,(worked (cG i o o') x).1=cG i o2 o'->zR ad H dl td m m' v' o2 o' (fz (worked (cG i o o') x).2) Q (λu=>cG i u v')
def apP(T:cp K mg ad)(hne:ad.b0≠ad.cb):bN P w K mg base bX 15 ad.Eo ad.Ep ["drawings","numbers"] (aaB K ad):=by
 refine T.W2.ok HZ (λvs H Q E h=>?_) (λbB A aY s H vs Q E hr h=>?_)
 ·obtain⟨dl,td,pn,m,m',v,v',o,o',i,ns,x,rfl,_⟩:=h;rfl
 ·obtain⟨dl,td,pn,m,m',v,v',o,o',i,ns,x,rfl,hn,hT,OJ,sS,hm3,hR,cR,aG,hi,ba,k⟩:=h;exists _,(aC (bP (i:=2) HZ.nd (bD bY (pv 1) bm)) (aC (bP (i:=3) HZ.nd (bD bY (pv 1) bm)) (aC (dF (dY me (pv 2) (dD rfl T.akU) (dG _)) (aC (Bc (TF T.aiW (apf T) hr.m rfl T.aiX T.ajM .nil bE) (Bb (pv 0) (pv 3) ye)) (aK (bK (cH (ak bm ay))))) dE) (aC (bP (i:=4) HZ.nd (bD bY (pv 0) (pv 3))) (aC (dF (dY me (pv 2) (dD rfl T.akV) (dG _)) (aK (bK (e_ (pv 4) T.b_ T.ajR (apj T) hr.m T.ajQ .nil bE (ak (bD bY (pv 1) bm) ay)))) dE) (aC (dF (dY me (pv 2) (dD rfl T.akW) (dG _)) (aK (bK (e_ (pv 4) T.b_ T.ajU (apl T) hr.m T.ajT .nil bE (ak (bD bY (pv 1) bm) (ak (bD bY (pv 1) bm) (ak (bD bY (pv 1) bm) (ak (bD bY (pv 1) bm) ay))))))) dE) (aC (dF (dY me (pv 2) (dD rfl T.akX) (dG _)) (aK (bK (mh (pv 4) T.b_ T.ajX (apn T) hr.m T.ajW .nil bE))) dE) (aC (dF (dY me (pv 2) (dD rfl T.akY) (dG _)) (aK (bK (e_ (pv 4) T.b_ T.aj0 (apt T) hr.m T.ajZ .nil bE (ak (bD bY (pv 1) bm) ay)))) dE) (aC (dF (dY me (pv 2) (dD rfl T.W8) (dG _)) (aK (bK (e_ (pv 4) T.b_ T.aj4 (apq T) hr.m T.aj3 .nil bE (ak (bD bY (pv 1) bm) (ak (yd yf (pv 1) (vO bm) Bn) ay))))) dE) (aC (dF (dY me (pv 2) (dD rfl T.akZ) (dG _)) (aK (bK (e_ (pv 4) T.b_ T.aj7 (apE T hne) hr.m T.aj6 .nil bE (ak (bD bY (pv 1) bm) ay)))) dE) (aC (dF (dY me (pv 2) (dD rfl T.ak0) (dG _)) (aK (bK (e_ (pv 4) T.b_ T.aj_ (apH T hne) hr.m T.aj9 .nil bE (ak (bD bY (pv 1) bm) (ak (bD bY (pv 1) bm) ay))))) dE) (aK (bK (e_ (pv 4) T.b_ T.akc (apJ T) hr.m T.akb .nil bE (ak (bD bY (pv 0) (bD bY (pv 1) bm)) (ak (bD bY (pv 1) bm) ay))))))))))))))))
  rfl'
  have first: ∀{u:Int},ns[0]?=some u->qI (ns.map V.int) 0=some (V.int u):=λe=>bc (j:=0) (by lk)
  have hx: ∀{j:Nat}{u:Int},ns[j]?=some u->(ns.map V.int)[j]?=some (V.int u):=λe=>by lk
  have ei:=jf i
  have ff:aJ K H pn (ns.map V.int):=aJ.of hn
  have tD:aJ K H dl (cG i v v'):=aJ.of hT.af
  have uM: ∀c∈m'++[dl,td],c_ H c:=λc hc=>by
   rcases cN.mp hc with h|h
   ·exact hT.b.nT c h
   ·simp only[cO,rO,or_false]at h
    rcases h with rfl|rfl
    ·exact .inl ⟨_,hT.af⟩
    ·exact .inl hT.told
  cases hR with
  |open_ z _ z0 z2=>
   obtain rfl:z=(i:Int):=bv hi
   rw[ei]at k
   exists _,rfl,pn,_,_,V.int 1,rfl,rfl,ff,rfl
   exists _,rfl,pn,_,_,iv i,rfl,rfl,ff,rfl
   exists _,rfl,rfl,_,rfl
   refine Qe (by room) ?_
   refine λp d hp hd hdp=>?_
   have mk: ∀c o,H c=some o->aa (aa H d (.bz p)) p (.aB ad.c9 d []) c=some o:=λc o e=>by
    rw[aw (aF e hp),aw (aF e hd)];exact e
   have fr: ∀{c:ag},aa (aa H d (.bz p)) p (.aB ad.c9 d []) c=none->H c=none:=λ{c}e=>by
    cases ec:H c with
    |none=>rfl
    |some o=>rw[mk _ _ ec]at e;cases e
   refine⟨p,d,rfl,ao,λH1 tk st b1 di gE jV ft fs nts=>⟨rfl,?_⟩⟩
   have ft:=fr ft
   have fs:=fr fs
   have P3: ∀c o,H c=some o->H1 c=some o:=λc o e=>b1 _ _ (aF e hp) (mk _ _ e)
   have iy:p≠dl:=λe=>by rw[e,hT.af]at hp;cases hp
   have Jh:tk≠dl:=λe=>by rw[e,hT.af]at ft;cases ft
   have nsd:st≠dl:=λe=>by rw[e,hT.af]at fs;cases fs
   exists _,rfl,_,rfl,dl,_,_,i,rfl,rfl,P3 _ _ hT.af,IC (by rw[apN];exact ba)
   rw[ij ba]
   have b2:=Bt.aa dl H1 (.af (cG i (.ref p) v'))
   have jW:aa H1 dl (.af (cG i (.ref p) v')) dl=_:=ao
   generalize aa H1 dl (.af (cG i (.ref p) v'))=H2 at b2 jW⊢
   refine⟨(cA rfl),λq hq=>?_⟩
   have s3:=al.new (o:=.af [V.int 0]) hq
   have up: ∀c o,c≠dl->H c=some o->aa H2 q (.af [V.int 0]) c=some o:=λc o n e=>s3 _ _ (b2 _ _ n (P3 _ _ e))
   have fq:H q=none:=by
    cases e:H q with
    |none=>rfl
    |some o=>
     by_cases n:q=dl
     ·rw[n,jW]at hq;cases hq
     ·rw[b2 _ _ n (P3 _ _ e)]at hq;cases hq
   have fresh: ∀c∈[p,tk,st],H c=none:=λc hc=>by
    simp only[cO,rO,or_false]at hc
    fin2
   have P4: ∀c o,H c=some o->c∉[p,tk,st]:=λc o e z=>by fin2
   have Jz:tk≠p:=λe=>by rw[e]at gE;rw[LI,di]at gE;cases gE
   have PU:st≠p:=λe=>by lk
   refine k (some ⟨⟨[],[]⟩,none⟩) (ij ba) _ [p,tk,st] (.ref p) q ⟨s3 _ _ jW,?_,.jA (ts:=[]) ⟨s3 _ _ (b2 _ _ iy di),s3 _ _ (b2 _ _ Jh gE),⟨s3 _ _ (b2 _ _ nsd jV),rfl,λj c y h1=>by cases h1⟩,.none,?_,λc hc=>jK _ hc⟩,?_,λc hc fQ=>?_,?_⟩ (λc o _ _ n e=>up _ _ n e) ao fq
   ·obtain⟨ys,e⟩:=hT.told
    exact⟨ys,up _ _ (λz=>hT.ds.2.2.2.2 z.symm) e⟩
   ·simp only[jL,cO,rO,not_or,or_false,not_false_iff,Ac,and_true]
    fin2
   ·refine hT.b.to (λc o e=>?_) (λc hc o e=>up _ _ (λz=>hT.ds.2.1 (z▸hc)) e) (λc xs e=>up _ _ (λz=>by rw[z,hT.af]at e;cases e) e) λc hc=>lV _ (jK _ hc)
    obtain⟨n,e⟩:=lU e
    refine oX (up _ _ (λz=>n (by rw[z];simp)) e) λz=>?_
    fin2
   ·obtain⟨o,e⟩:=(hT.b.nT c fQ).there
    exact P4 _ _ e hc
   ·refine⟨P4 _ _ hT.af,hT.ds.2.1,?_,hT.ds.2.2.2.1,hT.ds.2.2.2.2⟩
    obtain⟨ys,e⟩:=hT.told
    exact P4 _ _ e
  |state z t _ z0 z2=>
   obtain rfl:z=(i:Int):=bv hi
   rw[ei]at k cR
   have hs:=hT.a
   cases hs with
   |empty=>
    have cR:((cG i none o').getD i none).isSome=true:=cR
    rw[jH ba]at cR
    cases cR
   |@jA pd dd tk st ts vm vc ex x hD=>
    have hS:=aG.2 i x (jH ba)
    have bM: ∀{x':kM}{cE:tR}{zs:List Int},worked (cG i (some x) o') (.state i t)=(cG i (some x') o',cE)->fz cE=zs->dq ad H pd dd tk st ex (m'++[dl,td]) x' zs Q:=tz (ts:=ts) (vm:=vm) (vc:=vc) hT k
    exists _,rfl,pn,_,_,V.int 2,rfl,rfl,ff,bc (j:=0) rfl
    exists _,rfl,pn,_,_,iv i,rfl,rfl,ff,bc (j:=1) rfl
    exists _,rfl,rfl,_,rfl
    refine Ga (by room) ?_
    exists _,rfl,_,rfl,dl,_,_,.ref pd,rfl,rfl,tD,bc (fe ba)
    exists _,rfl,rfl,_,rfl
    refine Qe (by room) ?_
    exists _,rfl,pd,dd,_,rfl,hD.obj,mD (by x_go) _ _ _ _
    exists _,rfl,pn,_,_,V.int t,rfl,rfl,ff,rfl
    refine⟨pd,dd,tk,st,ts,vm,vc,ex,m'++[dl,td],x,t,rfl,hD,hS.cT,λc=>bM (x':=x) (cE:=jk (-2)) ?_ rfl,λc c2=>bM (x':=x) (cE:=jk (-1)) ?_ rfl,λc c2=>bM (cE:=jk x.drawing.takes.length) ?_ rfl⟩
    ·simp[worked,iD,fe ba,ij ba,jN,iZ,c]
    ·simp[worked,iD,fe ba,ij ba,jN,iZ,c,c2]
    ·simp[worked,iD,fe ba,ij ba,jN,iZ,c,c2]
  |step z a l h b _ z0 z2=>
   obtain rfl:z=(i:Int):=bv hi
   rw[ei]at k cR
   have hs:=hT.a
   cases hs with
   |empty=>
    have cR:((cG i none o').getD i none).isSome=true:=cR
    rw[jH ba]at cR
    cases cR
   |@jA pd dd tk st ts vm vc ex x hD=>
    have hS:=aG.2 i x (jH ba)
    have bM: ∀{x':kM}{cE:tR}{zs:List Int},worked (cG i (some x) o') (.step i a l h b)=(cG i (some x') o',cE)->fz cE=zs->dq ad H pd dd tk st ex (m'++[dl,td]) x' zs Q:=tz (ts:=ts) (vm:=vm) (vc:=vc) hT k
    exists _,rfl,pn,_,_,V.int 3,rfl,rfl,ff,bc (j:=0) rfl
    exists _,rfl,pn,_,_,iv i,rfl,rfl,ff,bc (j:=1) rfl
    exists _,rfl,rfl,_,rfl
    refine Ga (by room) ?_
    exists _,rfl,_,rfl,dl,_,_,.ref pd,rfl,rfl,tD,bc (fe ba)
    exists _,rfl,rfl,_,rfl
    refine Ga (by room) ?_
    exists _,rfl,rfl,_,rfl
    refine Qe (by room) ?_
    exists _,rfl,pd,dd,_,rfl,hD.obj,mD (by x_go) _ _ _ _
    exists _,rfl,pn,_,_,V.int a,rfl,rfl,ff,rfl,_,rfl,pn,_,_,V.int l,rfl,rfl,ff,rfl,_,rfl,pn,_,_,V.int h,rfl,rfl,ff,rfl,_,rfl,pn,_,_,V.int b,rfl,rfl,ff,rfl
    refine⟨pd,dd,tk,st,ts,vm,vc,ex,m'++[dl,td],x,a,l,h,b,rfl,hD,hS.steps,λc=>bM (x':=x) (cE:=jk (-2)) ?_ rfl,λc c2=>bM (x':=x) (cE:=jk (-1)) ?_ rfl,λc c2=>bM (cE:=jk 0) ?_ rfl⟩
    all_goals unfold w_ at c
    ·unfold worked
     dsimp only
     rw[jH ba]
     lk
    ·unfold worked
     dsimp only
     rw[jH ba]
     dsimp only
     rw[c,if_neg (by room),if_pos (show _=iZ from c2)]
    ·unfold worked
     dsimp only
     rw[jH ba]
     dsimp only
     rw[c,if_neg (by room),if_neg (show ¬_=iZ from c2),ij ba]
  |make z _ z0 z2=>
   obtain rfl:z=(i:Int):=bv hi
   rw[ei]at k cR
   have hs:=hT.a
   cases hs with
   |empty=>
    have cR:((cG i none o').getD i none).isSome=true:=cR
    rw[jH ba]at cR
    cases cR
   |@jA pd dd tk st ts vm vc ex x hD=>
    have hS:=aG.2 i x (jH ba)
    have bM: ∀{x':kM}{cE:tR}{zs:List Int},worked (cG i (some x) o') (.make i)=(cG i (some x') o',cE)->fz cE=zs->dq ad H pd dd tk st ex (m'++[dl,td]) x' zs Q:=tz (ts:=ts) (vm:=vm) (vc:=vc) hT k
    exists _,rfl,pn,_,_,V.int 4,rfl,rfl,ff,bc (j:=0) rfl
    exists _,rfl,pn,_,_,iv i,rfl,rfl,ff,bc (j:=1) rfl
    exists _,rfl,rfl,_,rfl
    refine Ga (by room) ?_
    exists _,rfl,_,rfl,dl,_,_,.ref pd,rfl,rfl,tD,bc (fe ba)
    iterate 2(exists _,rfl,rfl,_,rfl;refine Ga (by room) ?_)
    exists _,rfl,rfl,_,rfl
    refine Qe (by room) ?_
    exists _,rfl,pd,dd,_,rfl,hD.obj,mD (by x_go) _ _ _ _
    refine⟨pd,dd,tk,st,ts,vm,vc,ex,m'++[dl,td],x,rfl,hD,uM,hS.AC,hS.cT,hS.l7,λc=>bM (cE:=jk (-3)) ?_ rfl,λM c=>bM (cE:=jk M.size) ?_ rfl⟩
    ·simp[worked,iD,fe ba,ij ba,jN,iZ,c]
    ·simp[worked,iD,fe ba,ij ba,jN,iZ,c]
  |row z t _ z0 z2=>
   obtain rfl:z=(i:Int):=bv hi
   rw[ei]at k cR
   have hs:=hT.a
   cases hs with
   |empty=>
    have cR:((cG i none o').getD i none).isSome=true:=cR
    rw[jH ba]at cR
    cases cR
   |@jA pd dd tk st ts vm vc ex x hD=>
    have hS:=aG.2 i x (jH ba)
    have bM: ∀{x':kM}{cE:tR}{zs:List Int},worked (cG i (some x) o') (.row i t)=(cG i (some x') o',cE)->fz cE=zs->dq ad H pd dd tk st ex (m'++[dl,td]) x' zs Q:=tz (ts:=ts) (vm:=vm) (vc:=vc) hT k
    exists _,rfl,pn,_,_,V.int 5,rfl,rfl,ff,bc (j:=0) rfl
    exists _,rfl,pn,_,_,iv i,rfl,rfl,ff,bc (j:=1) rfl
    exists _,rfl,rfl,_,rfl
    refine Ga (by room) ?_
    exists _,rfl,_,rfl,dl,_,_,.ref pd,rfl,rfl,tD,bc (fe ba)
    iterate 3(exists _,rfl,rfl,_,rfl;refine Ga (by room) ?_)
    exists _,rfl,rfl,_,rfl
    refine Qe (by room) ?_
    exists _,rfl,pd,dd,_,rfl,hD.obj,mD (by x_go) _ _ _ _
    exists _,rfl,pn,_,_,V.int t,rfl,rfl,ff,rfl
    refine⟨pd,dd,tk,st,ts,vm,vc,ex,m'++[dl,td],x,t,rfl,hD,λc=>bM (x':=x) (cE:=jk (-4)) ?_ rfl,λM c c2=>bM (x':=x) (cE:=jk (-2)) ?_ rfl,λM c c2=>bM (x':=x) (cE:=⟨0,M.rows.getD t.toNat []++[(M.takes.getD t.toNat false).toNat],[]⟩) ?_ (by simp[fz,Sw15Neutral.ints])⟩
    ·simp[worked,iD,fe ba,ij ba,jN,iZ,c]
    ·simp[worked,iD,fe ba,ij ba,jN,iZ,c,c2]
    ·simp[worked,iD,fe ba,ij ba,jN,iZ,c,c2]
  |takes z n wd _ z0 z2 hw hl=>
   obtain rfl:z=(i:Int):=bv hi
   rw[ei]at k cR
   have hs:=hT.a
   cases hs with
   |empty=>
    have cR:((cG i none o').getD i none).isSome=true:=cR.1
    rw[jH ba]at cR
    cases cR
   |@jA pd dd tk st ts vm vc ex x hD=>
    have hS:=aG.2 i x (jH ba)
    have bM: ∀{x':kM}{cE:tR}{zs:List Int},worked (cG i (some x) o') (.takes i (wd.map lZ) n)=(cG i (some x') o',cE)->fz cE=zs->dq ad H pd dd tk st ex (m'++[dl,td]) x' zs Q:=tz (ts:=ts) (vm:=vm) (vc:=vc) hT k
    exists _,rfl,pn,_,_,V.int 6,rfl,rfl,ff,bc (j:=0) rfl
    exists _,rfl,pn,_,_,iv i,rfl,rfl,ff,bc (j:=1) rfl
    exists _,rfl,rfl,_,rfl
    refine Ga (by room) ?_
    exists _,rfl,_,rfl,dl,_,_,.ref pd,rfl,rfl,tD,bc (fe ba)
    iterate 4(exists _,rfl,rfl,_,rfl;refine Ga (by room) ?_)
    exists _,rfl,rfl,_,rfl
    refine Qe (by room) ?_
    exists _,rfl,pd,dd,_,rfl,hD.obj,mD (by x_go) _ _ _ _
    exists _,rfl,pn,_,_,V.int n,rfl,rfl,ff,bc (j:=2) rfl
    have cS:(wd.map lZ).length<=65536:=by
     rw[ax]
     split at hl<;>omega
    have apQ:k5 ((6::(i:Int)::n::(wd.length:Int)::(wd++[])).map V.int) (some 4) none=(wd.map lZ).map iv:=by
     unfold k5
     rw[HT.G7,show(4:Int)=((4:Nat):Int)from rfl,HT.yc,FL (by simp),lE,dy,aa5 (by simp)]
     show wd.map V.int=_
     refine fy λz hz=>?_
     show V.int z=V.int ((z.toNat:Nat):Int)
     rw[abt (hw z hz).1]
    refine⟨_,rfl,_,rfl,pn,_,rfl,ff,λl1 eY=>?_⟩
    rw[apQ]
    have s1:=al.new (o:=.af ((wd.map lZ).map iv)) eY
    have h1:LI (aa H l1 (.af ((wd.map lZ).map iv))) l1 (wd.map lZ):=ao
    generalize aa H l1 (.af ((wd.map lZ).map iv))=H1 at s1 h1⊢
    have P5: ∀{x':kM}{cE:tR}{zs:List Int},worked (cG i (some x) o') (.takes i (wd.map lZ) n)=(cG i (some x') o',cE)->fz cE=zs->dq ad H1 pd dd tk st ex (m'++[dl,td]) x' zs Q:=tz (ts:=ts) (vm:=vm) (vc:=vc) (hT.new s1) (λo2 e=>(k o2 e).new s1)
    refine⟨pd,dd,tk,st,l1,ts,vm,vc,ex,m'++[dl,td],x,n,_,rfl,hD.new s1,h1,cR.2,λc=>P5 (x':=x) (cE:=jk (-2)) ?_ rfl,λc c2=>P5 (x':=x) (cE:=jk (-4)) ?_ rfl,λM c c2=>P5 (x':=x) (cE:=jk (if M.accepts (wd.map lZ)=true then 1 else 0)) ?_ rfl⟩
    ·simp[worked,iD,fe ba,ij ba,jN,iZ,c]
    ·simp[worked,iD,fe ba,ij ba,jN,iZ,c,c2]
    ·simp[worked,iD,fe ba,ij ba,jN,iZ,c,c2]
  |count z n _ z0 z2=>
   obtain rfl:z=(i:Int):=bv hi
   rw[ei]at k cR
   have hs:=hT.a
   cases hs with
   |empty=>
    have cR:((cG i none o').getD i none).isSome=true:=cR
    rw[jH ba]at cR
    cases cR
   |@jA pd dd tk st ts vm vc ex x hD=>
    have hS:=aG.2 i x (jH ba)
    have bM: ∀{x':kM}{cE:tR}{zs:List Int},worked (cG i (some x) o') (.count i n)=(cG i (some x') o',cE)->fz cE=zs->dq ad H pd dd tk st ex (m'++[dl,td]) x' zs Q:=tz (ts:=ts) (vm:=vm) (vc:=vc) hT k
    exists _,rfl,pn,_,_,V.int 7,rfl,rfl,ff,bc (j:=0) rfl
    exists _,rfl,pn,_,_,iv i,rfl,rfl,ff,bc (j:=1) rfl
    exists _,rfl,rfl,_,rfl
    refine Ga (by room) ?_
    exists _,rfl,_,rfl,dl,_,_,.ref pd,rfl,rfl,tD,bc (fe ba)
    iterate 5(exists _,rfl,rfl,_,rfl;refine Ga (by room) ?_)
    exists _,rfl,rfl,_,rfl
    refine Qe (by room) ?_
    exists _,rfl,pd,dd,_,rfl,hD.obj,mD (by x_go) _ _ _ _
    exists _,rfl,pn,_,_,V.int n,rfl,rfl,ff,rfl
    refine⟨pd,dd,tk,st,ts,vm,vc,ex,m'++[dl,td],x,n,rfl,hD,uM,λc=>bM (x':=x) (cE:=jk (-2)) ?_ rfl,λc c2=>bM (x':=x) (cE:=jk (-4)) ?_ rfl,λM c c2=>bM (x':=x) (cE:=⟨0,[(Sw15.countsAt M n.toNat).getD 0 0%2^64],[]⟩) ?_ rfl⟩
    ·simp[worked,iD,fe ba,ij ba,jN,iZ,c]
    ·simp[worked,iD,fe ba,ij ba,jN,iZ,c,c2]
    ·simp[worked,iD,fe ba,ij ba,jN,iZ,c,c2]
  |word z kk mo _ z0 z2 k0 k2=>
   obtain rfl:z=(i:Int):=bv hi
   rw[ei]at k cR
   have hs:=hT.a
   cases hs with
   |empty=>
    have cR:((cG i none o').getD i none).isSome=true:=cR
    rw[jH ba]at cR
    cases cR
   |@jA pd dd tk st ts vm vc ex x hD=>
    have hS:=aG.2 i x (jH ba)
    have bM: ∀{x':kM}{cE:tR}{zs:List Int},worked (cG i (some x) o') (.word i kk.toNat mo)=(cG i (some x') o',cE)->fz cE=zs->dq ad H pd dd tk st ex (m'++[dl,td]) x' zs Q:=tz (ts:=ts) (vm:=vm) (vc:=vc) hT k
    exists _,rfl,pn,_,_,V.int 8,rfl,rfl,ff,bc (j:=0) rfl
    exists _,rfl,pn,_,_,iv i,rfl,rfl,ff,bc (j:=1) rfl
    exists _,rfl,rfl,_,rfl
    refine Ga (by room) ?_
    exists _,rfl,_,rfl,dl,_,_,.ref pd,rfl,rfl,tD,bc (fe ba)
    iterate 6(exists _,rfl,rfl,_,rfl;refine Ga (by room) ?_)
    exists _,rfl,rfl,_,rfl
    refine Qe (by room) ?_
    exists _,rfl,pd,dd,_,rfl,hD.obj,mD (by x_go) _ _ _ _
    obtain⟨kn,rfl⟩: ∃kn:Nat,kk=(kn:Int):=⟨kk.toNat,by omega⟩
    rw[jf]at bM
    exists _,rfl,pn,_,_,iv kn,rfl,rfl,ff,rfl,_,rfl,pn,_,_,V.int mo,rfl,rfl,ff,rfl
    refine⟨pd,dd,tk,st,ts,vm,vc,ex,m'++[dl,td],x,kn,mo,rfl,hD,uM,(by unfold BM.f9;omega),λc=>bM (x':=x) (cE:=jk (-2)) ?_ rfl,λc c2=>bM (x':=x) (cE:=jk (-4)) ?_ rfl,λM c c2=>⟨λc3=>bM (x':=x) (cE:=jk (-1)) ?_ rfl,λwd c3=>bM (x':=x) (cE:=asK wd mo) ?_ rfl⟩⟩
    ·simp[worked,iD,fe ba,ij ba,jN,iZ,c]
    ·simp[worked,iD,fe ba,ij ba,jN,iZ,c,c2]
    ·simp[worked,iD,fe ba,ij ba,jN,iZ,c,c2,c3]
    ·simp[worked,iD,fe ba,ij ba,jN,iZ,c,c2,c3]
  |apart z p mo _ z0 z2 p0 p2=>
   obtain rfl:z=(i:Int):=bv hi
   rw[ei]at k cR
   have hs:=hT.a
   cases hs with
   |empty=>
    have cR:((cG i none o').getD i none).isSome=true:=cR.2.1
    rw[jH ba]at cR
    cases cR
   |@jA pd dd tk st ts vm vc ex x hD=>
    have hS:=aG.2 i x (jH ba)
    have bM: ∀{x':kM}{cE:tR}{zs:List Int},worked (cG i (some x) o') (.apart i p.toNat mo)=(cG i (some x') o',cE)->fz cE=zs->dq ad H pd dd tk st ex (m'++[dl,td]) x' zs Q:=tz (ts:=ts) (vm:=vm) (vc:=vc) hT k
    exists _,rfl,pn,_,_,V.int 9,rfl,rfl,ff,bc (j:=0) rfl
    exists _,rfl,pn,_,_,iv i,rfl,rfl,ff,bc (j:=1) rfl
    exists _,rfl,rfl,_,rfl
    refine Ga (by room) ?_
    exists _,rfl,_,rfl,dl,_,_,.ref pd,rfl,rfl,tD,bc (fe ba)
    iterate 7(exists _,rfl,rfl,_,rfl;refine Ga (by room) ?_)
    exists _,rfl,pd,dd,_,rfl,hD.obj,mD (by x_go) _ _ _ _
    obtain⟨j,rfl⟩: ∃j:Nat,p=(j:Int):=⟨p.toNat,by omega⟩
    rw[jf]at bM cR
    have sO:j<2:=by omega
    have hb:=hT.b
    have Fv:i≠j:=cR.1
    cases hb with
    |empty=>
     have cR:((cG i (some x) none).getD j none).isSome=true:=cR.2.2
     rw[apO ba sO Fv]at cR
     cases cR
    |@jA pe de te se us um uc ey y hE=>
     exists _,rfl,_,rfl,pn,_,_,iv j,rfl,rfl,ff,rfl,dl,_,_,.ref pe,rfl,rfl,tD,bc (Fu ba sO Fv),_,rfl,pn,_,_,V.int mo,rfl,rfl,ff,rfl
     refine⟨pd,dd,tk,st,pe,de,te,se,ts,us,vm,vc,um,uc,ex,_,ey,x,y,mo,rfl,hD,hE,λc=>bM (x':=x) (cE:=jk (-2)) ?_ rfl,λc c2=>bM (x':=x) (cE:=jk (-4)) ?_ rfl,λM N c c2 c4=>⟨λc3=>bM (x':=x) (cE:=jk (-1)) ?_ rfl,λwd c3=>bM (x':=x) (cE:=asK wd mo) ?_ rfl⟩⟩
     ·simp[worked,iD,fe ba,ij ba,jN,iZ,c]
     ·rcases c2 with c2|c2
      ·simp[worked,iD,fe ba,ij ba,jN,iZ,c,c2]
      ·simp[worked,iD,fe ba,Fu ba sO Fv,c,c2]
     ·simp[worked,iD,fe ba,Fu ba sO Fv,c,c2,c4,c3]
     ·simp[worked,iD,fe ba,Fu ba sO Fv,c,c2,c4,c3]
end
end Bp
namespace Bp
open PySem PySem.Spec PyProof.Rows L2
open Sw15 (worked There Both)
open BM (fz i5 l9 vk)
def apR(h:i5 l x t): ∃f wd n i,l[0]?=some f/\Fq.lookup f=some ((wd:Nat):Int)/\(f≠6->n=1+wd)/\(f=6-> ∃ln:Nat,l[wd]?=some ((ln:Nat):Int)/\n=1+wd+ln)/\t=l.drop n/\i5 (l.take n) x []/\(l.take n)[1]?=some ((i:Nat):Int)/\i<2/\0<n/\n<=l.length:=by
 cases h with
 |open_ o _ h0 h2=>exact⟨1,1,2,o.toNat,rfl,rfl,λ_=>rfl,λe=>absurd e (by room),rfl,.open_ o [] h0 h2,by rw[abt h0];rfl,by omega,by room,by simp⟩
 |state o k _ h0 h2=>exact⟨2,2,3,o.toNat,rfl,rfl,λ_=>rfl,λe=>absurd e (by room),rfl,.state o k [] h0 h2,by rw[abt h0];rfl,by omega,by room,by simp⟩
 |step o a l h b _ h0 h2=>exact⟨3,5,6,o.toNat,rfl,rfl,λ_=>rfl,λe=>absurd e (by room),rfl,.step o a l h b [] h0 h2,by rw[abt h0];rfl,by omega,by room,by simp⟩
 |make o _ h0 h2=>exact⟨4,1,2,o.toNat,rfl,rfl,λ_=>rfl,λe=>absurd e (by room),rfl,.make o [] h0 h2,by rw[abt h0];rfl,by omega,by room,by simp⟩
 |row o i _ h0 h2=>exact⟨5,2,3,o.toNat,rfl,rfl,λ_=>rfl,λe=>absurd e (by room),rfl,.row o i [] h0 h2,by rw[abt h0];rfl,by omega,by room,by simp⟩
 |takes o n w _ h0 h2 hw hl=>
  refine⟨6,3,4+w.length,o.toNat,rfl,rfl,λe=>absurd rfl e,λ_=>⟨w.length,rfl,rfl⟩,?_,?_,?_,by omega,by lia,by simp;lia⟩
  ·rw[ab5];simp
  ·have:=i5.takes o n w [] h0 h2 hw hl;fin2
  ·rw[abt h0,ab5];rfl
 |count o n _ h0 h2=>exact⟨7,2,3,o.toNat,rfl,rfl,λ_=>rfl,λe=>absurd e (by room),rfl,.count o n [] h0 h2,by rw[abt h0];rfl,by omega,by room,by simp⟩
 |word o k m _ h0 h2 h3 h4=>exact⟨8,3,4,o.toNat,rfl,rfl,λ_=>rfl,λe=>absurd e (by room),rfl,.word o k m [] h0 h2 h3 h4,by rw[abt h0];rfl,by omega,by room,by simp⟩
 |apart o p m _ h0 h2 h3 h4=>exact⟨9,3,4,o.toNat,rfl,rfl,λ_=>rfl,λe=>absurd e (by room),rfl,.apart o p m [] h0 h2 h3 h4,by rw[abt h0];rfl,by omega,by room,by simp⟩
def CK(K:aP)(H:Hp)(a:ag)(xs:List V):Prop:=(∃o,H a=some (.bu o (.af xs)))\/ ∀H':Hp,aJ K H' a xs
def CK.sq{K:aP}(h:CK K H a xs):aJ K H a xs:=by
 rcases h with⟨o,h⟩|h
 ·exact .inl (.inr ⟨o,h⟩)
 ·exact h H
def CK.to{K:aP}(h:CK K H a xs)(e: ∀o u,H a=some (.bu o u)->H' a=some (.bu o u)):CK K H' a xs:=by
 rcases h with⟨o,h⟩|h
 ·exact .inl ⟨o,e _ _ h⟩
 ·exact .inr h
def aaC(h:H a=some (.bu o u)):¬c_ H a:=by
 rintro(⟨xs,e⟩|⟨C,d,fs,e⟩)<;>rw[h]at e<;>cases e
def apS(cs:List Int)(h:a+n<=cs.length):k5 (cs.map V.int) (some (a:Int)) (some ((a+n:Nat):Int))=((cs.drop a).take n).map V.int:=by
 unfold k5;rw[HT.yc,HT.yc,ax,FL (show a<=cs.length by lia),FL h,Qq,abN,ash]
section
variable{P:bj}{w:a_}{K:aP}{mg:Str->Option au}{base:Heap}{ad:Ad}
def ly.put{dl td:ag}(h:ly ad H dl td m m' v v' o o' xs)(ys:List V):ly ad (aa H td (.af ys)) dl td m m' v v' o o' xs:=by
 have up: ∀c o,c≠td->H c=some o->aa H td (.af ys) c=some o:=λc o n e=>by rw[aw n];exact e
 obtain⟨zs,ez⟩:=h.told;have nt: ∀c xs,H c=some (.aE xs)->aa H td (.af ys) c=some (.aE xs):=λc xs e=>up _ _ (λz=>by lk) e;have so:al (fc (m++(m'++[dl,td])) H) (fc (m++(m'++[dl,td])) (aa H td (.af ys))):=λc o e=>by
  obtain⟨n,e⟩:=lU e;exact oX (up _ _ (λz=>n (by rw[z];simp)) e) n
 exact⟨up _ _ h.ds.2.2.2.2 h.af,⟨_,ao⟩,h.a.to so (λc hc o e=>up _ _ (λz=>h.ds.2.2.1 (z▸hc)) e) nt λc hc=>jK _ hc,h.b.to so (λc hc o e=>up _ _ (λz=>h.ds.2.2.2.1 (z▸hc)) e) nt λc hc=>lV _ (jK _ hc),h.Fs,h.ds⟩
def P6(K:aP):Sp:=λvs H Q _=> ∃ac cs,vs=[.ref ac]/\CK K H ac (cs.map V.int)/\cs.length<=16000/\aa_ cs=true/\ ∀H' q,H' q=some (.af ((FM cs).map V.int))->Q (.ref q) H'
structure Lp(K:aP)(ad:Ad)(ac dl td:ag)(cs:List Int)(H:Hp)(pl:Nat):Prop where
 ck:CK K H ac (cs.map V.int)
 le:pl<=cs.length
 st: ∃(m m':bp)(v v':V)(o o':Option kM)(ys out:List Int),ly ad H dl td m m' v v' o o' [v,v']/\H td=some (.af (ys.map V.int))/\l9 [o,o']/\vk [o,o'] (cs.drop pl) out/\FM cs=ys++out
def apT{dl td pn:ag}(hT:ly ad H dl td m m' v v' o o' [v,v'])(hp:H pn=some (.af (ns.map V.int)))(h1:pn∉m)(h2:pn∉m')(h3:pn≠dl)(hR:i5 ns x [])(ht:There [o,o'] x)(ha:l9 [o,o'])(hi:ns[1]?=some ((i:Nat):Int))(ba:i<2)
  (k: ∀H' n n' u u' p p' q,ly ad H' dl td n n' u u' p p' [u,u']->(worked [o,o'] x).1=[p,p']->(∀c o,c∉m->c∉m'->c≠dl->H c=some o->H' c=some o)->H' q=some (.af ((fz (worked [o,o'] x).2).map V.int))->H q=none->Q (.ref q) H'):aaB K ad [.ref dl,.ref pn] H Q E:=by
 rcases zT ba with rfl|rfl
 ·exact⟨dl,td,pn,m,m',v,v',o,o',0,ns,x,rfl,hp,hT,h1,h2,h3,hR,ht,ha,hi,ba,λo2 e H' m2 v2 q a b c d=>k H' m2 m' v2 v' o2 o' q a e b c d⟩
 ·exact⟨dl,td,pn,m',m,v',v,o',o,1,ns,x,rfl,hp,hT.aaA,h2,h1,h3,hR,ht,ha,hi,ba,λo2 e H' m2 v2 q a b c d=>k H' m m2 v v2 o o2 q a.aaA e (λc o n1 n2 n3 e=>b c o n2 n1 n3 e) c d⟩
def apU(T:cp K mg ad)(hne:ad.b0≠ad.cb)(gW:BZ K mg "WIDTHS" Fq):bN P w K mg base bX 16 ad.Et ad.yP ["calls"] (P6 K):=by
 refine T.W4.ok wx (λvs H Q E h=>?_) (λbB A aY s H vs Q E hr h=>?_)
 ·obtain⟨ac,cs,rfl,_⟩:=h;rfl
 ·obtain⟨ac,cs,rfl,hck,gg,P7,kk⟩:=h;exists _,(aC (bP (i:=1) wx.nd (cH (ak si (ak si ay)))) (aC (bP (i:=2) wx.nd (cH ay)) (aC (bP (i:=3) wx.nd bm) (aC (pN eR (dY sv (pv 3) (d4 eX (by rfl) T.ee eI (ak (pv 0) ay)) (dG _)) (aC (bP (i:=4) wx.nd (gy (apK T gW) hr.m rfl T.akK T.W3.kp T.akJ .nil bE (ak (pv 0) (ak (pv 3) ay)))) (aC (bP (i:=5) wx.nd (gy (apP T hne) hr.m rfl T.akI T.W2.kp T.akH .nil bE (ak (pv 1) (ak (yd yf (pv 0) (vO (pv 3)) (vO (pv 4))) ay)))) (aC (ga (ic iB jJ j0 jy (pv 2) (ak (d4 eX (by rfl) T.ee eI (ak (pv 5) ay)) ay))) (aC (ga (ic iB JS Qo G9 (pv 2) (ak (pv 5) ay))) (aK (bP (i:=3) wx.nd (pv 4)))))))) (aK (bK (pv 2)))))))
  rfl'
  obtain⟨sy,M7⟩:=BM.ac8 P7;refine⟨(cA rfl),λdl qQ=>?_⟩;have s1:=al.new (o:=.af [V.aX,V.aX]) qQ;have mx:aa H dl (.af [V.aX,V.aX]) dl=_:=ao;generalize aa H dl (.af [V.aX,V.aX])=H1 at s1 mx⊢;refine⟨cX _,λtd zU=>?_⟩;have s2:=al.new (o:=.af []) zU;have lr:aa H1 td (.af []) td=_:=ao;have ndt:dl≠td:=λe=>by lk
  generalize aa H1 td (.af [])=H2 at s2 lr⊢;have dQ:=s1.trans s2;exists λm σ H'=> ∃pl v4 v5,σ=[some (.ref ac),some (.ref dl),some (.ref td),some (iv pl),v4,v5]/\Lp K ad ac dl td cs H' pl/\m=cs.length-pl,⟨_,0,none,none,rfl,⟨hck.to λo u e=>dQ _ _ e,cX _,[],[],.aX,.aX,none,none,[],_,⟨s2 _ _ mx,⟨_,lr⟩,.empty,.empty,λc hc=>(by cases hc),(λh=>by cases h),(λh=>by cases h),(λh=>by cases h),(λh=>by cases h),ndt⟩,lr,l9.start,sy,rfl⟩,rfl⟩
  rintro n σ H' ⟨pl,v4,v5,rfl,hL,rfl⟩;have AB:=hL.ck.sq;exists _,rfl,_,rfl,ac,_,rfl,.inl AB,_,_,rfl,rfl,_,rfl;refine bq (λc=>?_) (λc=>?_)
  ·have a9:pl<cs.length:=by
    lk
   exists fun aL H2=> ∃m',m'<cs.length-pl/\ ∃pl v4 v5,aL=[some (.ref ac),some (.ref dl),some (.ref td),some (iv pl),v4,v5]/\Lp K ad ac dl td cs H2 pl/\m'=cs.length-pl,fun aL H2 h=>h;obtain⟨m,m',v,v',o,o',ys,out,hT,zU,aG,mF,P9⟩:=hL.st;have qQ:(cs.drop pl).length=cs.length-pl:=abB;generalize hl:cs.drop pl=l at mF qQ
   cases mF with
   |nil=>rw[abH]at qQ;omega
   |@cons _ _ t out x hR cR uM=>
    obtain⟨f,wd,n,i,hf,hw,Zf,E6,rfl,hRn,hi,ba,hn0,hnl⟩:=apR hR;subst hl;rw[arm]at hf;have BJ: ∀{R:VK}{E:XK},R (iv (pl+n)) H'->P2 K [.ref ac,iv pl] H' R E:=λ{R E}r=>by
     refine⟨ac,cs,pl,wd,f,rfl,AB,hf,hw,λe=>?_,λe=>?_⟩
     ·rw[Zf e,←abV]at r;exact r
     ·obtain⟨ln,e1,e2⟩:=E6 e;rw[arm]at e1;exists ln,e1;rw[e2,<-abV,<-abV]at r;exact r
    exists _,rfl,_,rfl;unfold x9;refine BJ ?_;refine⟨_,rfl,_,rfl,_,rfl,_,rfl,_,rfl,_,rfl,ac,_,rfl,AB,λpn q_=>?_⟩;rw[apS cs (by omega)];have s3:=al.new (o:=.af (((cs.drop pl).take n).map V.int)) q_;have ii:aa H' pn (.af (((cs.drop pl).take n).map V.int)) pn=_:=ao;generalize aa H' pn (.af (((cs.drop pl).take n).map V.int))=H3 at s3 ii⊢;have np: ∀{c:ag},c_ H' c->pn≠c:=λ{c}hc e=>by
     obtain⟨o,eo⟩:=hc.there;rw[<-e,q_]at eo;cases eo
    refine apT (K:=K) (E:=E) (hT.new s3) ii (λh=>np (hT.a.nT _ h) rfl) (λh=>np (hT.b.nT _ h) rfl) (np (.inl ⟨_,hT.af⟩)) hRn cR aG hi ba λH4 n1 n2 u u' p p' q hT4 bW f4 hq oW=>?_;have aaD:H4 td=some (.af (ys.map V.int)):=f4 _ _ hT.ds.2.2.1 hT.ds.2.2.2.1 (λe=>hT.ds.2.2.2.2 e.symm) (s3 _ _ zU);have apV:CK K H4 ac (cs.map V.int):=hL.ck.to λo u e=>f4 _ _ (λz=>aaC e (hT.a.nT _ z)) (λz=>aaC e (hT.b.nT _ z)) (λz=>by rw[z,hT.af]at e;cases e) (s3 _ _ e);have atN:ys.length+((fz (worked [o,o'] x).2).length+1+out.length)=(FM cs).length:=by
     rw[P9,dS,nX,dS];lia
    have nqt:q≠td:=λe=>by rw[e,s3 _ _ zU]at oW;cases oW
    refine⟨_,rfl,.inl ⟨rfl,_,aJ.of aaD⟩,_,rfl,q,_,rfl,.inl (aJ.of hq),td,_,_,rfl,rfl,aaD,by rw[ax];exact cz (by lia),?_⟩;have hT5:=hT4.put (ys.map V.int++[V.int ((((fz (worked [o,o'] x).2).map V.int).length:Nat):Int)]);have aaE:CK K (aa H4 td (.af (ys.map V.int++[V.int ((((fz (worked [o,o'] x).2).map V.int).length:Nat):Int)]))) ac (cs.map V.int):=apV.to λo u e=>by rw[aw (λz=>by lk)];exact e
    have fW:aa H4 td (.af (ys.map V.int++[V.int ((((fz (worked [o,o'] x).2).map V.int).length:Nat):Int)])) q=_:=(aw nqt).trans hq;have P_:aa H4 td (.af (ys.map V.int++[V.int ((((fz (worked [o,o'] x).2).map V.int).length:Nat):Int)])) td=_:=ao;generalize aa H4 td (.af (ys.map V.int++[V.int ((((fz (worked [o,o'] x).2).map V.int).length:Nat):Int)]))=H5 at hT5 aaE fW P_⊢;refine⟨_,rfl,.inl ⟨rfl,_,aJ.of P_⟩,_,rfl,td,q,_,_,rfl,rfl,P_,fW,by rw[dS,ax,ax];exact kr (by show _+1+_≤_;lia),?_⟩;refine⟨_,rfl,_,?_,pl+n,_,_,rfl,⟨aaE.to λo u e=>by rw[aw (λz=>by lk)];exact e,by omega,n1,n2,u,u',p,p',ys++(((fz (worked [o,o'] x).2).length:Nat):Int)::fz (worked [o,o'] x).2,out,hT5.put _,?_,?_,?_,?_⟩,rfl⟩
    ·omega
    ·rw[ao,ax];simp
    ·rw[<-bW];exact aG.worked x
    ·lk
    ·lk
  ·obtain⟨m,m',v,v',o,o',ys,out,hT,zU,aG,mF,P9⟩:=hL.st;have mq:cs.length<=pl:=by
    lk
   rw[List.drop_eq_nil_of_le mq]at mF
   cases mF with
   |nil=>
    rw[lE]at P9;refine⟨_,rfl,kk _ td ?_⟩;rw[P9];exact zU
   |cons hR=>cases hR
end
end Bp
section
namespace L2
open PySem PySem.Spec PyProof.Rows
open PySem.W (WData Codec OpenSpec Well WellAll ReadsW ReadsAllW)
mutual
inductive Dw (K:aP) (H:Hp):V->WData->Prop
 |aX:Dw K H .aX .none
 |bl (b:Bool):Dw K H (.bl b) (.bool b)
 |int (i:Int):Dw K H (.int i) (.int i)
 |str (x:Str):Dw K H (.str x) (.str x)
 |j9 (b:Array UInt8):Dw K H (.j9 b) (.bytes b.toList)
 |af {a:ag} {xs:List V} {ds:List WData}:aJ K H a xs->oZ K H xs ds->Dw K H (.ref a) (.list ds)
 |aE {a:ag} {xs:List V} {ds:List WData}:c8 K H a xs->oZ K H xs ds->Dw K H (.ref a) (.tuple ds)
inductive oZ (K:aP) (H:Hp):List V->List WData->Prop
 |nil:oZ K H [] []
 |cons {v:V} {vs:List V} {d:WData} {ds:List WData}:Dw K H v d->oZ K H vs ds->oZ K H (v::vs) (d::ds)
end
def aaF{K:aP}{H:Hp}: ∀ns:List Int,oZ K H (ns.map V.int) (ns.map asL)
 |[]=>.nil
 |n::r=>.cons (.int n) (aaF r)
theorem aaG{K:aP}{H:Hp}: ∀(ns:List Int) xs,oZ K H xs (ns.map asL)->xs=ns.map V.int
 |[],xs,h=>by
  cases h;rfl
 |n::r,xs,h=>by
  cases h with
  |cons h1 h2=>
   cases h1;rw[aaG r _ h2]<;>rfl
section
variable{P:bj}{w:a_}{K:aP}{H:Hp}{h:Heap}{R:aq9}{cl:Str->Option ag}
def apW(aG:d_ P w H h)(KX:K.In h)(q:aJ K H a xs): ∃its o n,bd xs its/\h.get? a=some o/\o.cls=.type "list" /\o.data=.seq its.toArray n:=by
 rcases q with q|⟨o,its,n,e,hc,_,hd,_,hv⟩
 ·obtain⟨_,its,n,hv,e⟩:=(q.ok aG)
  exact⟨its,_,n,hv,e,rfl,rfl⟩
 ·exact⟨its.toList,o,n,hv,KX _ _ e,hc,by simp[hd]⟩
def apX(aG:d_ P w H h)(KX:K.In h)(q:c8 K H a xs): ∃its o n,bd xs its/\h.get? a=some o/\o.cls=.type "tuple" /\o.data=.seq its.toArray n:=by
 rcases q with q|⟨o,its,n,e,hc,hd,_,hv⟩
 ·obtain⟨_,its,hv,o,e,hc,n,hd⟩:=(q.ok aG)
  exact⟨its,o,n,hv,e,hc,hd⟩
 ·exact⟨its.toList,o,n,hv,KX _ _ e,hc,by simp[hd]⟩
mutual
theorem Dw.aaH (aG:d_ P w H h) (KX:K.In h): ∀d v u,Dw K H v d->bJ v u-> ∃as,ReadsW R cl h u d as
 |.none,_,_,x,r=>by
  cases x
  cases r;exact⟨_,ReadsW.none⟩
 |.bool b,_,_,x,r=>by
  cases x
  cases r;exact⟨_,ReadsW.bool b⟩
 |.int i,_,_,x,r=>by
  cases x;obtain⟨t,rfl⟩:=r;exact⟨_,ReadsW.int i t⟩
 |.str s,_,_,x,r=>by
  cases x;obtain⟨t,rfl⟩:=r;exact⟨_,ReadsW.str s t⟩
 |.bytes b,_,_,x,r=>by
  cases x;obtain⟨t,rfl⟩:=r;exact⟨_,ReadsW.bytes _ t⟩
 |.list ds,_,_,x,r=>by
  cases x with
  |af hs ha=>
   cases r;obtain⟨its,o,n,rv,ho,hc,hd⟩:=apW aG KX hs;obtain⟨as,hr⟩:=Dw.P' aG KX ds _ its ha rv;exact⟨_,ReadsW.list ho hc hd hr⟩
 |.tuple ds,_,_,x,r=>by
  cases x with
  |aE hs ha=>
   cases r;obtain⟨its,o,n,rv,ho,hc,hd⟩:=apX aG KX hs;obtain⟨as,hr⟩:=Dw.P' aG KX ds _ its ha rv;exact⟨_,ReadsW.tuple ho hc hd hr⟩
 |.float _,_,_,x,_=>by cases x
 |.dict _,_,_,x,_=>by cases x
 |.bytearray _,_,_,x,_=>by cases x
 |.set _,_,_,x,_=>by cases x
 |.frozenset _,_,_,x,_=>by cases x
 |.obj _ _,_,_,x,_=>by cases x
theorem Dw.P' (aG:d_ P w H h) (KX:K.In h): ∀ds vs us,oZ K H vs ds->bd vs us-> ∃as,ReadsAllW R cl h us ds as
 |[],_,_,x,r=>by
  cases x
  cases r;exact⟨_,auv⟩
 |d::ds,_,_,x,r=>by
  cases x with
  |cons h1 h2=>
   cases r with
   |cons r1 r2=>
    obtain⟨as,q1⟩:=Dw.aaH aG KX d _ _ h1 r1;obtain⟨bs,q2⟩:=Dw.P' aG KX ds _ _ h2 r2;exact⟨_,auw q1 q2⟩
end
end
mutual
def o0:WData->Bool
 |.none=>true
 |.bool _=>true
 |.int _=>true
 |.str _=>true
 |.bytes _=>true
 |.list xs=>rG xs
 |.tuple xs=>rG xs
 |_=>false
def rG:List WData->Bool
 |[]=>true
 |x::r=>o0 x&&rG r
end
def aaI{α:Type}{f:α->WData}(h: ∀a,o0 (f a)=true): ∀l:List α,rG (l.map f)=true
 |[]=>rfl
 |x::r=>by
  show(o0 (f x)&&rG (r.map f))=true;rw[h x,aaI h r]<;>rfl
theorem uX: ∀(c:Codec) a,o0 (c.enc a)=true
 |.unit,_=>rfl
 |.bool,_=>rfl
 |.int _ _,_=>rfl
 |.nat _ _,_=>rfl
 |.u8,_=>rfl
 |.bytes _ _,_=>rfl
 |.text _ _ _ _,_=>rfl
 |.list _ _ c,a=>aaI (λx=>uX c x) a
 |.pair c d,a=>by
  show(o0 (c.enc a.1)&&(o0 (d.enc a.2)&&true))=true;rw[uX c a.1,uX d a.2]<;>rfl
 |.triple c d e,a=>by
  show(o0 (c.enc a.1)&&(o0 (d.enc a.2.1)&&(o0 (e.enc a.2.2)&&true)))=true;rw[uX c a.1,uX d a.2.1,uX e a.2.2]<;>rfl
 |.option c,none=>rfl
 |.option c,some x=>uX c x
def aaJ: ∀cs a,rG (FR cs a)=true
 |[],_=>rfl
 |c::cs,a=>by
  show(o0 (c.enc a.1)&&rG (FR cs a.2))=true;rw[uX c a.1,aaJ cs a.2]<;>rfl
theorem Qa: ∀{xs:List WData}{d:WData},d∈xs->d.weight<=arH xs
 |[],d,h=>absurd h (by simp)
 |x::r,d,h=>by
  show d.weight<=x.weight+1+arH r;rcases cO.mp h with e|m
  ·rw[e];lia
  ·have z:=Qa m;lia
def toV:au->V
 |.none=>.aX
 |.bool b=>.bl b
 |.int i _=>.int i
 |.str x _=>.str x
 |.bytes b _=>.j9 b
 |.ref a=>.ref a
 |_=>.aX
def nU(A:bp):au->Prop
 |.none=>True
 |.bool _=>True
 |.int _ _=>True
 |.str _ _=>True
 |.bytes _ _=>True
 |.ref a=>a∈A
 |_=>False
def nU.mono(h: ∀a∈A,a∈B): ∀{u:au},nU A u->nU B u:=λ{u}x=>by
 cases u with
 |ref a=>exact h a x
 |none=>trivial
 |bool b=>trivial
 |int i t=>trivial
 |str s t=>trivial
 |bytes b t=>trivial
 |_=>exact lG x
def apY(x:nU A u):bJ (toV u) u:=by
 cases u with
 |ref a=>rfl
 |none=>rfl
 |bool b=>rfl
 |int i t=>exact⟨t,rfl⟩
 |str s t=>exact⟨t,rfl⟩
 |bytes b t=>exact⟨t,rfl⟩
 |_=>exact lG x
def zV{A:bp}: ∀{vs:List au},(∀u∈vs,nU A u)->bd (vs.map toV) vs
 |[],_=>.nil
 |u::r,h=>.cons (apY (h u (eG ..))) (zV λx hx=>h x (e5 _ hx))
def o4(h:Heap)(A:bp)(a:ag):Prop:= ∃vs:List au,vs.length<=bh/\(∀u∈vs,nU A u)/\(h.get? a=some {cls:=.type "list",data:=.seq vs.toArray}\/h.get? a=some {cls:=.type "tuple",data:=.seq vs.toArray})
def o4.mono(k: ∀a∈A,a∈B)(x:o4 h A a):o4 h B a:=by
 obtain⟨vs,h1,h2,h3⟩:=x;exact⟨vs,h1,λu hu=>(h2 u hu).mono k,h3⟩
def JG{P:F_}{h:Heap}: ∀{vs:List au}{ds:List WData},WellAll P h vs ds->vs.length=ds.length
 |_,_,.nil=>rfl
 |_,_,.cons _ b=>by
  show _+1=_+1;rw[JG b]
def aaK(x:Well P h v (.list ds)): ∃a vs,v=.ref a/\h.get? a=some {cls:=.type "list",data:=.seq vs.toArray}/\WellAll P h vs ds:=by
 cases x with
 |list ho lO=>exact⟨_,_,rfl,ho,lO⟩
def aaL(x:Well P h v (.tuple ds)): ∃a vs,v=.ref a/\h.get? a=some {cls:=.type "tuple",data:=.seq vs.toArray}/\WellAll P h vs ds:=by
 cases x with
 |tuple ho lO=>exact⟨_,_,rfl,ho,lO⟩
def aaM(x:WellAll P h us (d::ds)): ∃v vs,us=v::vs/\Well P h v d/\WellAll P h vs ds:=by
 cases x with
 |cons a b=>exact⟨_,_,rfl,a,b⟩
def AA(h:n<=1048576):n<=bh:=gn h (by room)
section
variable{P:F_}{h:Heap}
mutual
theorem apZ: ∀d v,Well P h v d->o0 d=true->d.weight<=1048576-> ∃A:bp,nU A v/\ ∀a∈A,o4 h A a
 |.none,_,x,_,_=>by
  cases x;exact⟨[],trivial,λa m=>absurd m (by simp)⟩
 |.bool b,_,x,_,_=>by
  cases x;exact⟨[],trivial,λa m=>absurd m (by simp)⟩
 |.int i,_,x,_,_=>by
  cases x;exact⟨[],trivial,λa m=>absurd m (by simp)⟩
 |.str s,_,x,_,_=>by
  cases x;exact⟨[],trivial,λa m=>absurd m (by simp)⟩
 |.bytes b,_,x,_,_=>by
  cases x;exact⟨[],trivial,λa m=>absurd m (by simp)⟩
 |.list ds,_,x,p,z=>by
  obtain⟨a,vs,rfl,ho,lO⟩:=aaK x;have z2:=z;obtain⟨A,h1,h2⟩:=JH ds _ lO p λd hd=>gn (Qa hd) z2;have k: ∀b∈A,b∈a::A:=λb hb=>e5 _ hb;refine⟨a::A,eG ..,λb hb=>?_⟩;rcases cO.mp hb with e|m
  ·rw[e];exact⟨vs,AA (by rw[JG lO];exact gn (aqn ds) z2),λu hu=>(h1 u hu).mono k,.inl ho⟩
  ·exact(h2 b m).mono k
 |.tuple ds,_,x,p,z=>by
  obtain⟨a,vs,rfl,ho,lO⟩:=aaL x;have z2:=z;obtain⟨A,h1,h2⟩:=JH ds _ lO p λd hd=>gn (Qa hd) z2;have k: ∀b∈A,b∈a::A:=λb hb=>e5 _ hb;refine⟨a::A,eG ..,λb hb=>?_⟩;rcases cO.mp hb with e|m
  ·rw[e];exact⟨vs,AA (by rw[JG lO];exact gn (aqn ds) z2),λu hu=>(h1 u hu).mono k,.inr ho⟩
  ·exact(h2 b m).mono k
 |.float _,_,_,p,_=>o7 (p)
 |.dict _,_,_,p,_=>o7 (p)
 |.bytearray _,_,_,p,_=>o7 (p)
 |.set _,_,_,p,_=>o7 (p)
 |.frozenset _,_,_,p,_=>o7 (p)
 |.obj _ _,_,_,p,_=>o7 (p)
theorem JH: ∀ds vs,WellAll P h vs ds->rG ds=true->(∀d∈ds,d.weight<=1048576)-> ∃A:bp,(∀u∈vs,nU A u)/\ ∀a∈A,o4 h A a
 |[],_,x,_,_=>by
  cases x;exact⟨[],λu m=>absurd m (by simp),λa m=>absurd m (by simp)⟩
 |d::ds,_,x,p,z=>by
  obtain⟨v,vs,rfl,x1,x2⟩:=aaM x;have q:=aq5.mp p;obtain⟨A,a1,a2⟩:=apZ d v x1 q.1 (z d (eG ..));obtain⟨B,b1,b2⟩:=JH ds vs x2 q.2 λe he=>z e (e5 _ he);have kA: ∀b∈A,b∈A++B:=λb hb=>cN.mpr (.inl hb);have kB: ∀b∈B,b∈A++B:=λb hb=>cN.mpr (.inr hb);refine⟨A++B,λu hu=>?_,λb hb=>?_⟩
  ·rcases cO.mp hu with e|m
   ·rw[e];exact a1.mono kA
   ·exact(b1 u m).mono kB
  ·rcases cN.mp hb with m|m
   ·exact(a2 b m).mono kA
   ·exact(b2 b m).mono kB
end
end
def JI(o:Obj):Option HO:=match o.data with
 |.seq vs _=>if(o.cls==kJ "list")=true then some (.bu o (.af (vs.toList.map toV)))else some (.bu o (.aE (vs.toList.map toV)))
 |_=>none
def jI(K:aP)(h:Heap)(A:bp):Hp:=λb=>if b∈A then(if(K.lookup b).isNone=true then(h.get? b).bind JI else none)else none
def Fw(H:Hp):Prop:= ∀b,H b=none\/ ∃o u,H b=some (.bu o u)
def aaN(vs:List au):JI {cls:=.type "list",data:=.seq vs.toArray}=some (.bu {cls:=.type "list",data:=.seq vs.toArray} (.af (vs.map toV))):=by
 show(if(kJ "list" ==kJ "list")=true then some (HO.bu {cls:=.type "list",data:=.seq vs.toArray} (.af (vs.toArray.toList.map toV)))else some (HO.bu {cls:=.type "list",data:=.seq vs.toArray} (.aE (vs.toArray.toList.map toV))))=_;simp
def aaO(vs:List au):JI {cls:=.type "tuple",data:=.seq vs.toArray}=some (.bu {cls:=.type "tuple",data:=.seq vs.toArray} (.aE (vs.map toV))):=by
 show(if(kJ "tuple" ==kJ "list")=true then some (HO.bu {cls:=.type "tuple",data:=.seq vs.toArray} (.af (vs.toArray.toList.map toV)))else some (HO.bu {cls:=.type "tuple",data:=.seq vs.toArray} (.aE (vs.toArray.toList.map toV))))=_;rw[if_neg (by room)]
section
variable{P:bj}{w:a_}{K:aP}{h:Heap}{A:bp}
def JJ(hb:b∈A)(hk:K.lookup b=none)(e:h.get? b=some o):jI K h A b=JI o:=by
 unfold jI;fin2
def ap0(q:jI K h A b=some u):b∈A/\K.lookup b=none:=by
 unfold jI at q;by_cases hb:b∈A
 ·rw[if_pos hb]at q
  cases hk:K.lookup b with
  |none=>exact⟨hb,rfl⟩
  |some o=>
   lk
 ·lk
def JK(ar: ∀a∈A,o4 h A a)(q:jI K h A b=some u):K.lookup b=none/\ ∃vs:List au,vs.length<=bh/\(∀u∈vs,nU A u)/\((h.get? b=some {cls:=.type "list",data:=.seq vs.toArray}/\u=.bu {cls:=.type "list",data:=.seq vs.toArray} (.af (vs.map toV)))\/(h.get? b=some {cls:=.type "tuple",data:=.seq vs.toArray}/\u=.bu {cls:=.type "tuple",data:=.seq vs.toArray} (.aE (vs.map toV)))):=by
 obtain⟨hb,hk⟩:=ap0 q;obtain⟨vs,h1,h2,h3⟩:=ar b hb;exists hk,vs,h1,h2;rcases h3 with e|e
 ·rw[JJ hb hk e,aaN]at q;lk
 ·rw[JJ hb hk e,aaO]at q;lk
def ap1(ar: ∀a∈A,o4 h A a):Fw (jI K h A):=λb=>by
 cases q:jI K h A b with
 |none=>exact .inl rfl
 |some u=>
  obtain⟨_,vs,_,_,⟨_,e⟩|⟨_,e⟩⟩:=JK ar q
  ·exact .inr ⟨_,_,by rw[e]⟩
  ·exact .inr ⟨_,_,by rw[e]⟩
def ap2(ar: ∀a∈A,o4 h A a):d_ P w (jI K h A) h:=λb u q=>by
 obtain⟨_,vs,h1,h2,⟨e,rfl⟩|⟨e,rfl⟩⟩:=JK ar q
 ·exact⟨e,by lk,vs,_,zV h2,e⟩
 ·exact⟨e,by lk,vs,zV h2,_,e,rfl,_,rfl⟩
def ap3(KX:K.In h)(ar: ∀a∈A,o4 h A a){vs:List au}(ha:a∈A)(e:h.get? a=some {cls:=.type "list",data:=.seq vs.toArray}):(∀u∈vs,nU A u)/\aJ K (jI K h A) a (vs.map toV):=by
 obtain⟨us,h1,h2,h3⟩:=ar a ha;have hu:us=vs:=by
  lk
 subst hu;exists h2
 cases hk:K.lookup a with
 |none=>exact .inl (.inr ⟨_,by rw[JJ ha hk e,aaN]⟩)
 |some o=>
  have e2:=KX a o hk;rw[e]at e2;obtain rfl:=bv e2;exact .inr ⟨_,us.toArray,_,hk,rfl,rfl,rfl,by omega,by simpa using zV h2⟩
def ap4(KX:K.In h)(ar: ∀a∈A,o4 h A a){vs:List au}(ha:a∈A)(e:h.get? a=some {cls:=.type "tuple",data:=.seq vs.toArray}):(∀u∈vs,nU A u)/\c8 K (jI K h A) a (vs.map toV):=by
 obtain⟨us,h1,h2,h3⟩:=ar a ha;have hu:us=vs:=by
  lk
 subst hu;exists h2
 cases hk:K.lookup a with
 |none=>exact .inl (.inr ⟨_,by rw[JJ ha hk e,aaO]⟩)
 |some o=>
  have e2:=KX a o hk;rw[e]at e2;obtain rfl:=bv e2;exact .inr ⟨_,us.toArray,_,hk,rfl,rfl,by omega,by simpa using zV h2⟩
mutual
theorem ap5 {Pm:F_} (KX:K.In h) (ar: ∀a∈A,o4 h A a): ∀d v,Well Pm h v d->o0 d=true->nU A v->Dw K (jI K h A) (toV v) d
 |.none,_,x,_,_=>by
  cases x;exact .aX
 |.bool b,_,x,_,_=>by
  cases x;exact .bl b
 |.int i,_,x,_,_=>by
  cases x;exact .int i
 |.str s,_,x,_,_=>by
  cases x;exact .str s
 |.bytes b,_,x,_,_=>by
  cases x;have z:=Dw.j9 (K:=K) (H:=jI K h A) b.toArray;exact z
 |.list ds,_,x,p,hu=>by
  obtain⟨a,vs,rfl,ho,lO⟩:=aaK x;obtain⟨h2,hs⟩:=ap3 KX ar hu ho;exact .af hs (JL KX ar ds _ lO p h2)
 |.tuple ds,_,x,p,hu=>by
  obtain⟨a,vs,rfl,ho,lO⟩:=aaL x;obtain⟨h2,hs⟩:=ap4 KX ar hu ho;exact .aE hs (JL KX ar ds _ lO p h2)
 |.float _,_,_,p,_=>o7 (p)
 |.dict _,_,_,p,_=>o7 (p)
 |.bytearray _,_,_,p,_=>o7 (p)
 |.set _,_,_,p,_=>o7 (p)
 |.frozenset _,_,_,p,_=>o7 (p)
 |.obj _ _,_,_,p,_=>o7 (p)
theorem JL {Pm:F_} (KX:K.In h) (ar: ∀a∈A,o4 h A a): ∀ds vs,WellAll Pm h vs ds->rG ds=true->(∀u∈vs,nU A u)->oZ K (jI K h A) (vs.map toV) ds
 |[],_,x,_,_=>by
  cases x;exact .nil
 |d::ds,_,x,p,hu=>by
  obtain⟨v,vs,rfl,x1,x2⟩:=aaM x;have q:=aq5.mp p;exact .cons (ap5 KX ar d v x1 q.1 (hu _ (eG ..))) (JL KX ar ds vs x2 q.2 λu m=>hu u (e5 _ m))
end
end
def ap6{P:bj}{w:a_}{K:aP}{mg mb:Str->Option au}{CX:sw}{k:Nat}{fa:ag}{fd:aN}{ps:List Str}{sp:Sp}{c7:aR}{rH:List au}{ds:List WData}{R:aq9}{cl:Str->Option ag}{d0:WData}
  (KX:K.In c7.heap)(hns:c7.heap.Ns o9 mg)(hb:c7.heap.Ns acg mb)(hbb: ∀x:Str,x≠"__name__" ->mb x=Ak x)(ap7:c7.heap.NoLimit)(hg:c7.gens=#[])
  (oU:WellAll w.params c7.heap rH ds)(dH:rG ds=true)(hwt: ∀d∈ds,d.weight<=1048576)(hr:gb k FX)
  (F: ∀base:Heap,K.In base->base.Ns o9 mg->bN P w K mg base CX k fa fd ps sp)(ap8: ∀s us,us.length=ps.length->FY s fd ⟨us,[]⟩ (ps.zip us))(cS:ds.length=ps.length)
  (ny: ∀H xs,Fw H->oZ K H xs ds->sp xs H (λv H'=>Dw K H' v d0) λ_ _ _=>False)
  (Fx: ∀H e s',CX [] H c7 (λ_ _ _=>False) e s'->False):
  ph (model P w) FX (.call (.ref fa) ⟨rH,[]⟩) (λr s'=> ∃u as,r=.ok (.ret u)/\ReadsW R cl s'.heap u d0 as/\OldK c7.heap s'.heap/\s'.os=c7.os/\Ar s'.gens) c7:=by
 obtain⟨A,ho,ar⟩:=JH ds rH oU dH hwt
 have hO:Fw (jI K c7.heap A):=ap1 ar
 have aG:d_ P w (jI K c7.heap A) c7.heap:=ap2 ar
 have hS:=JL KX ar ds rH oU dH ho
 have hV:=zV ho
 have hK: ∀b u,jI K c7.heap A b=some u->K.lookup b=none:=λb u q=>(JK ar q).1
 have ya: ∀{b:ag}{o:Obj}{es:Array n9}{ep:Nat},c7.heap.get? b=some o->o.data=.dict es ep->jI K c7.heap A b=none:=λ{b o es ep}e d=>by
  cases q:jI K c7.heap A b with
  |none=>rfl
  |some u=>
   obtain⟨_,vs,_,_,⟨e2,_⟩|⟨e2,_⟩⟩:=JK ar q
   ·fin2
   ·rw[e2]at e
    cases e
    have d':=d
    cases d'
 generalize jI K c7.heap A=H at hO aG hS hK ya
 have aaP: ∀{b:ag}{o:Obj},c7.heap.get? b=some o->H b=none->(t7 c7.heap H).get? b=some o:=λe n=>ad3 e n
 have JM: ∀{b:ag}{m:Str->Option au},c7.heap.Ns b m->(t7 c7.heap H).Ns b m:=λ{b m}⟨o,es,ep,e,d,r⟩=>⟨o,es,ep,aaP e (ya e d),d,r⟩
 have nK: ∀b o,K.lookup b=some o->H b=none:=λb o e=>by
  cases q:H b with
  |none=>rfl
  |some u=>
   fin2
 have hKb:=λb o e=>aaP (KX b o e) (nK b o e)
 have hM:Mod K mg (t7 c7.heap H):=⟨hKb,JM hns,⟨mb,JM hb,hbb⟩,let⟨mc,h1,h2⟩:=ap7;⟨mc,JM h1,h2⟩⟩
 have e0:vM P w K mg (t7 c7.heap H) FX [] c7 H:=⟨rfl,hM,λb o e=>ad4 e,QX (ad2 _ _),trivial,λb hb=>absurd (show b∈([]:bp)from hb) (by simp),aG,.of_eq hg⟩
 have hl:rH.length=ps.length:=by rw[JG oU];exact cS
 refine vb ((F _ hKb (JM hns)).LV FX [] c7 H ⟨rH,[]⟩ rH (rH.map toV) _ _ hr e0 (ap8 c7 rH hl) hV (ny H _ hO hS)) λr s' x=>?_
 cases r with
 |error e=>exact(Fx H e s' x).elim
 |ok fl=>
  cases fl with
  |next=>exact lG x
  |brk=>exact lG x
  |cont=>exact lG x
  |ret u=>
   obtain⟨v,H',os,gV,un,aaQ,r',q⟩:=x
   have dX:=λb o e=>by
    cases q2:H b with
    |none=>exact un.keep b o e q2 (by intro z;exact absurd (show b∈([]:bp)from z) (by simp)) (by simp)
    |some u2=>
     rcases hO b with z|⟨ob,u3,z⟩
     ·rw[q2]at z
      cases z
     ·have z2:=un.pI b ob _ z
      obtain⟨e1,_⟩:=aG b _ z
      obtain⟨e2,_⟩:=aaQ b _ z2
      lk
   have KX':=λb o e=>dX b o (KX b o e)
   obtain⟨as,hrd⟩:=Dw.aaH (R:=R) (cl:=cl) aaQ KX' d0 v u q r'
   exact⟨u,as,rfl,hrd,OldK.of_keep dX,os,gV⟩
def ap9(h:WData.layableAll ds=true): ∀d∈ds,d.weight<=1048576:=λd hd=>
 (PySem.W.layableW_iff.mp (QF.mp h d hd)).2.2
def aaR: ∀cs a,(FR cs a).length=cs.length
 |[],_=>rfl
 |c::cs,a=>by
  show(FR cs a.2).length+1=cs.length+1;rw[aaR cs a.2]
def ap_{K:F_->aP}{CX:a_->sw}{sp:a_->Sp}
  (Qb:r.wellSaid=true)(hdf:d.params.defaults=[])(cS:r.args.length=ps.length)(hr:gb k FX)
  (hY: ∀w h,YP w h->(K w.params).In h)
  (F: ∀w mg fa h,YP w h->(K w.params).In h->h.Ns o9 mg->mg d.name=some (.ref fa)->∃fd:aN,(∀s us,us.length=ps.length->FY s fd ⟨us,[]⟩ (ps.zip us))/\∀base:Heap,(K w.params).In base->base.Ns o9 mg->bN r.prog w (K w.params) mg base (CX w) k fa fd ps (sp w))
  (ny: ∀w H xs a,Fw H->arI r.args a=true->Ks r.args r.asked a=true->oZ (K w.params) H xs (FR r.args a)->sp w xs H (λv H'=>Dw (K w.params) H' v (r.ret.enc (Ks r.args r.f a))) λ_ _ _=>False)
  (Fx: ∀w H s e s',CX w [] H s (λ_ _ _=>False) e s'->False):
  ars q aqa XP YP r d [] (λf vs=>asG f vs):=by
 intro w i6 c7 mg mb G Y fa o pm cd doc dV kV ho hd sh hD Qc hg args rH as aqb aqc hrd oU hlo;obtain⟨a,e1,e2⟩:=PySem.W.os_pre_some aqb;obtain⟨e3,uu⟩:=Codec.encAll_of_decAll r.args args a e1;subst e3;have KX:=hY w _ Y;obtain⟨fd,hb,hF⟩:=F w mg fa _ Y KX G.T.g Qc;refine PySem.W.enter_call (vb (ap6 (R:=[]) (cl:=classAt i6.heap) (d0:=r.ret.enc (Ks r.args r.f a)) KX G.T.g G.T.b G.T.builtins G.T.nolimit hg oU (aaJ _ _) (ap9 aqc) hr hF hb (by rw[aaR];exact cS) (λH xs hO hS=>ny w H xs a hO uu e2 hS) λH e s'=>Fx w H c7 e s') λr' s' hq=>?_)
 obtain⟨u,dP,rfl,h1,h2,h3,h4⟩:=hq;exact⟨.inl ⟨u,_,dP,rfl,λ_=>rfl,h1,(OpenSpec.post_iff Qb uu _ _).mpr rfl,λz=>o7 (z)⟩,h2,h3,h4⟩
def aqd{K:F_->aP}{sp:aP->Sp}
  (Qb:r.wellSaid=true)(hdf:d.params.defaults=[])(cS:r.args.length=ps.length)(hr:gb k FX)
  (hY: ∀w h,YP w h->(K w.params).In h)
  (F: ∀w mg fa h,YP w h->(K w.params).In h->h.Ns o9 mg->mg d.name=some (.ref fa)->∃fd:aN,(∀s us,us.length=ps.length->FY s fd ⟨us,[]⟩ (ps.zip us))/\∀base:Heap,(K w.params).In base->base.Ns o9 mg->bN r.prog w (K w.params) mg base CX k fa fd ps (sp (K w.params)))
  (ny: ∀K H xs a,Fw H->arI r.args a=true->Ks r.args r.asked a=true->oZ K H xs (FR r.args a)->sp K xs H (λv H'=>Dw K H' v (r.ret.enc (Ks r.args r.f a))) λ_ _ _=>False)
  (Fx: ∀H s e s',CX [] H s (λ_ _ _=>False) e s'->False):
  ars q aqa XP YP r d [] (λf vs=>asG f vs):=
 ap_ (K:=K) (CX:=λ_=>CX) (sp:=λw=>sp (K w.params)) Qb hdf cS hr hY F (λw H xs a h1 h2 h3 h4=>ny (K w.params) H xs a h1 h2 h3 h4) λ_ H s e s'=>Fx H s e s'
end L2
end
section
open PySem PySem.W PyProof.Rows
def Bp.gi{K:aP}{h:Heap}{mg:Str->Option au}{x:Str}{n:Int}{t:Tok}(KX:K.In h)(G:h.Ns o9 mg)(e:nsIn K o9 x=some (some (.int n t))): ∃t,mg x=some (.int n t):=⟨_,mg_of KX G e⟩
def Bp.gw{K:aP}{h:Heap}{mg:Str->Option au}{x:Str}{a:ag}{o:Obj}{es:Array n9}{ep:Nat}{kvs:List (Int×Int)}(KX:K.In h)(G:h.Ns o9 mg)(e:nsIn K o9 x=some (some (.ref a)))(l:K.lookup a=some o)(ex:o.ExactDict)(d:o.data=.dict es ep)(p:qu (λ(e:n9)(p:Int×Int)=>e.hash=Rh p.1/\(∃t,e.key=kK p.1 t)/\ ∃t,e.val=kK p.2 t) es.toList kvs)(nd:(kvs.map (·.1)).Nodup):L2.BZ K mg x kvs:=⟨⟨a,o,es,ep,mg_of KX G e,l,ex,d,p⟩,nd⟩
def Bp.aqe{P:bj}{w:a_}{K:aP}{mg:Str->Option au}{fa:ag}{ad:Bp.Ad}(Fl:mg "answers" =some (.ref fa))(T:Bp.cp K mg ad)(hne:ad.b0≠ad.cb)(gW:L2.BZ K mg "WIDTHS" Bp.Fq):
  ∃fd:aN,(∀(s:aR)(us:List au),us.length=(["calls"]:List Str).length->FY s fd ⟨us,[]⟩ ((["calls"]:List Str).zip us))/\ ∀base:Heap,K.In base->base.Ns o9 mg->L2.bN P w K mg base L2.bX 16 fa fd ["calls"] (Bp.P6 K):=by
 have e:=Fl.symm.trans T.akL
 cases e
 refine⟨ad.yP,?_,λbase _ _=>Bp.apU T hne gW⟩
 obtain⟨oc,od,kV,doc,pm,an,bB,ct,pQ,e,lk,sh⟩:=T.W4.ex
 rw[e]
 exact λs us hu=>match us,hu with|[_],_=>.of_eq rfl
def Bp.l1{P:List α->Prop}{x:β}(h: ∀a,P [a]): ∀us:List α,us.length=[x].length->P us|[a],_=>h a
def Bp.l2{P:List α->Prop}{x y:β}(h: ∀a b,P [a,b]): ∀us:List α,us.length=[x,y].length->P us|[a,b],_=>h a b
def Bp.l3{P:List α->Prop}{x y z:β}(h: ∀a b c,P [a,b,c]): ∀us:List α,us.length=[x,y,z].length->P us|[a,b,c],_=>h a b c
def Bp.l4{P:List α->Prop}{x y z u:β}(h: ∀a b c d,P [a,b,c,d]): ∀us:List α,us.length=[x,y,z,u].length->P us|[a,b,c,d],_=>h a b c d
def Bp.l5{P:List α->Prop}{x y z u v:β}(h: ∀a b c d e,P [a,b,c,d,e]): ∀us:List α,us.length=[x,y,z,u,v].length->P us|[a,b,c,d,e],_=>h a b c d e
set_option tactic.hygienic true
set_option maxHeartbeats 0
theorem PySem.Challenge.cw_bytemachines_s01_answers_holds : PySem.Challenge.rw_bytemachines_s01_answers.Holds := by
 w_on
 refine holds_os (q:=Hd.q) (loose:=["WIDTHS"]) (Xt:=Hd.Xt) (XP:=XL Hd.q []) (Yf:=Hd.H.obs) (Ya:=Hd.H.val) (YP:=Hd.H.says) (N:=8104) Hd.left Hd.H.of Hd.H.keeps (λs e=>xl_of s (Bool.and_eq_true_iff.mp e).1) XL.keeps (by rfl) (by rfl) (by rfl) (λs e=>recFacts_of (Bool.and_eq_true_iff.mp e).2) os_shapes (by x_go) (by x_go) ⟨rfl,rfl,rfl,rfl,rfl,by x_go⟩ ⟨[.list []],by x_go,by x_go⟩ ?_
 refine L2.aqd (r:=atR) (k:=16) (CX:=L2.bX) (ps:=["calls"]) (sp:=Bp.P6) (by x_go) rfl rfl ⟨rfl,by room,by room⟩ (λw h Y=>(Y:(Hd.H.heap_1 w.params).In h)) ?F ?S (λ_ _ _ _ z=>z)
 case F=>
  intro w mg fa h Y KX G Qc
  refine' Bp.aqe Qc (ad:=Bp.Ad.mk) ?T ?hne ?gW
  case T=>
   constructor
   all_goals try dsimp only
   all_goals try (refine' PySem.W.mg_of KX G ?h;(case h=>k_is))
   all_goals try (refine' Bp.gi KX G ?h;(case h=>k_is))
   all_goals try (refine' PySem.W.mg_none_of KX G ?h;(case h=>k_is))
   all_goals try (refine'⟨?h1,?h2,?h3,?h4⟩;(case h1=>k_is);(case h2=>k_is);(case h3=>k_is);(case h4=>k_is))
   all_goals try (refine'⟨?h1,?h2,?h3⟩;(case h1=>k_is);(case h2=>k_is);(case h3=>k_is))
   all_goals try (unfold L2.dZ;k_is)
   all_goals try (refine' L2.agd ?l ?c ?k;(case l=>k_is);(case c=>k_is);(case k=>k_is))
   all_goals try exact L2.bS.all (Bp.l1 λ_=>rfl)
   all_goals try exact L2.bS.all (Bp.l2 λ_ _=>rfl)
   all_goals try exact L2.bS.all (Bp.l3 λ_ _ _=>rfl)
   all_goals try exact L2.bS.all (Bp.l4 λ_ _ _ _=>rfl)
   all_goals try exact L2.bS.all (Bp.l5 λ_ _ _ _ _=>rfl)
  case hne=>dsimp only;decide
  case gW=>
   refine' Bp.gw KX G ?h1 ?h2 ?h3 ?h4 ?h5 (by room)
   case h1=>k_is
   case h2=>k_is
   case h3=>exact⟨rfl,rfl,rfl⟩
   case h4=>rfl
   case h5=>
    show qu _ [_,_,_,_,_,_,_,_,_] _
    repeat'(first|exact .nil|refine .cons ⟨by room,⟨_,rfl⟩,_,rfl⟩ ?_)
 case S=>
  intro K H xs a hO uu P7 hx
  cases hx with
  |cons h1 h2=>
   cases h2
   cases h1 with
   |af hs ha=>
    have e:=L2.aaG a.1 _ ha
    subst e
    have q:((Codec.inLen 0 16000 a.1&&a.1.all (Codec.inInt (-2147483648) 18446744073709551615))&&true)=true:=uu
    rw[eA,eA]at q
    refine⟨_,a.1,rfl,?_,(Codec.inNat_iff.mp q.1.1).2,P7,λH' p hp=>.af (L2.aJ.of hp) (L2.aaF _)⟩
    rcases hs with h|⟨o,its,n,h1,h2,h3,h4,h5,h6⟩
    ·rcases h with h|⟨o,h⟩
     ·rcases hO _ with z|⟨o,u,z⟩<;>(rw[h]at z;cases z)
     ·exact .inl ⟨o,h⟩
    ·exact .inr λH'=>.inr ⟨o,its,n,h1,h2,h3,h4,h5,h6⟩
end




