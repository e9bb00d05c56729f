import PyProof.Rows.All
import Wide.All
import OpenK.AllK
import Wide.FinOn
import PyProof.EqAt
import PyProof.EqKinds
import PyProof.TupleCall
import KE.BitLaws
import PyProof.FactsAll.bool_1
import PyProof.Rows.RuleC_bool
import PySw63
import PySem.SetOps
import PyProof.SetScanFacts
import PyProof.Dict
import PySem.Builtin.Tuple.Common
import PySem.Challenge.RW_beatranks_s01_answers
import PyProof.P3Eq
import KE.KMinBuiltin
import PyProof.Rows.CallKwBuiltin
import PyProof.TupleKey
import PyProof.SetKind
import PyProof.IsRules
import KE.KSortTupG
import PyProof.Rows.SetFrom
import PyProof.SetRoads
import PyProof.CollectIter
import PyProof.Rows.SortShellAny
import KE.KRevIter
import PyProof.ListNew
import PyProof.Rows.SortRuns
import PyProof.Rows.SortRun
import PyProof.Rows.SortGallop
import PyProof.Rows.SortMerge
import PyProof.Rows.SortMergeAt
import KE.KSortTup
import PyProof.MeetsSeq3
import PyProof.FactsAll.list_2
import Open.SpecLaws
import KE.OsHead
import KE.OsGo
set_option Elab.async false
set_option maxRecDepth 100000
set_option maxHeartbeats 4000000
set_option linter.all false
open List renaming length_map->aA,getD_eq_getElem?_getD->bM,length_cons->aS,range->aE,mem_cons_of_mem->bg,getElem?_eq_getElem->bT,mem_map->aM,mem_cons_self->bp,mem_singleton->bA,getElem?_map->bz,mem_cons->aY,map_cons->bb,length_append->bZ,mem_of_getElem?->cC,mem_filter->bH,size_toArray->cw,mem_range->bY,filter_cons_of_pos->eK,length_filter_le->dX,all_eq_true->c_,append_nil->cW,getElem?_eq_none->eR,filter_cons_of_neg->fC,map_map->cg,getElem?_eq_some_iff->gx,length_take->d8,flatMap_cons->eS,length_range->e_,mem_append->d7,replicate->dW,map_append->eU,mem_append_right->iG,lookup_cons->fM,append_assoc->gz,take_length->f7,length_singleton->jL,contains_iff_mem->jR,mem_flatMap->fO,foldl_cons->fK,length_drop->gG,mem_append_left->jB,filter_congr->iz,zip_cons_cons->ja,filter_append->jf,filterMap_cons->jA,not_mem_nil->iw,length_eq_zero_iff->my,sum_cons->fP,ext_getElem?->jc,take_of_length_le->l7,pairwise_cons->jP,filter_map->iq,range_succ->iy,cons_append->i9,filter_cons->i_,pairwise_map->jQ,idxOf_lt_length_of_mem->rN,getElem?_cons_succ->oM,mem_iff_getElem->mG,nodup_cons->iZ,map_congr_left->mv,getElem?_range->mw,take_append_drop->oS,nil_append->jM,map_nil->gH,length->f_,any_eq_true->kZ,map_drop->jd,range_succ_eq_map->qI,replicate_succ->oA,getElem?_zip_eq_some->vC,length_zipWith->qZ,zipWith_cons_cons->vx,any_cons->kU,nodup_nil->l_,pairwise_iff_getElem->AW,find?_cons->oH,all_cons->l4,map_take->mH,getElem_mem->rR,mem_filterMap->uK,drop_of_length_le->Bi,length_nil->qR,length_filter_lt_length_iff_exists->SE,lookup->lW,getElem?_append_right->Gu,mem_of_mem_take->Au,drop_zero->qW,map_flatMap->vk,getElem?_eq_none_iff->FW,filter_eq_self->AN,filter_sublist->A',flatMap_append->Bf,Pairwise->rD,of_mem_zip->uR,getElem_idxOf->Bq,getElem?_cons_zero->G8,getElem?_set_self->F0,flatten_cons->z5,forIn_nil->va,pairwise_lt_range->Hb,zipWith->qY,length_replicate->Gx,mem_iff_getElem?->Ht,flatMap_nil->Ak,nodup_range->AM,zipIdx_cons->BO,getElem?_set_ne->F1,pairwise_append->Hl,zip->k9,getLast?_eq_some_getLast->TM,forIn_cons->z8,length_zip->Ax,filter_nil->Bg,length_reverse->He,map_eq_nil_iff->Hi,eraseDups_cons->IZ,all_map->u9,drop_length_add_append->Sa,contains_cons->Hy,filter_filter->Hz,getElem?_drop->HR,filterMap_map->HX,getElem?_append_left->Rb,getLastD_eq_getLast?->TK,reverse_cons->GH,zipWith_self->Hq,foldl_append->Iu,zip_map'->AH,eq_of_mem_replicate->U1,flatMap_map->G',zipWith_map->Ho,map->oY,pairwise_singleton->T8,ext_getElem->I0,not_of_lt_findIdx->T1,flatMap_singleton->VB,sum_append->Hg,pairwise_flatMap->R9,mem_of_mem_drop->R_,count_le_length->Sb,drop_drop->HS,range'->Bv,drop_eq_nil_iff->Wg,drop->vN,drop_succ_cons->Vl,flatMap_assoc->R5,mem_eraseDups->UJ,set_cons_succ->Vj,set_cons_zero->Vk,take_sublist->Rc,getElem_drop->S6,nodup_append->UI,getElem_inj->QA,perm_middle->R6,map_reverse->Vi,map_id->Jb,length_set->Rj,isPerm_iff->R7,count_cons->Se,foldl->GI,any_nil->U5
open PySem renaming wpAny_bind->au,Value->af,Addr->aa,wpAny_pure->aC,Shared->aj,sizeLine->az,SetTable->aI,model->ay,starEach->aU,boot_len->cP,mainGlobals->cv,Str->ag,mem_of_lookup->gW,wpAny_Call_Name_kw->ie,sizeLine_eq->dU,wpAny_holding->fj,cellsFrom->c5,codeAny_builtin->gK,Heap->aH,plainId_quiet->gi,Expr->aQ,wpAny_mono->eM,Program->cQ,wpAny_truthy_bool->kJ,Builtin->cR,World->bC,backTo->b9,wpAny_setState_of->mJ,compEnvC->eA,compareOp->fh,wpAny_newObj_type->oF,Around->dr,NameKind->fm,Stmt->bj,wpAny_specialOf->n6,wpAny_passesOwn->oh,bootBuiltins->kK,foldedSetIterable->qB,cLine->cp,keywordEach->jJ,Obj->aG,wpAny_call_entry->qt,sliceBounds->kT,sysModules->jz,wpAny_typeOf->ma,behindInMarks->oa,swapsWith->iV,attributeBase->ou,intKind->o9,builtinLookup_eq_fast->BB,revObj->eD,Sem->aJ,searchCouldBeSeen->vZ,call_meets->kW,intKind_is->lh,wpAny_execs_cons->uI,pushCells->jN,wpAny_execs_nil->uH,pushCells_keeps->vb,tupleKind_room_in1->Ad,typeIs_bool->zC,holding->h_,wpAny_pyIter_list->zK,binaryOp->jE,codeAny_mono->qG,backToKw->jI,wpAny_seqItems->vh,wpAny_storeSet_of->Bx,wpAny_isInstance->BE,wpAny_forIn_list->BJ,Keyword->iY,wpAny_pyIter_revIter->G6,letOwnedTupleGo->zJ,typeLookup_type->Bz,wpAny_newList->IU,argBest->j6,getMethod->ot,wpAny_rule->qu,assignEach->qy,FuncData->ox,intItems->l6,PyData->ig,wpAny_tryCatch->Ag,isSubtype_type->BC,wpAny_setField_rec->IS,carriedByValue->BK,slot_list_getitem->GF,wpAny_letGo->vX,hashByValue->vY,ofAClassStatement->IX,wpAny_getItem_list_slice->Rl,wpAny_comprehension_free->RG,setSearchFrom->Bw,Scope->gF,wpAny_askSetting->IK,hashInt->lS,Within->zE,wpAny_pyNext_list_item->QT,typeLookup->uT,wpAny_Call_method_late->Rn,codeAny_compStart_list->RL,wpAny_updateSeq->IG,wpAny_isTrue_Compare1->QJ,wpAny_pyNext_list_end->QU,wpAny_loadName_local->QB,subscripted->zW,compPost->qO,wpAny_of_eq->Bs,codeAny_call_builtin->Uc,codeAny_extend_loopS->Uq,Params->lp,tupleKind->uC,Pos->cK,standAt->oe,getItem->oy,valueAt->oK,pickOrder->wb,wpAny_loadName_cell->QC,wpAny_setEntries_of->Uh,wpAny_standAt->F4,nums_intItems->GL,comprehension->GU,wpAny_Constant_int->QD,wpAny_call->zS,getattributeRaised->RR,Operator->uJ,wpAny_assign_Name->QN,wpAny_Assign_Name->QP,BindsTo->qF,callWith->uQ,notedBy->qN,wpAny_pyIter_enum->RW,wpAny_pyIter_slot->Ui,callerA->sF,wpAny_eqBool_int->Qq,assign->og,pyNext->oi,rawInt->oj,slicePick->zZ,entryFor_of_tree->RP,wpAny_pyIter_zip->R1,seqIndex_of->GD,intItems_at->GN,atKey->kY,wpAny_tests_nil->RF,codeAny_of_tree->Ua,Env->dh,builtinsNs->FY,wpAny_Name->F2,pyIter->qz,bindL->lX,bindC->lY,typeIs_int->GG,numAt->l8,entryFor->Af,reduceHash->Il,argsOk->rQ,KeyKind->Qp,storeName->FZ,inplaceOp->F3,DictEntry->F6,Reads->oB,seqItems?->IW,Tok->dR,isTrue->uF,spliced->zH,newList->Aa,call->Ws
open PySem.W renaming Frag->aL,mg_none_of->iO,nsIn->dM,emptyDict->kL,findIn->iX,keepIn->kM,instObj->lU,fnOf->kP,callWith_K->zT,codeIn->uS,methodCall_KW->Gi,plainGet->zO,mg_of->wO,length_le_weightAllW->Wm,plainGet_of->F8,isFn->uN,lookIn->zN,methodObj->FX,hasDictIn->F7,cellsFrom_some->Ra,takerIn->F9,makesIn->F',callWith_K0->Q9,plainOver->Q4,handedIn->Q2,WRecords->Wi,WalkOS->Wr,ReadsAllW->JR
open PySem.Heap renaming get?_push_of_some->bQ,lt_size->ba,get?_push_size->cU,get?_update_other->iH,size_push->eW,get?_update_self->zY,SameBut->zG,size_update->T9,Ns->GS
open PySem.SetTable renaming bits->aT,runEnd->cq,leap->cj,sizeAbove->dP,below->fb,insertAt->gY,grown->j7,turns->rC,advance->A1,fresh->A8,Probe->HK,layClean->S9,fill->S0,has->S4
open Sw63Neutral renaming wayOf->bh,out->ll,step->mD,callOf->Wf,start->SS,many->SR
open Nat renaming le_refl->aV,ne_of_lt->bS,zero_le->bI,le_trans->bV,lt_of_lt_of_le->dS,zero_add->dE,mul_le_mul_right->jk,mul_assoc->eZ,pow_succ->eO,pow_le_pow_right->jX,mul_comm->eY,mod_eq_of_lt->iB,lt_succ_of_lt->i7,mod_lt->eB,testBit_two_pow_mul_add->qX,lt_or_eq_of_le->k8,not_lt_zero->jV,lt_of_le_of_lt->mr,lt_irrefl->iT,le_of_lt->iU,ne_of_gt->iW,mul_add->iu,mul_one->iA,add_mul->jb,min_eq_left->oR,le_of_eq->kO,one_mul->jW,mul_left_comm->rB,lt_trans->l9,lt_or_ge->mE,lt_trichotomy->vH,lt_succ_self->uO,le_add_right->vi,add_zero->oN,add_mul_mod_self_left->HH,add_sub_cancel_left->Hd,mul_mod->oV,add_comm->qH,le_of_succ_le->z_,div_eq_of_lt->A4,min_eq_right->Bh,two_pow_pos->AS,sub_self->vj,min_self->vy,mul_le_mul->BU,add_mod->vG,add_assoc->AU,sub_zero->Al,mul_zero->AB,mul_add_mod->Ic,le_succ->zU,eq_of_testBit_eq->Si,mul_le_mul_left->TN,mod_eq_sub_mod->SX,succ_mul->GK,or_lt_two_pow->Sj,zero_mul->Hf,succ->vA,succ_ne_self->RZ,and_le_right->Ss,testBit_and->Sl,mod_add_div->SW,mod_mul_mod->Ti,lt_succ_iff->T6,testBit_or->Sk,pow_pos->Sq,mod_mod->SV,pow_add->Tj
open PySem.Value renaming ref->aK,type->dI,none->eh,int->eL,bool->hZ,isInt_shape->FP,str->zA,isStrOf->Qn,builtin->Qt,isInt->Qm,bytes->Qu,float->Qv
open PySem.F renaming plainAttrs_list->dq,slot_list_append->kE,type_list_append->kF,slot_list_extend->kz,type_list_extend->lg,called_set->mK,slot_list_count->rO,plain_min_loop->rP,slot_list_index->u6,type_list_count->wA,slot_list_getattribute->G3,slot_bool_hash->zD,type_list_index->Jy,slot_list_lt->Jt,args_list_index_2->Rz,entry_list_index->Ry,entry_min_loop->T3,plain_set_new->Ub,args_list_extend_2->Rt,entry_list_extend->Rr,plain_extend_loop->Up,plain_list_iadd->Uo,slot_int_rmul->Rv,slot_set_iter->Ul
open Option.some renaming inj->bO,injEq->gL
open Sw63 renaming vowels->bc,Word->br,step->bD,syllables->dw,wordOk->dn,fulls->cM,toldOk->dt,heavy->dA,notRising->eN,isHead->fR,St->dB,Way->fS,clusters->gM,ok->fU,insert->mj,mains->lj,profile->sA,Call->mC,Syll->mQ,shares->rJ,faults->wK,init->rA,Told->sk,ways->sr,rows->sv,Sound->vQ,rulesOk->B8,contenders->Hm,bounding->Hk,fitting->HB,SIDE->Bj,best->Hh,Ans->JL
open Array renaming length_toList->dj,getElem?_eq_getElem->g7,getElem?_toList->ji,getElem?_eq_some_iff->mF,getElem?_eq_none->qT,replicate->k_,mem_toList_iff->uM,toArray_toList->we,mem_of_getElem?->A0,getElem_toList->A7,size_setIfInBounds->HP,getD_eq_getD_getElem?->S7,perm_iff_toList_perm->UG,size_reverse->Jh,mapM_eq_mapM_toList->U3,toList_filterMap->Tc,getElem?_reverse->UZ,size_replicate->U2,getElem?_swap->UU,append_assoc->Qw,getD->AZ,forIn_toList->UA,size_extract->UY,toList_push->T7,size_append->UX,toList_map->UH,size_push->UW,size_map->Tb,toList->QM
open Bool renaming false_ne_true->dv,eq_iff_iff->cV,false_eq_true->dO,not_eq_true'->d_,and_eq_true->eJ,noConfusion->gP,true_and->fv,not_eq_false'->jg,false_and->jD,and_eq_false_iff->vm,or_eq_true->oG,not_false->rH,and_false->uY,false_or->vf,not_true->v8,and_eq_true_iff->Hc,not_eq_false->JH,not_eq_true->Hn,and_comm->Hw,or_false->Jw,and_true->Sy,true_or->RM
open PySem.PassesOwn renaming never->ee
open PyProof.Rows renaming Keyed->aO,SortSt->bf,callWith_type1->nc,get?_update_seq->wc,listItems_at->gO,seqObj->b8,listUpdate_at->rT,pairsOf->eP,arrOf->cu,callWith_builtin1->Gy,boot_sum->BZ,IntsAre->fL,pairsOf_toList->wg,boot_all->Iq,step_dedup->o_,entry_list_sort->Uy,slot_list_sort->Ux,args_list_sort->Uz,pairsOf_size->wt,failedOf->mM,oneType'->mN,plain_sorted->Uu,entry_sorted->Uv,args_sorted1->Uw,envOfC->i5,kind_sorted->Ut,pendingOf->rV,subscriptTail_builtinR->Ri,sortedHeap->wd,boot_max->Vt,AllBare->n_,tuples'->pd,subscriptTail->GB,Subscript_->zV,SortKind->Jc,seqEpoch_at->Ju,gallopOf->BL,keyLt'->r6,IsTup->n9,sortRuns'->Jn,lt'->gn
open PySem.Around renaming under_plainId->jO,under->F_
open PySem.Obj renaming mapSeq->cS,putSet->o8
open Option renaming map_some->gJ,map_eq_some_iff->u7,bind_some->rb,isSome_iff_exists->Gq,getD_some->AJ,isSome_map->GY,none->Aj,isSome_some->RE,getD_none->Rk,map->S_
open PySem.Builtin.List renaming listItems->mL,listTooLong->uX,listLengthHint->BF,listExtendWith->BG,listSameRef->BH
open Int renaming toNat_natCast->jK,natCast_mul->BV,natCast_add->Js,toNat->Ja
open PySem.SeqAt renaming EqAt->eX,list_indexAt->RB,in_listAt->Rm
open Ne renaming symm->cJ
open PySem.Builtin renaming bitNot->jj,bitAnd->jH,bitOr->qC
open ForInStep renaming yield->kX,done->wk
open List.Nodup renaming length_le_of_subset->A9,sublist->Tg
open PySem.SetTable.probe renaming go->oW
open PySem.MeetsSeq3 renaming plain_eq_loop->wu,entry_eq_loop->Jr
open PyProof.Rows.F renaming plain_set_update_loop->IM,entry_set_update_loop->Ue
open PyFlat renaming calls->jU,played->vF,told->rj,call->SK,rows->SM,row->SN
open PySem.SetTable.layClean renaming free->vM
open PySem.Calls renaming spliced_cons->qE,spliced_nil->uP,Name_function_global->QF,call_function_entry->Us,callWith_builtin->Ro,evalArgs_plain->Rp
open Classical renaming byContradiction->AV,choose_spec->Tf,choose->Te
open PySem.Builtin.Tuple renaming tupleHashOf->Bb
open List.cons renaming injEq->oP
open PySw63 renaming shape->k7,answers->rn,whole->rm,answers_asked->HF,calls->SQ
open Prod.mk renaming injEq->mB
open List.Pairwise renaming imp_of_mem->A_,nil->By
open Sw63.Way renaming row->mV
open Std.Legacy.Range renaming forIn_eq_forIn_range'->UT
open PySem.NameKind renaming free->qJ,cell->GQ
open PySem.AutoSeq1 renaming list_extend_list_list_0->Ru
open Or renaming inr->fN,inl->md
open PySem.SetTable.below renaming go->AY
open List.Perm renaming refl->vL,swap->Am,eq_of_pairwise->R8
open PySem.Sem renaming wp_bind'->rZ,wp_bind->Je,bind->BM,wp_mono->US
open PySem.W.Codec renaming encAll->sE,denoteAll->Cd,app->wN,withinAll->Wq
open Function renaming comp->vW,comp_def->U4
open PySem.Shared renaming TypeIs->v9
open PySem.PyData renaming depthAll->Bm,int->rM,canLayAll0->TZ,eqvAll->TY
open PySem.W.WData renaming weightAll->Ce,int->Wh
open True renaming intro->qD
open PyProof.Rows.SortSt renaming mk'->r8
open Sum renaming inl->kI,inr->lT
open PySem.Builtin.Range renaming rangeSize->QW
open PySem.Builtin.Dict renaming updateFrom->RU
open PyProof.Rows.G renaming KeepsTups->rS,isTupObj->UD,tupKeyC->UC
open PySem.SetTable.sizeAbove renaming go->Ta
open Prod renaming ext->rE
open PySem.SeqAt.EqAt renaming int_str->Qr,str_int->Qs
open PySem.Heap.IsSliceOf renaming new->Rf
open PySem.Code renaming isFrame->Gd,frames->Q7
open PySem.Str renaming ofString->IH
open PySem.pickOrder renaming go->IQ
open PySem.IsL renaming update->Rq
open PySem.isSame renaming cachedInt->UM,created->UN
open StateT renaming run_pure->UR
open PySem.Walks renaming list->GP
open PySem.Data renaming seq->Cg
open PySem.Value.type renaming inj->Wn
open Iff renaming rfl->BP
open Sum.inl renaming inj->Qo
open PySem.CmpOp renaming NotIn->QH
open PySem.ItemsOf renaming nil->Ur
open Eq renaming refl->Ih
theorem dd{p:Prop}(h:p:=by decide):p:=h
theorem oo{p:Prop}(h:p:=by omega):p:=h
def aq:=@if_neg
def ax:=@if_pos
def bN:=@decide_eq_true_eq
def fz:=@decide_eq_false_iff_not
def dN:=@decide_eq_decide
def fA:=@beq_eq_false_iff_ne
def bX:=@beq_iff_eq
def fG:=@decide_eq_false
def f9:=@beq_self_eq_true
def cn:=@if_false
def de:=@if_true
def fH:=@bne_iff_ne
def qp:=@bne_self_eq_false
def gE:=@or_false
def qr:=@decide_eq_true
def nZ:=@decide_not
def zz:=@forall_eq_or_imp
def iS:=@not_or
def n4:=@dif_pos
namespace L2
open PySem PySem.Spec PyProof.Rows
abbrev Key:=Sum Int ag
def uB:Key->af->Bool
 | .inl k,v=>Qm k v
 | .inr x,v=>Qn x v
def ahM(w:bC):Key->Int
 | .inl k=>lS k
 | .inr x=>hashStr w x
theorem fI:∀{k:Key}{v:af},uB k v=true->(∃i t,k=kI i/\v=eL i t)\/(∃x t,k=lT x/\v=zA x t)
 | .inl i,v,h=>by
  obtain⟨t,e⟩:=FP (k:=i) (v:=v) h
  exact .inl ⟨i,t,rfl,e⟩
 | .inr x,v,h=>by
  obtain⟨t,e⟩:=af.isStrOf_shape (x:=x) (v:=v) h
  exact .inr ⟨x,t,rfl,e⟩
theorem N9(i:Int)(t:dR):uB (.inl i) (.int i t)=true:=by simp[uB,Qm]
theorem N'(x:ag)(t:dR):uB (.inr x) (.str x t)=true:=by simp[uB,Qn]
theorem aaI(a b:Int):decide ((kI a:Key)=kI b)=(a==b):=by
 by_cases e:a=b
 ·subst e;simp
 ·have h:¬(kI a:Key)=kI b:=λq=>e (Qo q)
  rw[fG h]
  exact(fA.mpr e).symm
theorem aaJ(a b:ag):decide ((lT a:Key)=lT b)=decide (a=b):=by
 by_cases e:a=b
 ·subst e;simp
 ·have h:¬(lT a:Key)=lT b:=λq=>e (lT.inj q)
  rw[fG h,fG e]
theorem aaK(a:Int)(b:ag):decide ((kI a:Key)=lT b)=false:=fG (λq=>nomatch q)
theorem aaL(a:ag)(b:Int):decide ((lT a:Key)=kI b)=false:=fG (λq=>nomatch q)
def iF(prog:cQ)(w:bC):Qp prog w Key where
 is:=uB
 hash:=ahM w
 inj:=λv a b ha hb=>by
  rcases fI ha with⟨i,t,rfl,rfl⟩|⟨x,t,rfl,rfl⟩
  ·rcases fI hb with⟨j,u,rfl,e⟩|⟨y,u,rfl,e⟩
   ·injection e with e1 _;rw[e1]
   ·exact nomatch e
  ·rcases fI hb with⟨j,u,rfl,e⟩|⟨y,u,rfl,e⟩
   ·exact nomatch e
   ·injection e with e1 _;rw[e1]
 byValue:=λk v h=>by
  rcases fI h with⟨i,t,rfl,rfl⟩|⟨x,t,rfl,rfl⟩<;>rfl
 pyHash:=λhv h=>by
  rcases fI hv with⟨i,t,rfl,rfl⟩|⟨x,t,rfl,rfl⟩
  ·exact wpAny_pyHash_int h
  ·exact wpAny_pyHash_str h
 eqBool:=λhu hv h=>by
  rcases fI hu with⟨i,t,rfl,rfl⟩|⟨x,t,rfl,rfl⟩
  ·rcases fI hv with⟨j,u,rfl,rfl⟩|⟨y,u,rfl,rfl⟩
   ·rw[aaI]at h;exact Qq h
   ·rw[aaK]at h;exact Qr i t y u _ _ _ _ h
  ·rcases fI hv with⟨j,u,rfl,rfl⟩|⟨y,u,rfl,rfl⟩
   ·rw[aaL]at h;exact Qs x t j u _ _ _ _ h
   ·rw[aaJ]at h;exact wpAny_eqBool_str h
 «strs»:=λk x t v h=>by
  rcases fI h with⟨i,u,rfl,e⟩|⟨y,u,rfl,e⟩
  ·exact nomatch e
  ·injection e with e1 _
   subst e1
   cases v<;>rfl
theorem FQ(prog:cQ)(w:bC)(i:Int)(t:dR):(iF prog w).is (.inl i) (.int i t)=true:=N9 i t
theorem FR(prog:cQ)(w:bC)(x:ag)(t:dR):(iF prog w).is (.inr x) (.str x t)=true:=N' x t
variable{A:dr}{C a b dx f:aa}{E Q:af->aj->Prop}{K:aL}{M:Model}{N ps:List ag}{P prog:cQ}{R:Result->aj->Prop}{T:String}{ZA apos p pos pos':cK}{an od:Option aa}{base h h':aH}{body:List bj}{c e iter tg:aQ}{ch ex fp:List aa}{ct oc pm u v:af}{env:dh}{fd:ox}{i j n t':Nat}{kw:List (ag×af)}{mA mg:ag->Option af}{op:CmpOp}{pins:List (aa×aG)}{qual x:ag}{s s1:aj}{scope:gF}{st:bj}{us vs:List af}{w:bC}{α:Type}
def zB:Bool->af->Bool
 |b,.bool c=>c==b
 |_,_=>false
theorem jy{b:Bool}(h:zB b v=true):v=.bool b:=by cases v<;>simp_all [zB]
def FT(b:Bool):Int:=if b=true then 1 else 0
theorem FU{b:Bool}{Q:Int->aj->Prop}(h:Q (FT b) {s with toks:=s.toks+1}):wpAny (ay prog w) A (pyHash (.bool b)) Q E s:=by
 unfold pyHash
 have hv:[hZ b].any af.onHeap=false:=rfl
 refine au ?_
 rw[cRoomFor,aq (by rw[hv];exact dv)];refine aC ?_
 refine au (n6 (zC s b) zD.lookup ?_)
 show wpAny _ _ (if(some (Qt "int.__hash__")==some eh)=true then _ else _) Q E s
 rw[aq (by rw[beq_builtin_none];exact dv)]
 refine au (n6 (zC s b) zD.lookup ?_)
 show wpAny _ _ (callSpecialIfBoundUnlessNone? (.bool b) "__hash__" _>>=_) Q E s
 refine au (wpAny_callSpecialIfBoundUnlessNone?_slot (zC s b) zD
  (qt zD (zC s b) entry_int_hash ?_ (args_int_hash _)))
 have go:cR.«int.__hash__» ⟨[hZ b],[]⟩=(do ret (<-mkInt (FT b))):=by
  cases b
  ·rfl
  ·show(do ret (<-mkInt _))=_
   rfl
 rw[go]
 refine wpAny_ret_mkInt ?_
 show wpAny _ _ (if(decide (-(2:Int)^63<=FT b)&&decide (FT b<2^63))=true then _ else _) Q E _
 cases b<;>exact aC h
theorem FV{a b:Bool}{Q:Bool->aj->Prop}(h:Q (decide (a=b)) s):wpAny (ay prog w) A (eqBool (.bool a) (.bool b)) Q E s:=by
 unfold eqBool
 show wpAny _ _ (if(hZ a==hZ b)=true then _ else _) Q E s
 by_cases yL:(hZ a==hZ b)=true
 ·rw[ax yL]
  have e:a=b:=by have:=eq_of_beq yL;injection this
  subst e
  exact au (qu (aC (by simpa using h)))
 ·rw[aq yL]
  have e:(a==b)=decide (a=b):=by cases a<;>cases b<;>rfl
  exact au (show wpAny (ay prog w) A (richCompare .Eq (.bool a) (.bool b)) _ E s from PyProof.Rows.eq_bool (by rw[e];exact kJ h))
def n8(prog:cQ)(w:bC):Qp prog w Bool where
 is:=zB
 hash:=FT
 inj:=λv a b ha hb=>by rw[jy ha]at hb;simp only[zB,bX]at hb;exact hb
 byValue:=λk v h=>by rw[jy h];rfl
 pyHash:=λhv h=>by rw[jy hv];exact FU h
 eqBool:=λhu hv h=>by rw[jy hu,jy hv];exact FV h
 «strs»:=λk x t v h=>by simp[zB]at h
inductive V where
 |non|bl (b:Bool)|int (i:Int)|str (x:ag)|Kh (b:Array UInt8)|flt (b:UInt64)|ref (a:aa)|ty (n:String)
 deriving DecidableEq
def RelV:V->af->Prop
 | .non,u=>u=eh
 | .bl b,u=>u=hZ b
 | .int i,u=>∃t,u=eL i t
 | .str x,u=>∃t,u=zA x t
 | .Kh b,u=>∃t,u=Qu b t
 | .flt b,u=>∃t,u=Qv b t
 | .ref a,u=>u=aK a
 | .ty n,u=>u=dI n
abbrev Vals:List V->List af->Prop:=Paired RelV
theorem Vals.length{xs:List V}{us:List af}(r:Vals xs us):xs.length=us.length:=Paired.length r
theorem Vals.get:∀{xs:List V}{us:List af}{i:Nat}{x:V},Vals xs us->xs[i]?=some x->∃u,us[i]?=some u/\RelV x u
 |_,_,_,_,.nil,e=>by simp at e
 |_,_,0,_,.cons r _,e=>by simp at e;subst e;exact⟨_,rfl,r⟩
 |_,_,i+1,x,.cons _ t,e=>by
  obtain⟨u,h1,h2⟩:=Vals.get (i:=i) (x:=x) t (by simpa using e)
  exact⟨u,by simpa using h1,h2⟩
theorem Vals.set{x:V}{u:af}(r:RelV x u):∀{xs:List V}{us:List af}(i:Nat),Vals xs us->Vals (xs.set i x) (us.set i u)
 |_,_,_,.nil=>.nil
 |_,_,0,.cons _ t=>.cons r t
 |_,_,i+1,.cons q t=>.cons q (Vals.set r i t)
theorem Vals.append:∀{xs ys:List V}{us ws:List af},Vals xs us->Vals ys ws->Vals (xs++ys) (us++ws)
 |_,_,_,_,.nil,s=>s
 |_,_,_,_,.cons r t,s=>.cons r (Vals.append t s)
theorem Vals.take:∀{xs:List V}{us:List af}(n:Nat),Vals xs us->Vals (xs.take n) (us.take n)
 |_,_,0,_=>.nil
 |_,_,_+1,.nil=>.nil
 |_,_,n+1,.cons r t=>.cons r (Vals.take n t)
theorem Vals.drop:∀{xs:List V}{us:List af}(n:Nat),Vals xs us->Vals (xs.drop n) (us.drop n)
 |_,_,0,r=>r
 |_,_,_+1,.nil=>.nil
 |_,_,n+1,.cons _ t=>Vals.drop n t
theorem Vals.none_of:∀{xs:List V}{us:List af}{i:Nat},Vals xs us->xs[i]?=none->us[i]?=none:=λ{xs us i}r e=>by
 have h1:=r.length
 have h2:xs.length<=i:=FW.mp e
 exact FW.mpr oo
def qi:Option V->Option af->Prop
 |some v,some u=>RelV v u
 |none,none=>True
 |_,_=>False
def KV{κ:Type}:List (κ×V)->List (κ×af)->Prop:=Paired λ(p:κ×V)(q:κ×af)=>p.1=q.1/\RelV p.2 q.2
def kV:Key->V
 | .inl i=>.int i
 | .inr x=>.str x
inductive HO where
 |lst (xs:List V)
 |tup (xs:List V)
 |dK (bG:List (Key×V))|dT (bG:List (List Bool×V))
 |set (S:Int->Bool) (n:Nat)
 |ins (C dx:aa) (fs:List (ag×V))
 |own (x:aa)
 |xd (fs:List (ag×V))
 |met (f x:aa)
 |rng (lo hi:Int)
 |yO (o:aG) (u:HO)
 |tbl (ps:Array af)
 |ext (φ:aH->Prop)
abbrev Hp:=aa->Option HO
def upd(H:Hp)(a:aa)(o:HO):Hp:=λb=>if b=a then some o else H b
variable{H H' H1 H2:Hp}{o:HO}{xs ys:List V}
theorem ao:upd H a o a=some o:=by unfold upd;rw[ax rfl]
theorem aN(h:b≠a):upd H a o b=H b:=by unfold upd;rw[aq h]
theorem Xn{u:HO}:upd (upd H a o) a u=upd H a u:=by
 funext b;unfold upd;split<;>rfl
theorem adX{u:HO}(h:H a=some o)(h':H b=some u)(d:o≠u):a≠b:=by
 intro e;subst e;rw[h]at h';exact d (bO h')
theorem aF(h:H a=some o)(h':H b=none):a≠b:=by
 intro e;subst e;rw[h]at h';cases h'
section
variable(P:cQ)(w:bC)
def fZ(H:Hp)(h:aH)(a:aa):HO->Prop
 | .lst xs=>xs.length<=az/\∃(its:List af)(n:Nat),Vals xs its/\h.get? a=some {cls:=.type "list",data:=.seq its.toArray n}
 | .tup xs=>xs.length<=az/\∃its:List af,Vals xs its/\n9 h a its.toArray
 | .dK bG=>bG.length<=az/\(a==jz)=false/\∃vs,KV bG vs/\h.DictOf (iF P w) a vs
 | .dT bG=>bG.length<=az/\(a==jz)=false/\∃xs:List (List Bool×aa×af),Paired (λ(p:List Bool×V)(q:List Bool×aa×af)=>p.1=q.1/\H q.2.1=some (.tup (p.1.map V.bl))/\RelV p.2 q.2.2) bG xs/\∃o es ep,h.get? a=some o/\o.ExactDict/\o.data=.dict es ep/\es.toList=xs.map (entryOfKey (uC (n8 P w)))/\(xs.map (·.1)).Nodup
 | .set S n=>h.SetOf (intKind P w) a S n
 | .ins C dx fs=>H dx=some (.own a)/\fs.length<=1000/\dx≠a/\h.get? a=some (lU C dx)/\∃mA,h.Ns1 dx mA/\(∀f,qi (fs.lookup f) (mA f))/\zE mA (fs.map (·.1))
 | .own _=>∃o,h.get? a=some o
 | .xd fs=>∃mA,h.Ns1 a mA/\∀f,qi (fs.lookup f) (mA f)
 | .rng lo hi=>∃t u v,h.get? a=some {cls:=.type "range",data:=.fields #[.int lo t,.int hi u,.int 1 v]}
 | .yO o u=>h.get? a=some o/\fZ H h a u
 | .tbl ps=>h.get? a=some {cls:=.none,data:=.fields ps}
 | .met f x=>h.get? a=some (FX (.ref f) (.ref x))
 | .ext φ=>φ h/\(∃o,h.get? a=some o)/\∀h1 h2:aH,φ h1->(∀o,h1.get? a=some o->h2.get? a=some o)->φ h2
def qv(H:Hp)(h:aH):Prop:=∀a o,H a=some o->fZ P w H h a o
end
theorem fZ.lt(x:fZ P w H h a o):a<h.objs.size:=by
 cases o with
 |lst xs=>obtain⟨_,_,_,_,e⟩:=x;exact ba e
 |tup xs=>obtain⟨_,_,_,p⟩:=x;exact p.lt
 |dK bG=>obtain⟨_,_,_,_,o,_,_,e,_⟩:=x;exact ba e
 |dT bG=>obtain⟨_,_,_,_,o,_,_,e,_⟩:=x;exact ba e
 |set S n=>obtain⟨o,_,_,_,e,_⟩:=x;exact ba e
 |ins C dx fs=>obtain⟨_,_,_,e,_⟩:=x;exact ba e
 |own y=>obtain⟨_,e⟩:=x;exact ba e
 |xd fs=>obtain⟨_,⟨_,_,_,e,_⟩,_⟩:=x;exact ba e
 |rng lo hi=>obtain⟨_,_,_,e⟩:=x;exact ba e
 |yO ob u=>obtain⟨e,_⟩:=x;exact ba e
 |tbl ps=>exact ba (show h.get? a=some _ from x)
 |met f y=>exact ba (show h.get? a=some _ from x)
 |ext φ=>obtain⟨_,⟨_,e⟩,_⟩:=x;exact ba e
theorem Paired.uD{α β:Type}{F G:α->β->Prop}:∀{kh:List α}{l₂:List β},Paired F kh l₂->(∀a b,F a b->G a b)->Paired G kh l₂
 |_,_,.nil,_=>.nil
 |_,_,.cons r t,f=>.cons (f _ _ r) (Paired.uD t f)
theorem fZ.stay(x:fZ P w H h a o)(k:∀b u,(b=a\/H b=some (.own a))->h.get? b=some u->h'.get? b=some u)(ho:∀b,H b=some (.own a)->H' b=some (.own a))(ht:∀b xs,H b=some (.tup xs)->H' b=some (.tup xs)):fZ P w H' h' a o:=by
 induction o with
 |lst xs=>obtain⟨z,its,n,r,e⟩:=x;exact⟨z,its,n,r,k _ _ (.inl rfl) e⟩
 |tup xs=>obtain⟨z,its,r,ob,e,c⟩:=x;exact⟨z,its,r,ob,k _ _ (.inl rfl) e,c⟩
 |dK bG=>obtain⟨z,y,vs,r,ob,es,ep,e,c⟩:=x;exact⟨z,y,vs,r,ob,es,ep,k _ _ (.inl rfl) e,c⟩
 |dT bG=>
  obtain⟨z,y,xs,r,ob,es,ep,e,c⟩:=x
  exact⟨z,y,xs,Paired.uD r λp q z=>⟨z.1,ht _ _ z.2.1,z.2.2⟩,ob,es,ep,k _ _ (.inl rfl) e,c⟩
 |set S n=>obtain⟨ob,es,ep,t,e,c⟩:=x;exact⟨ob,es,ep,t,k _ _ (.inl rfl) e,c⟩
 |ins C dx fs=>
  obtain⟨d,z,ne,e,mA,⟨od,es,ep,e2,c⟩,r⟩:=x
  exact⟨ho _ d,z,ne,k _ _ (.inl rfl) e,mA,⟨od,es,ep,k _ _ (.inr d) e2,c⟩,r⟩
 |own y=>obtain⟨ob,e⟩:=x;exact⟨ob,k _ _ (.inl rfl) e⟩
 |xd fs=>obtain⟨mA,⟨od,es,ep,e,c⟩,r⟩:=x;exact⟨mA,⟨od,es,ep,k _ _ (.inl rfl) e,c⟩,r⟩
 |rng lo hi=>obtain⟨t,u,v,e⟩:=x;exact⟨t,u,v,k _ _ (.inl rfl) e⟩
 |yO ob u ih=>obtain⟨e,q⟩:=x;exact⟨k _ _ (.inl rfl) e,ih q⟩
 |tbl ps=>
  have e:h.get? a=some {cls:=.none,data:=.fields ps}:=x
  show h'.get? a=some {cls:=.none,data:=.fields ps}
  exact k a _ (.inl rfl) e
 |met f y=>
  have e:h.get? a=some (FX (.ref f) (.ref y)):=x
  show h'.get? a=some (FX (.ref f) (.ref y))
  exact k a _ (.inl rfl) e
 |ext φ=>obtain⟨p,⟨o,e⟩,st⟩:=x;exact⟨st _ _ p λo q=>k _ _ (.inl rfl) q,⟨o,k _ _ (.inl rfl) e⟩,st⟩
theorem qv.lt(x:qv P w H h)(e:H a=some o):a<h.objs.size:=(x a o e).lt
theorem qv.fresh(x:qv P w H h)(e:h.objs.size<=a):H a=none:=by
 cases q:H a with
 |none=>rfl
 |some u=>exact absurd (dS (x.lt q) e) (iT _)
theorem qv.kept(x:qv P w H h)(k:∀b u,h.get? b=some u->h'.get? b=some u):qv P w H h':=λa o e=>
 (x a o e).stay (λb u _ q=>k b u q) (λ_ q=>q) λ_ _ q=>q
theorem qv.laid(x:qv P w H h)(k:∀b u,h.get? b=some u->h'.get? b=some u)(hp:h.objs.size<=a)(new:fZ P w (upd H a o) h' a o):qv P w (upd H a o) h':=λb u e=>by
 have hn:=x.fresh hp
 by_cases hb:b=a
 ·subst hb;rw[ao]at e;cases e;exact new
 ·rw[aN hb]at e
  exact(x b u e).stay (λc v _ q=>k c v q) (λc q=>by rw[aN (aF q hn)];exact q) λc xs q=>by rw[aN (aF q hn)];exact q
def Rd(H:Hp)(a:aa)(u:HO):Prop:=H a=some u\/∃o,H a=some (.yO o u)
theorem Rd.of{u:HO}(h:H a=some u):Rd H a u:=.inl h
theorem Rd.ok{u:HO}(r:Rd H a u)(x:qv P w H h):fZ P w H h a u:=by
 rcases r with r|⟨o,r⟩
 ·exact x a u r
 ·obtain⟨_,q⟩:=x a _ r
  exact q
def Mut:Option HO->Prop
 |some (.lst _)=>True
 |some (.dK _)=>True
 |some (.dT _)=>True
 |some (.set _ _)=>True
 |some (.ins _ _ _)=>True
 |some (.ext _)=>True
 |_=>False
section
variable{x e:aa}{o':HO}
theorem qv.write(ok:qv P w H h)(mu:Mut (H x))(he:e=x\/H e=some (.own x))(k:∀b u,b≠e->h.get? b=some u->h'.get? b=some u)(heo:∃u,h'.get? e=some u)(new:fZ P w (upd H x o') h' x o'):qv P w (upd H x o') h':=λb u q=>by
 have adZ:∀c y,H c=some (.own y)->c≠x:=λc y r z=>by subst z;rw[r]at mu;exact mu
 have ahN:∀c xs,H c=some (.tup xs)->c≠x:=λc xs r z=>by subst z;rw[r]at mu;exact mu
 by_cases hb:b=x
 ·subst hb;rw[ao]at q;cases q;exact new
 ·rw[aN hb]at q
  by_cases hbe:b=e
  ·have q':H b=some (.own x):=by
    rcases he with z|z
    ·exact absurd (hbe.trans z) hb
    ·rw[hbe];exact z
   rw[q]at q';cases q'
   obtain⟨v,hv⟩:=heo
   exact⟨v,by rw[hbe];exact hv⟩
  ·refine(ok b u q).stay (λc v hc r=>k c v ?_ r) (λc r=>by rw[aN (adZ c b r)];exact r) λc xs r=>by rw[aN (ahN c xs r)];exact r
   rcases hc with rfl|hc
   ·exact hbe
   ·rintro rfl
    rcases he with z|z
    ·exact adZ c b hc z
    ·rw[hc]at z;cases z;exact hb rfl
end
structure Un (fs ex:List aa) (H H':Hp) (h h':aH):Prop where
 keep:∀b o,h.get? b=some o->H b=none->b∉fs->b∉ex->h'.get? b=some o
 slot:∀b o,h.get? b=some o->H b=none->b∈fs->b∉ex->∃sl,h'.get? b=some {o with slots:=sl}
 free:∀b o,h.get? b=some o->H b=none->b∉ex->H' b=none
 there:∀b o,h.get? b=some o->b∉ex->∃o',h'.get? b=some o'
 tups:∀b xs,H b=some (.tup xs)->H' b=some (.tup xs)
 xa:∀b o u,H b=some (.yO o u)->H' b=some (.yO o u)
 yu:∀b ps,H b=some (.tbl ps)->∃more,H' b=some (.tbl (ps++more))
section
variable{fs fs' ex':List aa}{h1 h2:aH}{x e:aa}
theorem Un.any(u:Un fs ex H H1 h h1){ob:aG}(q:h.get? b=some ob)(n:H b=none)(hx:b∉ex):∃sl,h1.get? b=some {ob with slots:=sl}:=by
 by_cases hb:b∈fs
 ·exact u.slot b ob q n hb hx
 ·exact⟨ob.slots,u.keep b ob q n hb hx⟩
theorem Un.trans(a:Un fs ex H H1 h h1)(b:Un fs ex H1 H2 h1 h2):Un fs ex H H2 h h2 where
 keep:=λc ob q n hc hx=>b.keep c ob (a.keep c ob q n hc hx) (a.free c ob q n hx) hc hx
 slot:=λc ob q n hc hx=>by
  obtain⟨sl,e1⟩:=a.slot c ob q n hc hx
  obtain⟨sl',e2⟩:=b.slot c _ e1 (a.free c ob q n hx) hc hx
  exact⟨sl',e2⟩
 free:=λc ob q n hx=>by
  obtain⟨o',e1⟩:=a.there c ob q hx
  exact b.free c o' e1 (a.free c ob q n hx) hx
 there:=λc ob q hx=>by
  obtain⟨o',e1⟩:=a.there c ob q hx
  exact b.there c o' e1 hx
 tups:=λc xs q=>b.tups c xs (a.tups c xs q)
 xa:=λc ob xs q=>b.xa c ob xs (a.xa c ob xs q)
 yu:=λc ps q=>by
  obtain⟨m1,e1⟩:=a.yu c ps q
  obtain⟨m2,e2⟩:=b.yu c _ e1
  exact⟨m1++m2,by rw[e2,Qw]⟩
theorem Un.kept(k:∀b u,h.get? b=some u->h'.get? b=some u):Un fs ex H H h h':=
 ⟨λb ob q _ _ _=>k b ob q,λb ob q _ _ _=>⟨ob.slots,k b ob q⟩,λ_ _ _ n _=>n,λb ob q _=>⟨ob,k b ob q⟩,λ_ _ q=>q,λ_ _ _ q=>q,λ_ ps q=>⟨#[],by rw[q];simp⟩⟩
theorem Un.refl:Un fs ex H H h h:=Un.kept λ_ _ q=>q
theorem Un.laid(k:∀b u,h.get? b=some u->h'.get? b=some u)(hp:h.objs.size<=a)(hn:H a=none):Un fs ex H (upd H a o) h h' where
 keep:=λb u q _ _ _=>k b u q
 slot:=λb u q _ _ _=>⟨u.slots,k b u q⟩
 free:=λb u q n _=>by rw[aN (bS (dS (ba q) hp))];exact n
 there:=λb u q _=>⟨u,k b u q⟩
 tups:=λb xs q=>by rw[aN (aF q hn)];exact q
 xa:=λb u xs q=>by rw[aN (aF q hn)];exact q
 yu:=λb ps q=>⟨#[],by rw[aN (aF q hn),q];simp⟩
theorem Un.write(mu:Mut (H x))(he:e=x\/H e=some (.own x))(k:∀b u,b≠e->h.get? b=some u->h'.get? b=some u)(heo:∃u,h'.get? e=some u):Un fs ex H (upd H x o) h h':=by
 have hx:∀b,H b=none->b≠x:=λb n z=>by subst z;rw[n]at mu;exact mu
 have hb:∀b,H b=none->b≠e:=λb n z=>by
  subst z
  rcases he with r|r
  ·exact hx b n r
  ·rw[n]at r;cases r
 have hm:∀b u,H b=some u->¬Mut (some u)->b≠x:=λb u q nm z=>by subst z;rw[q]at mu;exact nm mu
 refine⟨λb u q n _ _=>k b u (hb b n) q,λb u q n _ _=>⟨u.slots,k b u (hb b n) q⟩,λb u q n _=>by rw[aN (hx b n)];exact n,λb u q _=>?_,λb xs q=>by rw[aN (hm b _ q λz=>z)];exact q,λb u xs q=>by rw[aN (hm b _ q λz=>z)];exact q,λb ps q=>⟨#[],by rw[aN (hm b _ q λz=>z),q];simp⟩⟩
 by_cases hbe:b=e
 ·subst hbe;exact heo
 ·exact⟨u,k b u hbe q⟩
theorem Un.mono(u:Un fs ex H H1 h h1)(hs:∀b∈fs,b∈fs')(hx:∀b∈ex,b∈ex'):Un fs' ex' H H1 h h1:=
 ⟨λb ob q n hb he=>u.keep b ob q n (λz=>hb (hs b z)) λz=>he (hx b z),λ_ _ q n _ he=>u.any q n λz=>he (hx _ z),λb ob q n he=>u.free b ob q n λz=>he (hx b z),λb ob q he=>u.there b ob q λz=>he (hx b z),u.tups,u.xa,u.yu⟩
end
def trk(h:aH)(H:Hp):List aa:=(aE h.objs.size).filter λa=>(H a).isSome
def Ed(h:aH)(H:Hp):aH:=PySem.W.hideAll h (trk h H)
theorem N_(h:aH)(H:Hp):(Ed h H).objs.size=h.objs.size:=PySem.W.hideAll_size _ _
theorem Qx{o:aG}(e:h.get? b=some o)(n:H b=none):(Ed h H).get? b=some o:=
 PySem.W.hideAll_get _ e λhm=>by
  have q:(H b).isSome=true:=(bH.mp hm).2
  rw[n]at q;simp at q
theorem Xo{o:aG}(e:(Ed h H).get? b=some o):h.get? b=some o/\H b=none:=by
 have e':h.get? b=some o:=PySem.W.of_hideAll (trk h H) e
 refine⟨e',?_⟩
 cases q:H b with
 |none=>rfl
 |some x=>
  have hm:b∈trk h H:=bH.mpr ⟨bY.mpr (ba e'),by simp[q]⟩
  have z:(Ed h H).get? b=none:=PySem.W.hideAll_none (trk h H) hm
  rw[z]at e;cases e
def Xp(g h:aH)(L:aa):List (aa×aG):=(aE h.objs.size).filterMap λa=>if a=L\/(g.get? a).isSome=true then none else(h.get? a).map λo=>(a,o)
def rest(g h:aH)(L d:aa):List (aa×aG):=(Xp g h L).filter λp=>decide (p.1≠d)
structure Mod (K:aL) (mg:ag->Option af) (base:aH):Prop where
 kin:K.In base
 glob:base.Ns cv mg
 blt:∃mb,base.Ns FY mb/\∀x:ag,x≠"__name__"->mb x=kK x
 nolimit:base.NoLimit
structure Cx where
 prog:cQ
 w:bC
 K:aL
 mg:ag->Option af
 base:aH
 A:dr
 N:List ag
 s_0:aj
 H_0:Hp
 env:dh
 outer:List dh
 stack:List dh
 ex:List aa
 fn:ag->Bool
 calm:Bool
 pn:List (aa×aG)
 xe:af->aj->Prop
def WB(l:List dh):List aa:=l.filterMap (·.frame)
abbrev Cx.fs(X:Cx):List aa:=WB X.outer
def Vis(sc:gF)(x:ag):Prop:=sc.names.lookup x=some .local\/sc.names.lookup x=some .cell\/sc.names.lookup x=some .free
def Loc(sc:gF)(x:ag):Prop:=sc.names.lookup x=some .local\/sc.names.lookup x=some .cell
def Look(env:dh)(h:aH)(m:ag->Option af)(x:ag)(u:af):Prop:=
 (env.kindOf x=some .local/\m x=some u)\/((env.kindOf x=some .cell\/env.kindOf x=some .free)/\∃c,env.cells.lookup x=some c/\h.IsCell c (some u))
structure Cx.Ok (X:Cx):Prop where
 mod:Mod X.K X.mg X.base
 kind:X.env.scope.kind=.function
 glob:X.env.globals=cv
 blt:X.env.builtins=FY
 above:X.s_0.heap.objs.size<=X.env.locals
 inj:∀x y c,X.env.cells.lookup x=some c->X.env.cells.lookup y=some c->x=y
 has:∀x,(X.env.kindOf x=some .cell\/X.env.kindOf x=some .free)->∃c,X.env.cells.lookup x=some c
 cab:∀x c,X.fn x=true->X.env.cells.lookup x=some c->X.s_0.heap.objs.size<=c
 hd:X.calm=true->X.A.handled=none
 frames:X.A.frames=some X.stack
 stk:X.stack=X.outer\/(X.stack=X.env::X.outer/\X.env.frame=some X.env.locals)
 exf:∀b∈X.ex,b≠X.env.locals/\∀x c,X.env.cells.lookup x=some c->c≠b
 bs:∀b o,X.base.get? b=some o->X.s_0.heap.get? b=some o/\X.H_0 b=none
 Qy:X.base.objs.size<=X.s_0.heap.objs.size
 Qz:∀b o,X.base.get? b=some o->b∉X.ex
 Oa:∀b∈X.ex,b∉X.fs
 xb:X.s_0.heap.FunFrames X.base X.outer
 ZT:∀b∈X.fs,X.H_0 b=none
structure Inv (X:Cx) (pins:List (aa×aG)) (σ:List (Option V)) (H:Hp) (s:aj):Prop where
 ok:X.Ok
 os:s.os=X.s_0.os
 bare:n_ s.gens
 base:Un X.fs X.ex X.H_0 H X.s_0.heap s.heap
 loc:∃m,s.heap.Ns X.env.locals m/\∀(i:Nat)(x:ag)(v:V),X.N[i]?=some x->σ[i]?=some (some v)->Vis X.env.scope x->∃u,RelV v u/\Look X.env s.heap m x u
 cell:∀x c,X.env.cells.lookup x=some c->∃v,s.heap.IsCell c v
 free:H X.env.locals=none
 qw:∀x c,X.env.cells.lookup x=some c->H c=none
 pin:∀p∈X.pn++pins,s.heap.get? p.1=some p.2/\H p.1=none/\p.1≠X.env.locals/\p.1∉X.fs/\∀v,p.2.data≠.cell v
 hok:qv X.prog X.w H s.heap
 len:σ.length=X.N.length
variable{X:Cx}
section
variable{σ:List (Option V)}
theorem Cx.Ok.ahO(ok:X.Ok){o:aG}(e:X.base.get? b=some o):b∉X.fs:=λhb=>by
 have:=(ok.xb.mem hb).1
 rw[e]at this;cases this
theorem Inv.bs(I:Inv X pins σ H s):∀b o,X.base.get? b=some o->s.heap.get? b=some o/\H b=none:=λb o e=>
 ⟨I.base.keep b o (I.ok.bs b o e).1 (I.ok.bs b o e).2 (I.ok.ahO e) (I.ok.Qz b o e),I.base.free b o (I.ok.bs b o e).1 (I.ok.bs b o e).2 (I.ok.Qz b o e)⟩
theorem Inv.bk(I:Inv X pins σ H s):∀b o,X.base.get? b=some o->s.heap.get? b=some o:=λb o e=>(I.bs b o e).1
theorem Inv.mod(I:Inv X pins σ H s):Mod X.K X.mg X.base:=I.ok.mod
theorem Inv.Ki(I:Inv X pins σ H s):X.K.In s.heap:=I.ok.mod.kin.keeps I.bk
theorem Inv.nolimit(I:Inv X pins σ H s):s.heap.NoLimit:=I.ok.mod.nolimit.keeps I.bk
theorem Inv.fr(I:Inv X pins σ H s):∃m,Fr X.base X.env.locals s.heap m:=
 let⟨m,hn,_⟩:=I.loc
 ⟨m,hn,I.bk,bV I.ok.Qy I.ok.above⟩
theorem Inv.lt(I:Inv X pins σ H s):X.env.locals<s.heap.objs.size:=let⟨_,hn,_⟩:=I.loc;hn.lt
theorem Inv.sz(I:Inv X pins σ H s):X.s_0.heap.objs.size<=s.heap.objs.size:=bV I.ok.above (iU I.lt)
theorem Inv.ahP(I:Inv X pins σ H s)(h:s.heap.objs.size<=a):a∉X.fs:=λhb=>by
 obtain⟨_,o,ho,_⟩:=I.ok.xb.mem hb
 exact absurd (dS (ba ho) (bV I.sz h)) (iT _)
theorem Inv.cne(I:Inv X pins σ H s):∀x c,X.env.cells.lookup x=some c->c≠X.env.locals:=λx c e z=>by
 obtain⟨v,o,ho,hd⟩:=I.cell x c e
 obtain⟨m,⟨o',es,ep,PQ,lD,_⟩,_⟩:=I.loc
 rw[z,PQ]at ho;cases ho;rw[lD]at hd;cases hd
theorem Inv.xb(I:Inv X pins σ H s):s.heap.FunFrames X.base X.outer:=by
 have all:∀(l:List dh),(∀b∈WB l,b∈X.fs)->X.s_0.heap.FunFrames X.base l->s.heap.FunFrames X.base l:=by
  intro l
  induction l with
  |nil=>intro _ _;trivial
  |cons env r ih=>
   intro hs hl
   obtain⟨hk,⟨L,o,hf,hn,ho,hd⟩,hr⟩:=hl
   have hL:L∈X.fs:=hs L (by unfold WB;rw[jA,hf];exact bp)
   obtain⟨sl,e⟩:=I.base.slot L o ho (I.ok.ZT L hL) hL λz=>I.ok.Oa L z hL
   exact⟨hk,⟨L,_,hf,hn,e,hd⟩,ih (λb hb=>hs b (by unfold WB;rw[jA,hf];exact bg _ hb)) hr⟩
 exact all X.outer (λ_ hb=>hb) I.ok.xb
theorem Inv.stack(I:Inv X pins σ H s):s.heap.FunFrames X.base X.stack:=by
 rcases I.ok.stk with e|⟨e,hf⟩
 ·rw[e];exact I.xb
 ·rw[e]
  obtain⟨m,hn,_⟩:=I.loc
  refine .cons (by rw[I.ok.kind];decide) hf hn ?_ I.xb
  exact aH.get?_none_of_le (bV I.ok.Qy I.ok.above)
theorem Inv.Ks(I:Inv X pins σ H s):∀b∈WB X.stack,b∈X.env.locals::X.fs:=λb hb=>by
 rcases I.ok.stk with e|⟨e,hf⟩
 ·rw[e]at hb;exact bg _ hb
 ·rw[e]at hb
  unfold WB at hb
  rw[jA,hf]at hb
  exact hb
theorem Inv.My(I:Inv X pins σ H s):∀b∈WB X.stack,H b=none:=λb hb=>by
 rcases aY.mp (I.Ks b hb)with e|hb
 ·rw[e];exact I.free
 ·obtain⟨_,o,ho,_⟩:=I.ok.xb.mem hb
  exact I.base.free b o ho (I.ok.ZT b hb) λz=>I.ok.Oa b z hb
theorem Inv.step{g':Array GenState}{d':Drawn}(I:Inv X pins σ H s)(Xd:∀b∈ch,(b∈X.ex\/X.s_0.heap.objs.size<=b)/\b≠X.env.locals/\(∀x c,X.env.cells.lookup x=some c->c≠b)/\∀p∈X.pn++pins,p.1≠b)(keep:∀b o,b≠X.env.locals->b∉X.fs->b∉ch->s.heap.get? b=some o->H b=none->h'.get? b=some o)(slot:∀b o,b≠X.env.locals->b∈X.fs->b∉ch->s.heap.get? b=some o->H b=none->∃sl,h'.get? b=some {o with slots:=sl})(free:∀b o,b∉ch->s.heap.get? b=some o->H b=none->H' b=none)(there:∀b o,b∉ch->s.heap.get? b=some o->∃o',h'.get? b=some o')(tups:∀b xs,H b=some (.tup xs)->H' b=some (.tup xs))(xa:∀b o u,H b=some (.yO o u)->H' b=some (.yO o u))(yu:∀b ps,H b=some (.tbl ps)->∃more,H' b=some (.tbl (ps++more)))(ns:∀m,s.heap.Ns X.env.locals m->h'.Ns X.env.locals m)(hok:qv X.prog X.w H' h')(hg:n_ g'):
  Inv X pins σ H' {s with heap:=h',gens:=g',drawn:=d',toks:=t'}:=by
 have neL:∀b o,X.s_0.heap.get? b=some o->b≠X.env.locals:=λb o e=>bS (dS (ba e) I.ok.above)
 have neC:∀b o,X.s_0.heap.get? b=some o->b∉X.ex->b∉ch:=λb o e hx hb=>by
  rcases(Xd b hb).1 with z|z
  ·exact hx z
  ·exact absurd (dS (ba e) z) (iT _)
 have cellK:∀x c,X.env.cells.lookup x=some c->∀v,s.heap.IsCell c v->h'.IsCell c v:=λx c e v⟨o,ho,hd⟩=>by
  have nch:c∉ch:=λz=>(Xd c z).2.2.1 x c e rfl
  by_cases hc:c∈X.fs
  ·obtain⟨sl,q⟩:=slot c o (I.cne x c e) hc nch ho (I.qw x c e)
   exact⟨_,q,hd⟩
  ·exact⟨o,keep c o (I.cne x c e) hc nch ho (I.qw x c e),hd⟩
 refine⟨I.ok,I.os,hg,⟨λb o e n hb hx=>?_,λb o e n hb hx=>?_,λb o e n hx=>?_,λb o e hx=>?_,λb xs e=>tups b xs (I.base.tups b xs e),λb o xs e=>xa b o xs (I.base.xa b o xs e),λb ps e=>?_⟩,?_,λx c e=>?_,?_,λx c e=>?_,λp hp=>?_,hok,I.len⟩
 ·exact keep b o (neL b o e) hb (neC b o e hx) (I.base.keep b o e n hb hx) (I.base.free b o e n hx)
 ·obtain⟨sl,e1⟩:=I.base.slot b o e n hb hx
  obtain⟨sl',e2⟩:=slot b _ (neL b o e) hb (neC b o e hx) e1 (I.base.free b o e n hx)
  exact⟨sl',e2⟩
 ·obtain⟨o',e1⟩:=I.base.there b o e hx
  exact free b o' (neC b o e hx) e1 (I.base.free b o e n hx)
 ·obtain⟨o',e1⟩:=I.base.there b o e hx
  exact there b o' (neC b o e hx) e1
 ·obtain⟨m1,e1⟩:=I.base.yu b ps e
  obtain⟨m2,e2⟩:=yu b _ e1
  exact⟨m1++m2,by rw[e2,Qw]⟩
 ·obtain⟨m,hn,hl⟩:=I.loc
  refine⟨m,ns m hn,λi x v e1 e2 e3=>?_⟩
  obtain⟨u,r,l⟩:=hl i x v e1 e2 e3
  refine⟨u,r,?_⟩
  rcases l with l|⟨k,c,e,z⟩
  ·exact .inl l
  ·exact .inr ⟨k,c,e,cellK x c e _ z⟩
 ·obtain⟨v,z⟩:=I.cell x c e
  exact⟨v,cellK x c e v z⟩
 ·obtain⟨m,⟨o,_,_,ho,_⟩,_⟩:=I.loc
  exact free _ o (λz=>(Xd _ z).2.1 rfl) ho I.free
 ·obtain⟨v,o,ho,hd⟩:=I.cell x c e
  exact free c o (λz=>(Xd c z).2.2.1 x c e rfl) ho (I.qw x c e)
 ·obtain⟨e,n,ne,nf,d⟩:=I.pin p hp
  have nch:p.1∉ch:=λz=>(Xd p.1 z).2.2.2 p hp rfl
  exact⟨keep p.1 p.2 ne nf nch e n,free p.1 p.2 nch e n,ne,nf,d⟩
theorem Inv.un(I:Inv X pins σ H s)(u:Un X.fs [] H H' s.heap h')(hok:qv X.prog X.w H' h'):Inv X pins σ H' {s with heap:=h',toks:=t'}:=by
 obtain⟨m,⟨o,es,ep,ho,r⟩,_⟩:=id I.loc
 obtain⟨sl,hL⟩:=u.any ho I.free (by simp)
 exact I.step (g':=s.gens) (d':=s.drawn) (ch:=[]) (λ_ z=>nomatch z) (λb o _ hb _ e n=>u.keep b o e n hb (by simp)) (λb o _ hb _ e n=>u.slot b o e n hb (by simp)) (λb o _ e n=>u.free b o e n (by simp)) (λb o _ e=>u.there b o e (by simp)) u.tups u.xa u.yu (λm' hm=>by
  obtain⟨o',CB,ep',PQ,r'⟩:=hm
  rw[ho]at PQ;cases PQ
  exact⟨_,CB,ep',hL,r'⟩) hok I.bare
theorem Inv.call{g':Array GenState}{d':Drawn}(I:Inv X pins σ H s)(u:Un (WB X.stack) ch H H' s.heap h')(hok:qv X.prog X.w H' h')(hg:n_ g')(Xd:∀b∈ch,(b∈X.ex\/X.s_0.heap.objs.size<=b)/\b≠X.env.locals/\(∀x c,X.env.cells.lookup x=some c->c≠b)/\∀p∈X.pn++pins,p.1≠b):
  Inv X pins σ H' {s with heap:=h',gens:=g',drawn:=d',toks:=t'}:=by
 obtain⟨m,⟨o,es,ep,ho,r⟩,_⟩:=id I.loc
 obtain⟨sl,hL⟩:=u.any ho I.free λz=>(Xd _ z).2.1 rfl
 exact I.step (ch:=ch) Xd (λb o hL hb hc e n=>u.keep b o e n (λz=>(aY.mp (I.Ks b z)).elim hL hb) hc) (λb o _ _ hc e n=>u.any e n hc) (λb o hc e n=>u.free b o e n hc) (λb o hc e=>u.there b o e hc) u.tups u.xa u.yu (λm' hm=>by
  obtain⟨o',CB,ep',PQ,r'⟩:=hm
  rw[ho]at PQ;cases PQ
  exact⟨_,CB,ep',hL,r'⟩) hok hg
theorem Inv.turned{it:aa}(I:Inv X pins σ H s)(k:∀b o,b≠it->s.heap.get? b=some o->h'.get? b=some o)(hn:H it=none)(hL:it≠X.env.locals)(h1:it∈X.ex\/X.s_0.heap.objs.size<=it)(h2:∀x c,X.env.cells.lookup x=some c->c≠it)(h3:∀p∈X.pn++pins,p.1≠it):Inv X pins σ H {s with heap:=h',toks:=t'}:=by
 have ZU:∀b u,H b=some u->b≠it:=λb u e z=>by rw[z,hn]at e;cases e
 refine I.step (g':=s.gens) (d':=s.drawn) (ch:=[it]) (λb hb=>?_) (λb o _ _ hc e _=>k b o (λz=>hc (by simp[z])) e) (λb o _ _ hc e _=>⟨o.slots,k b o (λz=>hc (by simp[z])) e⟩) (λ_ _ _ _ n=>n)
  (λb o hc e=>⟨o,k b o (λz=>hc (by simp[z])) e⟩) (λ_ _ e=>e) (λ_ _ _ e=>e) (λb ps e=>⟨#[],by rw[e];simp⟩) (λm hm=>?_) (λb u e=>?_) I.bare
 ·have e:b=it:=by simpa using hb
  subst e
  exact⟨h1,hL,h2,h3⟩
 ·obtain⟨o,es,ep,ho,r⟩:=hm
  exact⟨o,es,ep,k _ o (cJ hL) ho,r⟩
 ·refine(I.hok b u e).stay (λc v hc q=>k c v ?_ q) (λ_ q=>q) λ_ _ q=>q
  rcases hc with z|z
  ·rw[z];exact ZU b u e
  ·exact ZU c _ z
theorem Inv.tok(I:Inv X pins σ H s)(t:Nat):Inv X pins σ H {s with toks:=t}:=I.un (h':=s.heap) (t':=t) Un.refl I.hok
theorem Inv.kept{t':Nat}(I:Inv X pins σ H s)(k:∀b u,s.heap.get? b=some u->h'.get? b=some u):Inv X pins σ H {s with heap:=h',toks:=t'}:=I.un (Un.kept k) (I.hok.kept k)
theorem Inv.laid{a:aa}{o:HO}{t':Nat}(I:Inv X pins σ H s)(k:∀b u,s.heap.get? b=some u->h'.get? b=some u)(hp:s.heap.objs.size<=a)(new:fZ X.prog X.w (upd H a o) h' a o):
  Inv X pins σ (upd H a o) {s with heap:=h',toks:=t'}:=I.un (Un.laid k hp (I.hok.fresh hp)) (I.hok.laid k hp new)
theorem Inv.write{x e:aa}{o:HO}{t':Nat}(I:Inv X pins σ H s)(mu:Mut (H x))(he:e=x\/H e=some (.own x))(k:∀b u,b≠e->s.heap.get? b=some u->h'.get? b=some u)(heo:∃u,h'.get? e=some u)(new:fZ X.prog X.w (upd H x o) h' x o):Inv X pins σ (upd H x o) {s with heap:=h',toks:=t'}:=I.un (Un.write mu he k heo) (I.hok.write mu he k heo new)
theorem Inv.weak{gT:List (Option V)}(I:Inv X pins σ H s)(hl:gT.length=σ.length)(w:∀(i:Nat)v,gT[i]?=some (some v)->σ[i]?=some (some v)):Inv X pins gT H s:=
 ⟨I.ok,I.os,I.bare,I.base,let⟨m,hn,PR⟩:=I.loc;⟨m,hn,λi x v e1 e2 e3=>PR i x v e1 (w i v e2) e3⟩,I.cell,I.free,I.qw,I.pin,I.hok,hl.trans I.len⟩
theorem Inv.MA{ZV:List (aa×aG)}(I:Inv X pins σ H s)(h:∀p∈ZV,s.heap.get? p.1=some p.2/\H p.1=none/\p.1≠X.env.locals/\p.1∉X.fs/\∀v,p.2.data≠.cell v):Inv X ZV σ H s:=
 ⟨I.ok,I.os,I.bare,I.base,I.loc,I.cell,I.free,I.qw,λp hp=>(d7.mp hp).elim (λz=>I.pin p (jB _ z)) (h p),I.hok,I.len⟩
theorem zF(hN:N.Nodup)(a:N[i]?=some x)(b:N[j]?=some x):i=j:=by
 obtain⟨h1,e1⟩:=gx.mp a
 obtain⟨h2,e2⟩:=gx.mp b
 exact(QA hN).mp (e1.trans e2.symm)
theorem C_{v:V}{Q:Unit->aj->Prop}(I:Inv X pins σ H s)(hN:X.N.Nodup)(hi:X.N[i]?=some x)(hx:Loc X.env.scope x)(r:RelV v u)(h:∀s',Inv X pins (σ.set i (some v)) H s'->(∃a,zG a s.heap s'.heap/\(a=X.env.locals\/X.env.cells.lookup x=some a))->Q () s')(hf:X.fn x=true\/X.env.scope.names.lookup x=some .local:=by first|exact .inl rfl|exact .inr rfl|assumption):wpAny M A (FZ X.env x u) Q E s:=by
 obtain⟨m,hn,hl⟩:=id I.loc
 have akw:(X.env.scope.kind==.class||(X.env.scope.kind==.module&&X.env.locals !=X.env.globals))=false:=by rw[I.ok.kind];rfl
 have ad2:i<σ.length:=by rw[I.len];exact(gx.mp hi).1
 have cne:=I.cne
 have tracked:∀{a:aa}{h':aH},(∃o,s.heap.get? a=some o/\H a=none)->zG a s.heap h'->qv X.prog X.w H h':=λ{a h'}ha hs b ob e=>by
  obtain⟨_,_,tT⟩:=ha
  refine(I.hok b ob e).stay (λc w' hc q=>(hs.2 c ?_).trans q) (λ_ q=>q) λ_ _ q=>q
  rintro rfl
  rcases hc with rfl|hc
  ·rw[tT]at e;cases e
  ·rw[tT]at hc;cases hc
 rcases hx with hk|hk
 ·refine wpAny_storeName_local hk hn (λh' Zy hs=>?_) akw
  obtain⟨oL,_,_,hoL,_⟩:=id hn
  refine h _ ⟨I.ok,I.os,I.bare,⟨λb o e n hb hx=>?_,λb o e n hb hx=>?_,I.base.free,λb o e hx=>?_,I.base.tups,I.base.xa,I.base.yu⟩,⟨_,Zy,λj y v' e1 e2 e3=>?_⟩,λy c e=>?_,I.free,I.qw,λp hp=>?_,tracked ⟨oL,hoL,I.free⟩ hs,by simpa using I.len⟩ ⟨_,hs,.inl rfl⟩
  ·exact(hs.2 b (bS (dS (ba e) I.ok.above))).trans (I.base.keep b o e n hb hx)
  ·obtain⟨sl,e1⟩:=I.base.slot b o e n hb hx
   exact⟨sl,(hs.2 b (bS (dS (ba e) I.ok.above))).trans e1⟩
  ·obtain⟨o',e1⟩:=I.base.there b o e hx
   exact⟨o',(hs.2 b (bS (dS (ba e) I.ok.above))).trans e1⟩
  ·by_cases hj:j=i
   ·subst hj
    rw[hi]at e1;cases e1
    rw[F0 ad2]at e2
    cases e2
    exact⟨u,r,.inl ⟨hk,by simp⟩⟩
   ·rw[F1 (cJ hj)]at e2
    obtain⟨u',r',q⟩:=hl j y v' e1 e2 e3
    refine⟨u',r',?_⟩
    rcases q with⟨k,e⟩|⟨k,c,e,z⟩
    ·refine .inl ⟨k,?_⟩
     have:y≠x:=λe=>hj (zF hN e1 (e▸hi))
     simp[this,e]
    ·exact .inr ⟨k,c,e,z.sameBut hs (cne y c e)⟩
  ·obtain⟨w',z⟩:=I.cell y c e
   exact⟨w',z.sameBut hs (cne y c e)⟩
  ·obtain⟨e,n,ne,nf,d⟩:=I.pin p hp
   exact⟨(hs.2 p.1 ne).trans e,n,ne,nf,d⟩
 ·have hfn:X.fn x=true:=by
   rcases hf with z|z
   ·exact z
   ·rw[z]at hk;cases hk
  obtain⟨c,hc⟩:=I.ok.has x (.inl hk)
  obtain⟨w',z⟩:=I.cell x c hc
  refine wpAny_storeName_cell I.ok.kind hk hc z (λh' Xe hs=>?_)
  obtain⟨oc,hoc,ahQ⟩:=id z
  refine h {s with heap:=h'} ⟨I.ok,I.os,I.bare,⟨λb o e n hb hx=>?_,λb o e n hb hx=>?_,I.base.free,λb o e hx=>?_,I.base.tups,I.base.xa,I.base.yu⟩,⟨m,hn.sameBut hs (cJ (cne x c hc)),λj y v' e1 e2 e3=>?_⟩,λy c' e=>?_,I.free,I.qw,λp hp=>?_,tracked ⟨oc,hoc,I.qw x c hc⟩ hs,by simpa using I.len⟩ ⟨c,hs,.inr hc⟩
  ·exact(hs.2 b (bS (dS (ba e) (I.ok.cab x c hfn hc)))).trans (I.base.keep b o e n hb hx)
  ·obtain⟨sl,e1⟩:=I.base.slot b o e n hb hx
   exact⟨sl,(hs.2 b (bS (dS (ba e) (I.ok.cab x c hfn hc)))).trans e1⟩
  ·obtain⟨o',e1⟩:=I.base.there b o e hx
   exact⟨o',(hs.2 b (bS (dS (ba e) (I.ok.cab x c hfn hc)))).trans e1⟩
  ·by_cases hj:j=i
   ·subst hj
    rw[hi]at e1;cases e1
    rw[F0 ad2]at e2
    cases e2
    exact⟨u,r,.inr ⟨.inl hk,c,hc,Xe⟩⟩
   ·rw[F1 (cJ hj)]at e2
    obtain⟨u',r',q⟩:=hl j y v' e1 e2 e3
    refine⟨u',r',?_⟩
    rcases q with q|⟨k,c',e,z'⟩
    ·exact .inl q
    ·refine .inr ⟨k,c',e,z'.sameBut hs ?_⟩
     rintro rfl
     exact hj (zF hN e1 (I.ok.inj _ _ _ e hc▸hi))
  ·by_cases hcc:c'=c
   ·subst hcc;exact⟨_,Xe⟩
   ·obtain⟨w2,z2⟩:=I.cell y c' e
    exact⟨w2,z2.sameBut hs hcc⟩
  ·obtain⟨e,n,ne,nf,d⟩:=I.pin p hp
   refine⟨(hs.2 p.1 ?_).trans e,n,ne,nf,d⟩
   intro q
   rw[q,hoc]at e
   have q':oc=p.2:=bO e
   exact d w' (by rw[<-q'];exact ahQ)
theorem uE{v:V}{Q:Unit->aj->Prop}(I:Inv X pins σ H s)(hN:X.N.Nodup)(hi:X.N[i]?=some x)(hx:Loc X.env.scope x)(r:RelV v u)(h:∀s',Inv X pins (σ.set i (some v)) H s'->Q () s')(hf:X.fn x=true\/X.env.scope.names.lookup x=some .local:=by first|exact .inl rfl|exact .inr rfl|assumption):wpAny M A (FZ X.env x u) Q E s:=
 C_ I hN hi hx r (λs' I' _=>h s' I') hf
theorem Inv.call'{s':aj}(I:Inv X pins σ H s)(ho:s'.os=s.os)(u:Un (WB X.stack) ch H H' s.heap s'.heap)(hok:qv X.prog X.w H' s'.heap)(hg:n_ s'.gens)(Xd:∀b∈ch,(b∈X.ex\/X.s_0.heap.objs.size<=b)/\b≠X.env.locals/\(∀x c,X.env.cells.lookup x=some c->c≠b)/\∀p∈X.pn++pins,p.1≠b):Inv X pins σ H' s':=by
 obtain⟨h',g',d',t',o'⟩:=s'
 have e:o'=s.os:=ho
 subst e
 exact I.call (g':=g') (t':=t') (d':=d') u hok hg Xd
end
abbrev XK:=af->Option aa->Hp->Prop
abbrev St:=List (Option V)
abbrev VK:=V->Hp->Prop
abbrev TE:=St->Hp->VK->Prop
abbrev TT:=St->Hp->(Bool->Hp->Prop)->Prop
abbrev TA:=St->Hp->(List V->Hp->Prop)->Prop
structure Ends where
 nx:St->Hp->Prop
 rt:VK
 bk:St->Hp->Prop:=λ_ _=>False
 ct:St->Hp->Prop:=λ_ _=>False
abbrev TS:=Ends->St->Hp->Prop
def EP(X:Cx)(pins:List (aa×aG))(σ:St)(Q:VK)(u:af)(s':aj):Prop:=∃v H',Inv X pins σ H' s'/\RelV v u/\Q v H'
def TP(X:Cx)(pins:List (aa×aG))(σ:St)(Q:Bool->Hp->Prop)(b:Bool)(s':aj):Prop:=∃H',Inv X pins σ H' s'/\Q b H'
def AP(X:Cx)(pins:List (aa×aG))(σ:St)(Q:List V->Hp->Prop)(us:List af)(s':aj):Prop:=∃vs H',Inv X pins σ H' s'/\Vals vs us/\Q vs H'
def SP(X:Cx)(pins:List (aa×aG))(D:Ends)(f:Flow)(s':aj):Prop:=
 match f with
 | .next=>∃gT H',Inv X pins gT H' s'/\D.nx gT H'
 | .brk=>∃gT H',Inv X pins gT H' s'/\D.bk gT H'
 | .cont=>∃gT H',Inv X pins gT H' s'/\D.ct gT H'
 | .ret u=>∃v gT H',Inv X pins gT H' s'/\RelV v u/\D.rt v H'
def PE(X:Cx)(e:aQ)(t:TE):Prop:=
 ∀(pins:List (aa×aG))(s:aj)(σ:St)(H:Hp)(Q:VK),Inv X pins σ H s->t σ H Q->wpAny (ay X.prog X.w) X.A (eval e X.env) (EP X pins σ Q) X.xe s
def PT(X:Cx)(e:aQ)(t:TT):Prop:=
 ∀(pins:List (aa×aG))(s:aj)(σ:St)(H:Hp)(Q:Bool->Hp->Prop),Inv X pins σ H s->t σ H Q->wpAny (ay X.prog X.w) X.A (uF e X.env (eval e X.env)) (TP X pins σ Q) X.xe s
def PW(X:Cx)(e:aQ)(t:TT):Prop:=
 ∀(whole:aJ af)(pins:List (aa×aG))(s:aj)(σ:St)(H:Hp)(Q:Bool->Hp->Prop),Inv X pins σ H s->t σ H Q->wpAny (ay X.prog X.w) X.A (uF e X.env whole) (TP X pins σ Q) X.xe s
theorem PW.pt{t:TT}(h:PW X e t):PT X e t:=h _
def PA(X:Cx)(es:List aQ)(t:TA):Prop:=
 ∀(pos:cK)(pins:List (aa×aG))(s:aj)(σ:St)(H:Hp)(Q:List V->Hp->Prop),Inv X pins σ H s->t σ H Q->wpAny (ay X.prog X.w) X.A (zH (b9 pos (aU es X.env))) (AP X pins σ Q) X.xe s
def PS(X:Cx)(st:bj)(t:TS):Prop:=
 ∀(pins:List (aa×aG))(s:aj)(σ:St)(H:Hp)(D:Ends),Inv X pins σ H s->t D σ H->wpAny (ay X.prog X.w) X.A (exec st X.env) (SP X pins D) X.xe s
def FG(X:Cx)(st:List bj)(t:TS):Prop:=
 ∀(pins:List (aa×aG))(s:aj)(σ:St)(H:Hp)(D:Ends),Inv X pins σ H s->t D σ H->wpAny (ay X.prog X.w) X.A (execs st X.env) (SP X pins D) X.xe s
theorem fg{t:aJ α}{Q Q':α->aj->Prop}(h:wpAny M A t Q E s)(hQ:∀a s,Q a s->Q' a s):wpAny M A t Q' E s:=eM h hQ λ_ _ x=>x
variable{ta tb:TE}{σ:St}
section
def cE(i:Nat):TE:=λσ H Q=>∃v,σ[i]?=some (some v)/\Q v H
def tC(v:V):TE:=λ_ H Q=>Q v H
theorem aaO(hN:X.N[i]?=some x)(hv:Vis X.env.scope x)(hd:(x==("__debug__":ag))=false:=by decide)(PU:(x==("__classdict__":ag))=false:=by decide):PE X (.Name x pos) (cE i):=by
 intro pins s σ H Q I h
 obtain⟨v,e,h⟩:=h
 obtain⟨m,hn,hl⟩:=I.loc
 obtain⟨u,r,l⟩:=hl i x v hN e hv
 have fin:EP X pins σ Q u s:=⟨v,H,I,r,h⟩
 rcases l with⟨hk,hm⟩|⟨hk,c,hc,N1⟩
 ·exact F2 (QB I.ok.kind hk hn hm fin) hd
 ·rcases hk with hk|hk
  ·exact F2 (QC I.ok.kind hk hc N1 fin) hd
  ·exact F2 (wpAny_loadName_free I.ok.kind hk hc N1 fin PU) hd
theorem bo{i j pos}:PE X (.Constant (.int i) j pos) (tC (.int i)):=λ_ _ _ H _ I h=>QD ⟨.int i,H,I.tok _,⟨_,rfl⟩,h⟩
theorem x4{b j pos}:PE X (.Constant (.bool b) j pos) (tC (.bl b)):=λ_ _ _ H _ I h=>Constant_bool ⟨.bl b,H,I,rfl,h⟩
theorem QE{j pos}:PE X (.Constant .none j pos) (tC .non):=λ_ _ _ H _ I h=>Constant_none ⟨.non,H,I,rfl,h⟩
def Gl(X:Cx)(x:ag):Prop:=X.env.kindOf x=some .globalImplicit
theorem uG(I:Inv X pins σ H s)(hg:Gl X x)(hm:X.mg x=some u)(h:Q u s)(hd:(x==("__debug__":ag))=false:=by decide):wpAny (ay X.prog X.w) X.A (eval (.Name x pos) X.env) Q E s:=
 QF I.ok.kind hg (Calls.loadGlobal_global (by rw[I.ok.glob];exact I.mod.glob.keeps I.bk) hm h) hd
theorem kj(I:Inv X pins σ H s)(hg:Gl X x)(hm:X.mg x=none)(hv:kK x=some u)(h:Q u s)(hn:x≠"__name__":=by decide)(hd:(x==("__debug__":ag))=false:=by decide):wpAny (ay X.prog X.w) X.A (eval (.Name x pos) X.env) Q E s:=by
 obtain⟨mb,h1,h2⟩:=I.mod.blt
 exact QF I.ok.kind hg (Calls.loadGlobal_builtin (by rw[I.ok.glob];exact I.mod.glob.keeps I.bk) hm (by rw[I.ok.blt];exact h1.keeps I.bk) ((h2 x hn).trans hv) h) hd
theorem Xq{v:V}(hg:Gl X x)(hm:X.mg x=some u)(r:RelV v u)(hd:(x==("__debug__":ag))=false:=by decide):PE X (.Name x pos) (tC v):=
 λ_ _ _ H _ I h=>uG I hg hm ⟨v,H,I,r,h⟩ hd
variable{a b:aQ}
def PC(X:Cx)(op:CmpOp)(a b:aQ)(t:TE):Prop:=
 ∀(pins:List (aa×aG))(s:aj)(σ:St)(H:Hp)(Q:VK),Inv X pins σ H s->t σ H Q->wpAny (ay X.prog X.w) X.A (eval a X.env) (λv s₁=>wpAny (ay X.prog X.w) X.A (eval b X.env) (λu nV=>wpAny (ay X.prog X.w) X.A (fh op v u) (EP X pins σ Q) X.xe nV) X.xe s₁) X.xe s
theorem QG(b:aQ)(h:op≠.In)(h2:op≠.NotIn):oa op b=false:=by
 have e1:(op==CmpOp.In)=false:=by cases op<;>first|rfl|exact absurd rfl h
 have e2:(op==QH)=false:=by cases op<;>first|rfl|exact absurd rfl h2
 cases b<;>simp[oa,e1,e2]
def tB(t:TE):TT:=λσ H Q=>t σ H λx H1=>∃c,x=.bl c/\Q c H1
theorem QI{t:TE}(h:PC X op a b t)(h1:oa op b=false:=by first|exact QG _ dd dd|rfl):PT X (.Compare a [op] [b] pos) (tB t):=by
 intro pins s σ H Q I hw
 refine QJ (fg (h pins s σ H _ I hw) λv s1 h1=>fg h1 λu s2 h2=>fg h2 λc s3⟨x,H1,I1,r1,q1⟩=>?_) h1
 obtain⟨d,rfl,q⟩:=q1
 cases r1
 exact kJ ⟨H1,I1,q⟩
theorem jC{t:TE}(h:PE X e t)(he:∀whole,uF e X.env whole=(do let v<-whole;oe e.pos;h_ [v] (truthy v)):=by intro _;rfl):PT X e (tB t):=by
 intro pins s σ H Q I hw
 refine isTrue_plain (fg (h pins s σ H _ I hw) λv s1⟨x,H1,I1,r1,q1⟩=>?_) (he _)
 obtain⟨d,rfl,q⟩:=q1
 cases r1
 exact kJ ⟨H1,I1,q⟩
variable{tA W3:TT}{rest:List aQ}
def QK(t u:TT):TT:=λσ H Q=>t σ H λc H1=>if c=true then u σ H1 Q else Q false H1
def tOr(t u:TT):TT:=λσ H Q=>t σ H λc H1=>if c=true then Q true H1 else u σ H1 Q
def aaP(t:TT):TT:=λσ H Q=>t σ H λc H1=>Q (!c) H1
theorem Xr(ha:PT X a tA):PW X (.BoolOp .And [a] pos) tA:=by
 intro wh pins s σ H Q I h
 refine isTrue_and (fg (ha pins s σ H Q I h) λc s1 e=>?_)
 cases c with
 |true=>exact isTrue_and_nil e
 |false=>exact e
theorem aaQ(ha:PT X a tA):PW X (.BoolOp .Or [a] pos) tA:=by
 intro wh pins s σ H Q I h
 refine isTrue_or (fg (ha pins s σ H Q I h) λc s1 e=>?_)
 cases c with
 |false=>exact isTrue_or_nil e
 |true=>exact e
theorem aaR(ha:PT X a tA)(hb:PW X (.BoolOp .And (b::rest) pos) W3):PW X (.BoolOp .And (a::b::rest) pos) (QK tA W3):=by
 intro wh pins s σ H Q I h
 refine isTrue_and (fg (ha pins s σ H _ I h) λc s1⟨H1,I1,q1⟩=>?_)
 cases c with
 |true=>exact hb wh pins s1 σ H1 Q I1 q1
 |false=>exact⟨H1,I1,q1⟩
theorem ad3(ha:PT X a tA)(hb:PW X (.BoolOp .Or (b::rest) pos) W3):PW X (.BoolOp .Or (a::b::rest) pos) (tOr tA W3):=by
 intro wh pins s σ H Q I h
 refine isTrue_or (fg (ha pins s σ H _ I h) λc s1⟨H1,I1,q1⟩=>?_)
 cases c with
 |true=>exact⟨H1,I1,q1⟩
 |false=>exact hb wh pins s1 σ H1 Q I1 q1
theorem nJ(ha:PT X a tA):PT X (.UnaryOp .Not a pos) (aaP tA):=by
 intro pins s σ H Q I h
 exact isTrue_not (ha pins s σ H (λc H1=>Q (!c) H1) I h)
def ad4(ta tb:TE):TE:=λσ H Q=>ta σ H λx H1=>∃c,x=.bl c/\if c=true then tb σ H1 Q else Q (.bl false) H1
def ahR(ta tb:TE):TE:=λσ H Q=>ta σ H λx H1=>∃c,x=.bl c/\if c=true then Q (.bl true) H1 else tb σ H1 Q
theorem xc{op}{t:TE}(h:PE X a t):PE X (.BoolOp op [a] pos) t:=λpins s σ H Q I hw=>BoolOp_one (h pins s σ H Q I hw)
theorem zI(ha:PE X a ta)(hb:PE X (.BoolOp .And (b::rest) pos) tb):PE X (.BoolOp .And (a::b::rest) pos) (ad4 ta tb):=by
 intro pins s σ H Q I h
 refine BoolOp_and (fg (ha pins s σ H _ I h) λv s1⟨x,H1,I1,r1,q1⟩=>?_)
 obtain⟨c,rfl,q1⟩:=q1
 cases r1
 refine kJ ?_
 cases c with
 |true=>exact hb pins s1 σ H1 Q I1 q1
 |false=>exact⟨.bl false,H1,I1,rfl,q1⟩
theorem ad5(ha:PE X a ta)(hb:PE X (.BoolOp .Or (b::rest) pos) tb):PE X (.BoolOp .Or (a::b::rest) pos) (ahR ta tb):=by
 intro pins s σ H Q I h
 refine BoolOp_or (fg (ha pins s σ H _ I h) λv s1⟨x,H1,I1,r1,q1⟩=>?_)
 obtain⟨c,rfl,q1⟩:=q1
 cases r1
 refine kJ ?_
 cases c with
 |false=>exact hb pins s1 σ H1 Q I1 q1
 |true=>exact⟨.bl true,H1,I1,rfl,q1⟩
def tIf(t:TT)(ta tb:TE):TE:=λσ H Q=>t σ H λc H1=>if c=true then ta σ H1 Q else tb σ H1 Q
theorem QL(hc:PT X c tA)(ha:PE X a ta)(hb:PE X b tb):PE X (.IfExp c a b pos) (tIf tA ta tb):=by
 intro pins s σ H Q I h
 refine wpAny_IfExp (fg (hc pins s σ H _ I h) λd s1⟨H1,I1,q1⟩=>?_)
 cases d with
 |true=>exact ha pins s1 σ H1 Q I1 q1
 |false=>exact hb pins s1 σ H1 Q I1 q1
end
def a_(K:aL)(H:Hp)(a:aa)(xs:List V):Prop:=
 Rd H a (.lst xs)\/∃(o:aG)(its:Array af)(n:Nat),K.lookup a=some o/\o.cls=.type "list"/\o.dict=none/\o.data=.seq its n/\its.size<=az/\Vals xs its.toList
def lu(K:aL)(H:Hp)(a:aa)(xs:List V):Prop:=
 Rd H a (.tup xs)\/∃(o:aG)(its:Array af)(n:Nat),K.lookup a=some o/\o.cls=.type "tuple"/\o.data=.seq its n/\its.size<=az/\Vals xs its.toList
def ahS:af->Option V
 | .none=>some .non
 | .bool b=>some (.bl b)
 | .int i _=>some (.int i)
 | .str x _=>some (.str x)
 | .bytes b _=>some (.Kh b)
 | .float b _=>some (.flt b)
 | .ref a=>some (.ref a)
 | .type n=>some (.ty n)
 |_=>none
theorem RelV.abs{x:V}(r:RelV x u):ahS u=some x:=by
 cases x with
 |non=>cases r;rfl
 |bl _=>cases r;rfl
 |int _=>obtain⟨t,rfl⟩:=r;rfl
 |str _=>obtain⟨t,rfl⟩:=r;rfl
 |Kh _=>obtain⟨t,rfl⟩:=r;rfl
 |flt _=>obtain⟨t,rfl⟩:=r;rfl
 |ref _=>cases r;rfl
 |ty _=>cases r;rfl
theorem RelV.inj{x y:V}{u:af}(r:RelV x u)(q:RelV y u):x=y:=bO (r.abs.symm.trans q.abs)
theorem Vals.inj:∀{xs ys:List V}{us:List af},Vals xs us->Vals ys us->xs=ys
 |_,_,_,.nil,.nil=>rfl
 |_,_,_,.cons r t,.cons r' t'=>by rw[r.inj r',Vals.inj t t']
theorem a_.of(h:H a=some (.lst xs)):a_ K H a xs:=.inl (.inl h)
theorem lu.of(h:H a=some (.tup xs)):lu K H a xs:=.inl (.inl h)
theorem Inv.list(I:Inv X pins σ H s)(h:a_ X.K H a xs):∃its:List af,Vals xs its/\PlainL s.heap a its.toArray/\xs.length<=az:=by
 rcases h with h|⟨o,its,n,hk,hc,hd,hs,hz,r⟩
 ·obtain⟨z,its,n,r,e⟩:=h.ok I.hok
  exact⟨its,r,⟨_,n,e,rfl,rfl,rfl⟩,z⟩
 ·refine⟨its.toList,r,⟨o,n,I.Ki a o hk,hc,hd,by simpa using hs⟩,?_⟩
  have e:=r.length
  simp only[dj]at e
  omega
theorem Inv.tuple(I:Inv X pins σ H s)(h:lu X.K H a xs):∃its:List af,Vals xs its/\n9 s.heap a its.toArray/\xs.length<=az:=by
 rcases h with h|⟨o,its,n,hk,hc,hs,hz,r⟩
 ·obtain⟨z,its,r,p⟩:=h.ok I.hok
  exact⟨its,r,p,z⟩
 ·refine⟨its.toList,r,⟨o,I.Ki a o hk,hc,n,by simpa using hs⟩,?_⟩
  have e:=r.length
  simp only[dj]at e
  omega
theorem Inv.qx(I:Inv X pins σ H s)(h:a_ X.K H a xs)(h':a_ X.K H a ys):xs=ys:=by
 obtain⟨its,r,⟨o,n,e,_,_,d⟩,_⟩:=I.list h
 obtain⟨its',r',⟨o',n',e',_,_,d'⟩,_⟩:=I.list h'
 rw[e]at e';cases e'
 rw[d]at d'
 injection d' with d1 _
 have:its=its':=by simpa using congrArg QM d1
 subst this
 exact r.inj r'
abbrev Cx.wish(X:Cx)(E:af->aj->Prop):Cx:={X with xe:=E}
abbrev Cx.ZW(X:Cx):Cx:=X.wish λ_ _=>False
theorem Cx.Ok.wish{X:Cx}(ok:X.Ok)(E:af->aj->Prop):(X.wish E).Ok:=
 ⟨ok.mod,ok.kind,ok.glob,ok.blt,ok.above,ok.inj,ok.has,ok.cab,ok.hd,ok.frames,ok.stk,ok.exf,ok.bs,ok.Qy,ok.Qz,ok.Oa,ok.xb,ok.ZT⟩
theorem Cx.Ok.nL(ok:(X.wish E).Ok):X.Ok:=
 ⟨ok.mod,ok.kind,ok.glob,ok.blt,ok.above,ok.inj,ok.has,ok.cab,ok.hd,ok.frames,ok.stk,ok.exf,ok.bs,ok.Qy,ok.Qz,ok.Oa,ok.xb,ok.ZT⟩
theorem Inv.wish(I:Inv X pins σ H s)(E:af->aj->Prop):Inv (X.wish E) pins σ H s:=⟨I.ok.wish E,I.os,I.bare,I.base,I.loc,I.cell,I.free,I.qw,I.pin,I.hok,I.len⟩
theorem Inv.nL(I:Inv (X.wish E) pins σ H s):Inv X pins σ H s:=⟨I.ok.nL,I.os,I.bare,I.base,I.loc,I.cell,I.free,I.qw,I.pin,I.hok,I.len⟩
theorem SP.nL{D:Ends}{f:Flow}{s':aj}(h:SP (X.wish E) pins D f s'):SP X pins D f s':=by
 cases f with
 |next=>obtain⟨gT,H',I,q⟩:=h;exact⟨gT,H',I.nL,q⟩
 |brk=>obtain⟨gT,H',I,q⟩:=h;exact⟨gT,H',I.nL,q⟩
 |cont=>obtain⟨gT,H',I,q⟩:=h;exact⟨gT,H',I.nL,q⟩
 |ret u=>obtain⟨v,gT,H',I,r,q⟩:=h;exact⟨v,gT,H',I.nL,r,q⟩
theorem PE.ZW{e:aQ}{t:TE}(h:PE X.ZW e t):PE X e t:=λpins s σ H Q I hw=>
 eM (h pins s σ H Q (I.wish _) hw) (λ_ _⟨v,H',I',r,q⟩=>⟨v,H',I'.nL,r,q⟩) λ_ _ z=>False.elim z
theorem PT.ZW{e:aQ}{t:TT}(h:PT X.ZW e t):PT X e t:=λpins s σ H Q I hw=>
 eM (h pins s σ H Q (I.wish _) hw) (λ_ _⟨H',I',q⟩=>⟨H',I'.nL,q⟩) λ_ _ z=>False.elim z
theorem FG.ZW{st:List bj}{t:TS}(h:FG X.ZW st t):FG X st t:=λpins s σ H D I hw=>
 eM (h pins s σ H D (I.wish _) hw) (λ_ _ q=>q.nL) λ_ _ z=>False.elim z
variable{te:TE}
section
variable{rest:List bj}{t u:TS}
def ad6:TS:=λD σ H=>D.nx σ H
def aaS(t u:TS):TS:=λD σ H=>t {D with nx:=u D} σ H
theorem cf:FG X [] ad6:=λ_ _ σ H _ I h=>uH ⟨σ,H,I,h⟩
theorem ak(h1:PS X st t)(h2:FG X rest u):FG X (st::rest) (aaS t u):=by
 intro pins s σ H D I h
 refine uI (fg (h1 pins s σ H {D with nx:=u D} I h) λf s1 q=>?_)
 cases f with
 |next=>
  obtain⟨gT,H',I',q⟩:=q
  exact h2 pins s1 gT H' D I' q
 |ret v=>exact q
 |brk=>exact q
 |cont=>exact q
theorem aD(h1:PS X st t):FG X [st] t:=by
 intro pins s σ H D I h
 refine uI (fg (h1 pins s σ H D I h) λf s1 q=>?_)
 cases f with
 |next=>exact uH q
 |ret v=>exact q
 |brk=>exact q
 |cont=>exact q
theorem Inv.quiet(I:Inv X pins σ H s):interactive X.env=false:=by simp[interactive,I.ok.kind]
def ad7(te:TE):TS:=λD σ H=>te σ H λ_ H1=>D.nx σ H1
theorem eQ(he:PE X e te)(hs:iV e none pos.line X.env=pure false:=by rfl):PS X (.Expr e pos) (ad7 te):=by
 intro pins s σ H D I h
 exact wpAny_Expr_any (fg (he pins s σ H _ I h) λv s1⟨x,H1,I1,r1,q1⟩=>⟨σ,H1,I1,q1⟩) I.quiet hs
def ahT(te:TE):TS:=λD σ H=>te σ H D.rt
theorem aX(he:PE X e te):PS X (.Return (some e) pos) (ahT te):=by
 intro pins s σ H D I h
 exact wpAny_Return_some (fg (he pins s σ H _ I h) λv s1⟨x,H1,I1,r1,q1⟩=>⟨x,σ,H1,I1,r1,q1⟩)
def ahU(c:TT)(t u:TS):TS:=λD σ H=>c σ H λb H1=>if b=true then t D σ H1 else u D σ H1
theorem eG{a b:List bj}{tc:TT}(hc:PT X c tc)(ha:FG X a t)(hb:FG X b u):PS X (.If c a b pos) (ahU tc t u):=by
 intro pins s σ H D I h
 refine wpAny_If (fg (hc pins s σ H _ I h) λd s1⟨H1,I1,q1⟩=>?_)
 cases d with
 |true=>exact ha pins s1 σ H1 D I1 q1
 |false=>exact hb pins s1 σ H1 D I1 q1
end
abbrev TG:=V->St->Hp->(St->Hp->Prop)->Prop
abbrev TGs:=List V->St->Hp->(St->Hp->Prop)->Prop
def PG(X:Cx)(target:aQ)(t:TG):Prop:=
 ∀(pins:List (aa×aG))(s:aj)(σ:St)(H:Hp)(v:V)(u:af)(Q:St->Hp->Prop),Inv X pins σ H s->RelV v u->t v σ H Q->wpAny (ay X.prog X.w) X.A (og target X.env u) (λ_ s'=>∃gT H',Inv X pins gT H' s'/\Q gT H') X.xe s
def PGs(X:Cx)(ts:List aQ)(t:TGs):Prop:=
 ∀(pins:List (aa×aG))(s:aj)(σ:St)(H:Hp)(vs:List V)(us:List af)(Q:St->Hp->Prop),Inv X pins σ H s->Vals vs us->t vs σ H Q->wpAny (ay X.prog X.w) X.A (assignInOrder ((qy ts X.env).map (·.2)) us) (λ_ s'=>∃gT H',Inv X pins gT H' s'/\Q gT H') X.xe s
abbrev aaU:=V->V->V->Hp->(Hp->Prop)->Prop
def ad8(X:Cx)(t:aaU):Prop:=
 ∀(pins:List (aa×aG))(s:aj)(σ:St)(H:Hp)(o i v:V)(ov iv u:af)(Q:Hp->Prop),Inv X pins σ H s->RelV o ov->RelV i iv->RelV v u->t o i v H Q->wpAny (ay X.prog X.w) X.A (setItem ov iv u) (λ_ s'=>∃H',Inv X pins σ H' s'/\Q H') X.xe s
abbrev TIp:=V->V->Hp->VK->Prop
def PIp(X:Cx)(op:uJ)(t:TIp):Prop:=
 ∀(pins:List (aa×aG))(s:aj)(σ:St)(H:Hp)(x y:V)(v u:af)(Q:VK),Inv X pins σ H s->RelV x v->RelV y u->t x y H Q->wpAny (ay X.prog X.w) X.A (F3 op v u) (EP X pins σ Q) X.xe s
def cy(i:Nat):TG:=λv σ H Q=>Q (σ.set i (some v)) H
theorem Xs(hN:X.N.Nodup)(hi:X.N[i]?=some x)(hx:Loc X.env.scope x)(hf:X.fn x=true\/X.env.scope.names.lookup x=some .local:=by first|exact .inl rfl|exact .inr rfl|assumption):PG X (.Name x pos) (cy i):=by
 intro pins s σ H v u Q I r h
 exact QN (uE I hN hi hx r (λs' I'=>⟨_,H,I',h⟩) hf)
def tp:TGs:=λvs σ H Q=>vs=[]/\Q σ H
def fi(t:TG)(u:TGs):TGs:=λvs σ H Q=>∃v r,vs=v::r/\t v σ H λgT H'=>u r gT H' Q
theorem eI:PGs X [] tp:=by
 intro pins s σ H vs us Q I r h
 obtain⟨e,h⟩:=h
 subst e
 cases r
 exact assignInOrder_nil ⟨σ,H,I,h⟩
theorem bu{es:List aQ}{t:TG}{u:TGs}(h1:PG X e t)(h2:PGs X es u)(hs:(qy (e::es) X.env).map (·.2)=og e X.env::(qy es X.env).map (·.2):=by rfl):PGs X (e::es) (fi t u):=by
 intro pins s σ H vs us Q I r h
 obtain⟨v,vr,e1,h⟩:=h
 subst e1
 cases r with
 |cons r rr=>
  rw[hs]
  refine assignInOrder_cons (fg (h1 pins s σ H _ _ _ I r h) λ_ s1⟨σ1,H1,I1,q1⟩=>?_)
  exact h2 pins s1 σ1 H1 _ _ Q I1 rr q1
def tq(K:aL)(n:Nat)(t:TGs):TG:=λv σ H Q=>∃a xs,v=.ref a/\lu K H a xs/\xs.length=n/\t xs σ H Q
theorem fV{es:List aQ}{k:Nat}{t:TGs}(hc:X.calm=true)(h:PGs X es t)(hn:(qy es X.env).length=n:=by rfl)(tj:(qy es X.env).findIdx? (·.1)=none:=by rfl):PG X (.Tuple es k pos) (tq X.K n t):=by
 intro pins s σ H v u Q I r hw
 obtain⟨a,xs,e1,hq,hl,hw⟩:=hw
 subst e1
 cases r
 obtain⟨its,rv,ht,hz⟩:=I.tuple hq
 refine assign_Tuple_tuple (I.ok.hd hc) ht (by simp[hn,<-hl,rv.length]) tj λh' hx=>?_
 have I1:Inv X pins σ H {s with heap:=h'}:=I.kept (t':=s.toks) λb o e=>hx b o (bS (ba e)) e
 exact h pins _ σ H xs _ Q I1 (by simpa using rv) hw
def ahW(to ti:TE)(t:aaU):TG:=λv σ H Q=>to σ H λo H1=>ti σ H1 λi H2=>t o i v H2 λH3=>Q σ H3
theorem aaV{o i:aQ}{to ti:TE}{t:aaU}(ho:PE X o to)(hi:PE X i ti)(hs:ad8 X t)(ha:∀v,og (.Subscript o i pos) X.env v=(do
   let ov<-h_ [v] (eval o X.env)
   let iv<-h_ [v,ov] (eval i X.env)
   oe pos
   h_ [v,ov,iv] (setItem ov iv v)
   release [v,ov,iv] []):=by intro _;rfl):PG X (.Subscript o i pos) (ahW to ti t):=by
 intro pins s σ H v u Q I r h
 rw[ha]
 refine au (fj (fg (ho pins s σ H _ I h) λov s1⟨x,H1,I1,r1,q1⟩=>?_))
 refine au (fj (fg (hi pins s1 σ H1 _ I1 q1) λiv s2⟨y,H2,I2,r2,q2⟩=>?_))
 refine au (F4 (au (fj (fg (hs pins s2 σ H2 x y v ov iv u _ I2 r1 r2 r q2) λ_ s3⟨H3,I3,q3⟩=>?_))))
 exact wpAny_release ⟨σ,H3,I3,q3⟩
def QO(te:TE)(g:TG):TS:=λD σ H=>te σ H λx H1=>g x σ H1 D.nx
variable{g:TG}
theorem aaW(he:PE X e te)(hg:PG X tg g)(hs:swapsWithSole [tg] e pos.line X.env=pure false:=by rfl)(hw:swappedStores [tg] e X.env=pure none:=by rfl)(h1:(qy [tg] X.env).map (·.2)=[og tg X.env]:=by rfl):PS X (.Assign [tg] e pos) (QO te g):=by
 intro pins s σ H D I h
 refine wpAny_Assign_stores (fg (he pins s σ H _ I h) λv s1⟨x,H1,I1,r1,q1⟩=>?_) hs hw
 rw[h1]
 exact fg (hg pins s1 σ H1 x v _ I1 r1 q1) λ_ s2 q=>q
theorem lx(hN:X.N.Nodup)(hi:X.N[i]?=some x)(hx:Loc X.env.scope x)(he:PE X e te)(hs:iV e (some (.Name x pos')) pos.line X.env=pure false:=by rfl)(hf:X.fn x=true\/X.env.scope.names.lookup x=some .local:=by first|exact .inl rfl|exact .inr rfl|assumption):
  PS X (.Assign [.Name x pos'] e pos) (QO te (cy i)):=by
 intro pins s σ H D I h
 refine QP (fg (he pins s σ H _ I h) λv s1⟨y,H1,I1,r1,q1⟩=>?_) hs
 exact uE I1 hN hi hx r1 (λs2 I2=>⟨_,H1,I2,q1⟩) hf
def ahX(i:Nat)(te:TE)(ti:TIp):TS:=λD σ H=>∃x,σ[i]?=some (some x)/\te σ H λy H1=>ti x y H1 λz H2=>D.nx (σ.set i (some z)) H2
theorem Ee{op:uJ}{ti:TIp}(hN:X.N.Nodup)(hi:X.N[i]?=some x)(hx:Loc X.env.scope x)(he:PE X e te)(ho:PIp X op ti)(hf:X.fn x=true\/X.env.scope.names.lookup x=some .local:=by first|exact .inl rfl|exact .inr rfl|assumption):
  PS X (.AugAssign (.Name x pos') op e pos) (ahX i te ti):=by
 intro pins s σ H D I h
 obtain⟨v,e1,h⟩:=h
 obtain⟨m,hn,hl⟩:=I.loc
 have vis:Vis X.env.scope x:=by rcases hx with k|k;exact .inl k;exact .inr (.inl k)
 obtain⟨u,r,l⟩:=hl i x v hi e1 vis
 refine wpAny_AugAssign_Name ?_
 have go:wpAny (ay X.prog X.w) X.A (eval e X.env) (λw nV=>wpAny (ay X.prog X.w) X.A (F3 op u w) (λr J_=>wpAny (ay X.prog X.w) X.A (FZ X.env x r) (λ_=>SP X pins D .next) X.xe J_) X.xe nV) X.xe s:=by
  refine fg (he pins s σ H _ I h) λw s1⟨y,H1,I1,r1,q1⟩=>?_
  refine fg (ho pins s1 σ H1 v y u w _ I1 r r1 q1) λz s2⟨zv,H2,I2,r2,q2⟩=>?_
  exact uE I2 hN hi hx r2 (λs3 I3=>⟨_,H2,I3,q2⟩) hf
 rcases l with⟨hk,hm⟩|⟨hk,c,hc,N1⟩
 ·exact QB I.ok.kind hk hn hm go
 ·rcases hk with hk|hk
  ·exact QC I.ok.kind hk hc N1 go
  ·rcases hx with k|k
   ·have:X.env.scope.names.lookup x=some .free:=hk
    rw[k]at this;cases this
   ·have:X.env.scope.names.lookup x=some .free:=hk
    rw[k]at this;cases this
def ipI(f:Int->Int->Int):TIp:=λx y H Q=>∃i j,x=.int i/\y=.int j/\Q (.int (f i j)) H
theorem QQ:PIp X .Add (ipI λi j=>i+j):=by
 intro pins s σ H x y v u Q I r1 r2 h
 obtain⟨i,j,e1,e2,q⟩:=h
 subst e1;subst e2
 obtain⟨t,rfl⟩:=r1
 obtain⟨t',rfl⟩:=r2
 exact iadd_int ⟨.int _,H,I.tok _,⟨_,rfl⟩,q⟩
theorem QR:PIp X .Sub (ipI λi j=>i-j):=by
 intro pins s σ H x y v u Q I r1 r2 h
 obtain⟨i,j,e1,e2,q⟩:=h
 subst e1;subst e2
 obtain⟨t,rfl⟩:=r1
 obtain⟨t',rfl⟩:=r2
 exact isub_int ⟨.int _,H,I.tok _,⟨_,rfl⟩,q⟩
def aaX(c:TT)(tb:TS):TS:=λD σ H=>∃W:Nat->St->Hp->Prop,(∃m,W m σ H)/\∀m σ H,W m σ H->c σ H λb H1=>if b=true then∃N:St->Hp->Prop,(∀gT H',N gT H'->∃m',m'<m/\W m' gT H')/\tb {D with nx:=N,ct:=N,bk:=D.nx} σ H1 else D.nx σ H1
theorem F5{tc:TT}{tb:TS}(hp:PassesOwn (ay X.prog X.w) X.A X.env X.xe)(hc:PT X c tc)(hb:FG X body tb):PS X (.While c body [] pos) (aaX tc tb):=by
 intro pins s σ H D I h
 obtain⟨W,⟨m0,w0⟩,turn⟩:=h
 refine wpAny_While (codeAny_whileLoop (λn s'=>∃gT H',Inv X pins gT H' s'/\W n gT H') ?_ m0 ⟨σ,H,I,w0⟩)
 rintro n s1 ⟨σ1,H1,I1,w1⟩
 refine oh hp (fg (hc pins s1 σ1 H1 _ I1 (turn n σ1 H1 w1)) λb s2⟨H2,I2,q2⟩=>?_)
 cases b with
 |true=>
  obtain⟨N,hN,q2⟩:=q2
  rw[ax rfl]
  refine oh hp (fg (hb pins s2 σ1 H2 _ I2 q2) λf s3 q3=>?_)
  cases f with
  |next=>
   obtain⟨WC,H3,I3,n3⟩:=q3
   obtain⟨m',hm,w3⟩:=hN WC H3 n3
   exact⟨m',hm,WC,H3,I3,w3⟩
  |cont=>
   obtain⟨WC,H3,I3,n3⟩:=q3
   obtain⟨m',hm,w3⟩:=hN WC H3 n3
   exact⟨m',hm,WC,H3,I3,w3⟩
  |brk=>exact q3
  |ret v=>exact q3
 |false=>
  rw[aq dv]
  exact uH ⟨σ1,H2,I2,q2⟩
structure It where
 go:Nat->Hp->Prop
 yP:Nat->Hp->V->Hp->Prop
 stop:Nat->Hp->Prop
def tU(X:Cx)(pins:List (aa×aG))(H:Hp)(b:aa):Prop:=
 H b=none/\b≠X.env.locals/\b∉X.fs/\(b∈X.ex\/X.s_0.heap.objs.size<=b)/\(∀x c,X.env.cells.lookup x=some c->c≠b)/\∀p∈X.pn++pins,p.1≠b
theorem Inv.Kt(I:Inv X pins σ H s)(hb:s.heap.objs.size<=b)(hn:H' b=none):tU X pins H' b:=by
 refine⟨hn,iW (dS I.lt hb),I.ahP hb,.inr (bV I.sz hb),λx c e z=>?_,λp hp z=>?_⟩
 ·obtain⟨v,q⟩:=I.cell x c e
  exact absurd (dS q.lt (by rw[z];exact hb)) (iT _)
 ·exact absurd (dS (ba (I.pin p hp).1) (by rw[z];exact hb)) (iT _)
structure Turn (P:cQ) (w:bC) (K:aL) (tg:aQ) (J:It) (fp:List aa) (it:aa) (tn:Nat->aH->Prop):Prop where
 mem:it∈fp
 obj:∀i h,tn i h->∀b∈fp,∃o,h.get? b=some o/\∀v,o.data≠.cell v
 keep:∀i h h',tn i h->(∀b∈fp,∀o,h.get? b=some o->h'.get? b=some o)->tn i h'
 item:∀(X:Cx),X.prog=P->X.w=w->X.K=K->X.calm=true->∀(i:Nat)(pins:List (aa×aG))(s:aj)(σ:St)(H:Hp)(E:af->aj->Prop),Inv X pins σ H s->(∀b∈fp,tU X pins H b)->tn i s.heap->J.go i H->wpAny (ay P w) X.A (oi (.ref it)) (λr s1=>∃u,r=some u/\wpAny (ay P w) X.A (zJ tg (.ref it) u) (λ_ s2=>∃x H',Inv X pins σ H' s2/\RelV x u/\J.yP i H x H'/\tn (i+1) s2.heap/\∀b∈fp,H' b=none) E s1) E s
 done:∀(X:Cx),X.prog=P->X.w=w->X.K=K->X.calm=true->∀(i:Nat)(pins:List (aa×aG))(s:aj)(σ:St)(H:Hp)(E:af->aj->Prop),Inv X pins σ H s->(∀b∈fp,tU X pins H b)->tn i s.heap->J.stop i H->wpAny (ay P w) X.A (oi (.ref it)) (λr s1=>r=none/\Inv X pins σ H s1) E s
 self:∀(A:dr)(i:Nat)(s:aj)(Q:af->aj->Prop)(E:af->aj->Prop),tn i s.heap->Q (.ref it) s->wpAny (ay P w) A (qz (.ref it)) Q E s
abbrev TI:=St->Hp->(It->Hp->Prop)->Prop
def PIE(X:Cx)(pins:List (aa×aG))(σ:St)(tg:aQ)(R:It->Hp->Prop)(itv:af)(s2:aj):Prop:=
 ∃(it:aa)(fp:List aa)(tn:Nat->aH->Prop)(J:It)(H':Hp),itv=.ref it/\Inv X pins σ H' s2/\Turn X.prog X.w X.K tg J fp it tn/\tn 0 s2.heap/\(∀b∈fp,tU X pins H' b)/\R J H'
def PI(X:Cx)(tg iter:aQ)(wi:TI):Prop:=
 ∀(pins:List (aa×aG))(s:aj)(σ:St)(H:Hp)(R:It->Hp->Prop),Inv X pins σ H s->wi σ H R->wpAny (ay X.prog X.w) X.A (eval iter X.env) (λv s1=>wpAny (ay X.prog X.w) X.A (qz v) (PIE X pins σ tg R) X.xe s1) X.xe s
theorem QS{it:aa}{o:aG}{n:String}{vs:Array af}{Q:Unit->aj->Prop}(ho:s.heap.get? it=some o)(hc:o.cls=.type n)(hd:o.data=.fields vs)(hn:["enumerate","zip","dict_itemiterator","dict_reverseitemiterator","odict_iterator","itertools.zip_longest","itertools.pairwise"].contains n=false)(hQ:Q () s):wpAny M A (zJ tg (.ref it) u) Q E s:=by
 unfold zJ
 cases tg<;>first
  |exact aC hQ
  |(cases u<;>first
    |exact aC hQ
    |(refine au (wpAny_load ho ?_)
      rw[hc,hd]
      show wpAny M A (if(["enumerate","zip","dict_itemiterator","dict_reverseitemiterator","odict_iterator","itertools.zip_longest","itertools.pairwise"].contains n&&vs[0]?==some (oj _))=true then _ else _) Q E s
      rw[aq (by intro h;rw[hn,jD]at h;cases h)]
      exact aC hQ))
def Itl(K:aL)(a:aa):It:=
 ⟨λi H=>∃xs x,a_ K H a xs/\xs[i]?=some x,λi H x H'=>H'=H/\∀xs,a_ K H a xs->xs[i]?=some x,λi H=>∃xs,a_ K H a xs/\xs.length<=i⟩
def Itr(lo:Int)(n:Nat):It:=⟨λi _=>i<n,λi H x H'=>H'=H/\x=.int (lo+i),λi _=>n<=i⟩
theorem Ob(a it:aa):Turn P w K tg (Itl K a) [it] it (λi h=>h.IsListIter it a i)where
 mem:=by simp
 obj:=λi h st b hb=>by
  have e:b=it:=by simpa using hb
  subst e
  obtain⟨o,e,c,d⟩:=st
  exact⟨o,e,λv z=>by rw[d]at z;cases z⟩
 keep:=λi h h' st k=>st.at λo e=>k it (by simp) o e
 item:=by
  intro X hP hw hK hc i pins s σ H E I hf st hg
  subst hP hw hK
  obtain⟨xs,x,hq,hx⟩:=hg
  obtain⟨its,rv,p,hz⟩:=I.list hq
  obtain⟨u,hu,ru⟩:=rv.get hx
  obtain⟨f0,f1,f2,f3,f4,f5⟩:=hf it (by simp)
  refine QT st p.isList (x:=u) (by simpa using hu) λh' tD sb=>?_
  have I1:Inv X pins σ H {s with heap:=h'}:=I.turned (t':=s.toks) (λb o hb e=>(sb.2 b hb).trans e) f0 f1 f3 f4 f5
  obtain⟨o,e,c,d⟩:=id tD
  exact⟨u,rfl,QS (s:={s with heap:=h'}) e c d dd ⟨x,H,I1,ru,⟨rfl,λys hy=>by rw[I.qx hy hq];exact hx⟩,tD,λb hb=>(hf b hb).1⟩⟩
 done:=by
  intro X hP hw hK hc i pins s σ H E I hf st hg
  subst hP hw hK
  obtain⟨xs,hq,hx⟩:=hg
  obtain⟨its,rv,p,hz⟩:=I.list hq
  obtain⟨f0,f1,f2,f3,f4,f5⟩:=hf it (by simp)
  have hl:=rv.length
  exact QU (I.ok.hd hc) st p.isList (by simp;omega) λh' eb=>⟨rfl,I.turned (t':=s.toks) (λb o hb e=>eb b o hb e) f0 f1 f3 f4 f5⟩
 self:=λ_ _ _ _ _ st h=>wpAny_pyIter_listiter st h
theorem Ku(it:aa)(lo:Int)(n:Nat):Turn P w K tg (Itr lo n) [it] it (λi h=>IsRangeIter h it (lo+(i:Nat)*1) ((n:Int)-(i:Nat)) 1)where
 mem:=by simp
 obj:=λi h st b hb=>by
  have e:b=it:=by simpa using hb
  subst e
  exact⟨_,st,λv z=>by
   have z':Data.fields _=Data.cell v:=z
   cases z'⟩
 keep:=λi h h' st k=>k it (by simp) _ st
 item:=by
  intro X hP hw hK hc i pins s σ H E I hf st hg
  subst hP hw hK
  obtain⟨f0,f1,f2,f3,f4,f5⟩:=hf it (by simp)
  have W:=Walks.range (prog:=X.prog) (w:=X.w) (I.ok.hd hc) it lo 1 n
  refine W.item i s _ _ hg st λv h' tk hv tD kk=>?_
  obtain⟨t,rfl⟩:=hv
  have I1:Inv X pins σ H {s with heap:=h',toks:=tk}:=I.turned (λb o hb e=>kk b o (by simpa using hb) e) f0 f1 f3 f4 f5
  refine⟨_,rfl,QS (s:={s with heap:=h',toks:=tk}) (n:="range_iterator") tD rfl rfl dd ⟨.int (lo+i),H,I1,⟨t,?_⟩,⟨rfl,rfl⟩,tD,λb hb=>(hf b hb).1⟩⟩
  rw[Int.mul_one]
 done:=by
  intro X hP hw hK hc i pins s σ H E I hf st hg
  subst hP hw hK
  obtain⟨f0,f1,f2,f3,f4,f5⟩:=hf it (by simp)
  exact wpAny_pyNext_range_end (I.ok.hd hc) st (by have:n<=i:=hg;omega) λh' eb=>⟨rfl,I.turned (t':=s.toks) (λb o hb e=>eb b o hb e) f0 f1 f3 f4 f5⟩
 self:=λ_ _ _ _ _ st h=>wpAny_pyIter_rangeiter st h
def ZX(K:aL)(tl:TE):TI:=λσ H R=>tl σ H λx H1=>∃a,x=.ref a/\(∃xs,a_ K H1 a xs)/\R (Itl K a) H1
theorem cB{l:aQ}{tl:TE}(hl:PE X l tl):PI X tg l (ZX X.K tl):=by
 intro pins s σ H R I h
 refine fg (hl pins s σ H _ I h) λv s1⟨x,H1,I1,r1,q1⟩=>?_
 obtain⟨a,e,⟨xs,hq⟩,q⟩:=q1
 subst e
 cases r1
 obtain⟨its,rv,p,hz⟩:=I1.list hq
 refine zK p.isList ?_
 refine⟨s1.heap.objs.size,[s1.heap.objs.size],_,_,H1,rfl,I1.kept (t':=s1.toks) λb o e=>bQ _ e,Ob a _,⟨_,cU _ rfl,rfl,rfl⟩,λb hb=>?_,q⟩
 have e:b=s1.heap.objs.size:=by simpa using hb
 subst e
 exact I1.Kt (aV _) (I1.hok.fresh (aV _))
theorem QV{R:It->Hp->Prop}{lo hi:Int}{t u v:dR}{tk:Nat}(I:Inv X pins σ H s)(h1:-(2^62)<=lo)(h2:lo<2^62)(h3:-(2^62)<=hi)(h4:hi<2^62)(q:R (Itr lo (hi-lo).toNat) H):wpAny (ay X.prog X.w) X.A (qz (.ref s.heap.objs.size)) (PIE X pins σ tg R) E {s with heap:=s.heap.push {cls:=.type "range",data:=.fields #[.int lo t,.int hi u,.int 1 v]},toks:=tk}:=by
 refine wpAny_pyIter_range (IsRange.new ..) (small_one h1 h2 h3 h4) ?_
 have I1:Inv X pins σ H {s with heap:=s.heap.push {cls:=.type "range",data:=.fields #[.int lo t,.int hi u,.int 1 v]},toks:=tk}:=I.kept λb o e=>bQ _ e
 refine⟨(s.heap.push {cls:=.type "range",data:=.fields #[.int lo t,.int hi u,.int 1 v]}).objs.size,[(s.heap.push {cls:=.type "range",data:=.fields #[.int lo t,.int hi u,.int 1 v]}).objs.size],_,_,H,rfl,I1.kept (t':=tk) λb o e=>bQ _ e,Ku _ lo (hi-lo).toNat,?_,λb hb=>?_,q⟩
 ·have e1:lo+((0:Nat):Int)*1=lo:=by simp
  have e2:(((hi-lo).toNat:Nat):Int)-((0:Nat):Int)=QW lo hi 1:=by rw[rangeSize_one];split<;>omega
  show IsRangeIter _ _ (lo+((0:Nat):Int)*1) ((((hi-lo).toNat:Nat):Int)-((0:Nat):Int)) 1
  rw[e1,e2]
  exact cU _ rfl
 ·have e:b=(s.heap.push {cls:=.type "range",data:=.fields #[.int lo t,.int hi u,.int 1 v]}).objs.size:=by simpa using hb
  subst e
  exact I1.Kt (aV _) (I1.hok.fresh (aV _))
def ad9(ta:TA):TI:=λσ H R=>ta σ H λvs H1=>∃j:Int,vs=[.int j]/\-(2^62)<=j/\j<2^62/\R (Itr 0 j.toNat) H1
theorem om{a:aQ}{ta:TA}(hg:Gl X "range")(hm:X.mg "range"=none)(ha:PA X [a] ta)(hs:aU [a] X.env=[(false,eval a X.env)]:=by rfl):PI X tg (.Call (.Name "range" p) [a] [] pos) (ad9 ta):=by
 intro pins s σ H R I h
 refine Call_ (kj I hg hm boot_range (nc (fg (ha pos pins s σ H _ I h) λus s1⟨vs,H1,I1,r1,q1⟩=>?_) hs rfl))
 obtain⟨j,e,q1,q2,q⟩:=q1
 subst e
 cases r1 with
 |cons r rr=>
  cases rr
  obtain⟨t,rfl⟩:=r
  exact call_range_1 (QV I1 oo oo q1 q2 (by simpa using q))
def ahY(wi:TI)(g:TG)(tb:TS):TS:=λD σ H=>wi σ H λJ H1=>∃W:Nat->Nat->St->Hp->Prop,(∃m,W 0 m σ H1)/\∀i m σ H,W i m σ H->(J.stop i H/\D.nx σ H)\/(J.go i H/\∃N:St->Hp->Prop,(∀gT H',N gT H'->∃m',m'<m/\W (i+1) m' gT H')/\∀x H',J.yP i H x H'->g x σ H' λkH H2=>tb {D with nx:=N,ct:=N,bk:=D.nx} kH H2)
def xf(fp:List aa)(h:aH):List (aa×aG):=fp.filterMap λb=>(h.get? b).map λo=>(b,o)
theorem pz{o:aG}(hb:b∈fp)(e:h.get? b=some o):(b,o)∈xf fp h:=uK.mpr ⟨b,hb,by rw[e];rfl⟩
theorem Oc{p:aa×aG}(hp:p∈xf fp h):p.1∈fp/\h.get? p.1=some p.2:=by
 obtain⟨b,hb,e⟩:=uK.mp hp
 cases q:h.get? b with
 |none=>rw[q]at e;cases e
 |some o=>
  rw[q]at e
  have e':(b,o)=p:=bO e
  subst e'
  exact⟨hb,q⟩
theorem Inv.pinned(I:Inv X pins σ H s)(hf:∀b∈fp,tU X pins H b)(ho:∀b∈fp,∃o,s.heap.get? b=some o/\∀v,o.data≠.cell v):Inv X (pins++xf fp s.heap) σ H s:=
 I.MA λp hp=>(d7.mp hp).elim (λz=>I.pin p (iG _ z)) λz=>by
  obtain⟨hb,e⟩:=Oc z
  obtain⟨f0,f1,f2,_⟩:=hf p.1 hb
  obtain⟨o,e',d⟩:=ho p.1 hb
  rw[e]at e';cases e'
  exact⟨e,f0,f1,f2,d⟩
theorem Inv.qA{pl:List (aa×aG)}(I:Inv X (pins++pl) σ H s):Inv X pins σ H s:=I.MA λp hp=>I.pin p (iG _ (jB _ hp))
variable{wi:TI}
theorem fW{tb:TS}(hp:PassesOwn (ay X.prog X.w) X.A X.env X.xe)(hc:X.calm=true)(hi:PI X tg iter wi)(hg:PG X tg g)(hb:FG X body tb)(hs:∀x,qB iter X.env x=pure x:=by intro _;rfl):PS X (.For tg iter body [] pos) (ahY wi g tb):=by
 intro pins s σ H D I h
 refine wpAny_For (fg (hi pins s σ H _ I h) λv s1 h1=>fg h1 λitv s2 h2=>?_) hs
 obtain⟨it,fp,tn,J,H2,e,I2,T,lR,f2,W,⟨m0,w0⟩,turn⟩:=h2
 subst e
 have Cv:∀{H':Hp},(∀b∈fp,H' b=none)->∀b∈fp,tU X pins H' b:=λhn b hb=>⟨hn b hb,(f2 b hb).2⟩
 refine codeAny_forLoop_any (λn s'=>∃i gT H',Inv X pins gT H' s'/\tn i s'.heap/\(∀b∈fp,H' b=none)/\W i n gT H') ?_ m0 ⟨0,σ,H2,I2,lR,λb hb=>(f2 b hb).1,w0⟩
 rintro n s3 ⟨i,WC,H3,I3,st3,fr3,w3⟩
 rcases turn i n WC H3 w3 with⟨stop,qn⟩|⟨go,N,hN,step⟩
 ·refine oh hp (fg (T.done X rfl rfl rfl hc i pins s3 WC H3 X.xe I3 (Cv fr3) st3 stop) λr s4⟨hr,I4⟩=>?_)
  subst hr
  exact uH ⟨WC,H3,I4,qn⟩
 ·refine oh hp (fg (T.item X rfl rfl rfl hc i pins s3 WC H3 X.xe I3 (Cv fr3) st3 go) λr s4⟨u,hr,h4⟩=>?_)
  subst hr
  refine oh hp (fg h4 λ_ s5⟨x,H5,I5,r5,y5,Zz,fr5⟩=>?_)
  have I5':=I5.pinned (Cv fr5) (T.obj _ _ Zz)
  refine oh hp (fg (hg _ s5 WC H5 x u _ I5' r5 (step x H5 y5)) λ_ s6⟨σ6,H6,I6,q6⟩=>?_)
  refine oh hp (fg (hb _ s6 σ6 H6 _ I6 q6) λf s7 q7=>?_)
  have again:∀{σ7:St}{H7:Hp},Inv X (pins++xf fp s5.heap) σ7 H7 s7->N σ7 H7->∃m,m<n/\∃i gT H',Inv X pins gT H' s7/\tn i s7.heap/\(∀b∈fp,H' b=none)/\W i m gT H':=λ{σ7 H7}I7 n7=>by
   obtain⟨m',hm,w7⟩:=hN σ7 H7 n7
   refine⟨m',hm,i+1,σ7,H7,I7.qA,T.keep _ _ _ Zz λb hb o e=>(I7.pin (b,o) (iG _ (iG _ (pz hb e)))).1,λb hb=>?_,w7⟩
   obtain⟨o,e,d⟩:=T.obj _ _ Zz b hb
   exact(I7.pin (b,o) (iG _ (iG _ (pz hb e)))).2.1
  cases f with
  |next=>obtain⟨σ7,H7,I7,n7⟩:=q7;exact again I7 n7
  |cont=>obtain⟨σ7,H7,I7,n7⟩:=q7;exact again I7 n7
  |brk=>obtain⟨σ7,H7,I7,q7⟩:=q7;exact⟨σ7,H7,I7.qA,q7⟩
  |ret v=>obtain⟨x7,σ7,H7,I7,r7,q7⟩:=q7;exact⟨x7,σ7,H7,I7.qA,r7,q7⟩
abbrev R2:=V->V->Hp->VK->Prop
def yx(X:Cx)(f:af->af->aJ af)(r:R2):Prop:=
 ∀(pins:List (aa×aG))(s:aj)(σ:St)(H:Hp)(x y:V)(v u:af)(Q:VK),Inv X pins σ H s->RelV x v->RelV y u->r x y H Q->wpAny (ay X.prog X.w) X.A (f v u) (EP X pins σ Q) X.xe s
def UnR(X:Cx)(f:af->aJ af)(r:V->Hp->VK->Prop):Prop:=
 ∀(pins:List (aa×aG))(s:aj)(σ:St)(H:Hp)(x:V)(v:af)(Q:VK),Inv X pins σ H s->RelV x v->r x H Q->wpAny (ay X.prog X.w) X.A (f v) (EP X pins σ Q) X.xe s
def uL(X:Cx)(f:af)(r:List V->Hp->VK->Prop):Prop:=
 ∀(pins:List (aa×aG))(s:aj)(σ:St)(H:Hp)(xs:List V)(us:List af)(Q:VK),Inv X pins σ H s->Vals xs us->r xs H Q->wpAny (ay X.prog X.w) X.A (call f us) (EP X pins σ Q) X.xe s
def qk(r:R2)(ta tb:TE):TE:=λσ H Q=>ta σ H λx H1=>tb σ H1 λy H2=>r x y H2 Q
def tUn(r:V->Hp->VK->Prop)(ta:TE):TE:=λσ H Q=>ta σ H λx H1=>r x H1 Q
def rI(C:Int->Int->Prop)(g:Int->Int->V):R2:=λx y H Q=>∃i j,x=.int i/\y=.int j/\C i j/\Q (g i j) H
def Ef(g:Int->Int->V):R2:=λx y H Q=>∃i j,x=.int i/\y=.int j/\Q (g i j) H
def rU(g:Int->V):V->Hp->VK->Prop:=λx H Q=>∃i,x=.int i/\Q (g i) H
section
variable{a b:aQ}{tc:TE}
theorem aaZ(ha:PE X a ta)(hb:PE X b tb){R:V->V->Hp->Prop}(I:Inv X pins σ H s)(h:ta σ H λx H1=>tb σ H1 λy H2=>R x y H2){f:af->af->aJ af}(hf:∀v u s2 x y H2,Inv X pins σ H2 s2->RelV x v->RelV y u->R x y H2->wpAny (ay X.prog X.w) X.A (f v u) Q X.xe s2):
  wpAny (ay X.prog X.w) X.A (eval a X.env) (λv s₁=>wpAny (ay X.prog X.w) X.A (eval b X.env) (λu nV=>wpAny (ay X.prog X.w) X.A (f v u) Q X.xe nV) X.xe s₁) X.xe s:=by
 refine fg (ha pins s σ H _ I h) λv s1⟨x,H1,I1,r1,q1⟩=>?_
 refine fg (hb pins s1 σ H1 _ I1 q1) λu s2⟨y,H2,I2,r2,q2⟩=>?_
 exact hf v u s2 x y H2 I2 r1 r2 q2
theorem b7{op:uJ}{r:R2}(ho:yx X (jE op) r)(ha:PE X a ta)(hb:PE X b tb):PE X (.BinOp a op b pos) (qk r ta tb):=by
 intro pins s σ H Q I h
 exact wpAny_BinOp (aaZ ha hb I h λv u s2 x y H2 I2 rx ry q=>ho pins s2 σ H2 x y v u Q I2 rx ry q)
theorem ad'{op:UnaryOp}{r:V->Hp->VK->Prop}(ho:UnR X (unaryOp op) r)(ha:PE X a ta):PE X (.UnaryOp op a pos) (tUn r ta):=by
 intro pins s σ H Q I h
 exact UnaryOp_ (fg (ha pins s σ H _ I h) λv s1⟨x,H1,I1,r1,q1⟩=>ho pins s1 σ H1 x v Q I1 r1 q1)
theorem opI{f:af->af->aJ af}{C:Int->Int->Prop}{g:Int->Int->Int}(rule:∀(i j:Int)(t u:dR)(s:aj)(Q:af->aj->Prop)(E:af->aj->Prop),C i j->Q (.int (g i j) s.toks) {s with toks:=s.toks+1}->wpAny (ay X.prog X.w) X.A (f (.int i t) (.int j u)) Q E s):
  yx X f (rI C λi j=>.int (g i j)):=by
 intro pins s σ H x y v u Q I rx ry h
 obtain⟨i,j,rfl,rfl,hc,q⟩:=h
 obtain⟨t,rfl⟩:=rx
 obtain⟨t',rfl⟩:=ry
 exact rule i j t t' s _ _ hc ⟨.int (g i j),H,I.tok _,⟨_,rfl⟩,q⟩
theorem Xt{f:af->af->aJ af}{g:Int->Int->Int}(rule:∀(i j:Int)(t u:dR)(s:aj)(Q:af->aj->Prop)(E:af->aj->Prop),Q (.int (g i j) s.toks) {s with toks:=s.toks+1}->wpAny (ay X.prog X.w) X.A (f (.int i t) (.int j u)) Q E s):
  yx X f (Ef λi j=>.int (g i j)):=by
 intro pins s σ H x y v u Q I rx ry h
 obtain⟨i,j,rfl,rfl,q⟩:=h
 obtain⟨t,rfl⟩:=rx
 obtain⟨t',rfl⟩:=ry
 exact rule i j t t' s _ _ ⟨.int (g i j),H,I.tok _,⟨_,rfl⟩,q⟩
theorem Xu{f:af->af->aJ af}{g:Int->Int->Bool}(rule:∀(i j:Int)(t u:dR)(s:aj)(Q:af->aj->Prop)(E:af->aj->Prop),Q (.bool (g i j)) s->wpAny (ay X.prog X.w) X.A (f (.int i t) (.int j u)) Q E s):
  yx X f (Ef λi j=>.bl (g i j)):=by
 intro pins s σ H x y v u Q I rx ry h
 obtain⟨i,j,rfl,rfl,q⟩:=h
 obtain⟨t,rfl⟩:=rx
 obtain⟨t',rfl⟩:=ry
 exact rule i j t t' s _ _ ⟨.bl (g i j),H,I,rfl,q⟩
def ah1(i j:Int):Prop:=0<j/\j<1073741824
def Xv(i j:Int):Prop:=(-(2^64)<i/\i<2^64)\/(-(2^64)<j/\j<2^64)
theorem Xv.ok{i j:Int}(h:Xv i j):IntMulOk i j:=by
 rcases h with⟨h1,h2⟩|⟨h1,h2⟩
 ·exact .of_left (intBits_le_64 h1 h2)
 ·exact .of_right (intBits_le_64 h1 h2)
theorem jF:yx X (jE .Add) (Ef λi j=>.int (i+j)):=Xt λ_ _ _ _ _ _ _ q=>add_int q
theorem jG:yx X (jE .Sub) (Ef λi j=>.int (i-j)):=Xt λ_ _ _ _ _ _ _ q=>sub_int q
theorem lV:yx X (jE .Mult) (rI Xv λi j=>.int (i*j)):=opI λ_ _ _ _ _ _ _ hc q=>mul_int q hc.ok
theorem Xw:yx X (jE .FloorDiv) (rI ah1 λi j=>.int (i/j)):=opI λi j _ _ _ _ _ hc q=>by
 have h1:(0:Int)<j:=hc.1
 have h2:j<1073741824:=hc.2
 exact floordiv_int oo (by rw[Int.fdiv_eq_ediv_of_nonneg i oo];exact q) (.inl (PyProof.noPylong_small oo))
theorem QX:yx X (jE .Mod) (rI (λ_ j=>0<j) λi j=>.int (i %j)):=opI λi j _ _ _ _ _ hc q=>by
 have h1:(0:Int)<j:=hc
 exact mod_int' oo (by rw[Int.fmod_eq_emod_of_nonneg i oo];exact q)
theorem zL:yx X (jE .BitAnd) (Ef λi j=>.int (jH i j)):=Xt λ_ _ _ _ _ _ _ q=>and_int q
theorem QY:yx X (jE .BitOr) (Ef λi j=>.int (qC i j)):=Xt λ_ _ _ _ _ _ _ q=>or_int q
theorem unI{f:af->aJ af}{g:Int->Int}(rule:∀(i:Int)(t:dR)(s:aj)(Q:af->aj->Prop)(E:af->aj->Prop),Q (.int (g i) s.toks) {s with toks:=s.toks+1}->wpAny (ay X.prog X.w) X.A (f (.int i t)) Q E s):
  UnR X f (rU λi=>.int (g i)):=by
 intro pins s σ H x v Q I rx h
 obtain⟨i,rfl,q⟩:=h
 obtain⟨t,rfl⟩:=rx
 exact rule i t s _ _ ⟨.int (g i),H,I.tok _,⟨_,rfl⟩,q⟩
theorem aa0:UnR X (unaryOp .USub) (rU λi=>.int (-i)):=unI λ_ _ _ _ _ q=>neg_int q
end
def ad_:V->V->Bool
 | .non,.non=>true| .non,.int _=>true| .int _,.non=>true| .non,.bl _=>true| .bl _,.non=>true| .non,.str _=>true| .str _,.non=>true
 | .int _,.int _=>true| .bl _,.bl _=>true| .str _,.str _=>true| .Kh _,.Kh _=>true
 | .int _,.str _=>true| .str _,.int _=>true| .bl _,.str _=>true| .str _,.bl _=>true
 |_,_=>false
def rEq:R2:=λx y H Q=>ad_ x y=true/\Q (.bl (decide (x=y))) H
def rNe:R2:=λx y H Q=>ad_ x y=true/\Q (.bl (!decide (x=y))) H
theorem MB{i j:Int}:decide (V.int i=V.int j)=(i==j):=by
 rw[cV]
 simp
theorem QZ{i j:Bool}:decide (V.bl i=V.bl j)=(i==j):=by
 rw[cV]
 simp
theorem MC{i j:ag}:decide (V.str i=V.str j)=(i==j):=by
 rw[cV]
 simp
theorem MD{i j:Array UInt8}:decide (V.Kh i=V.Kh j)=(i.toList==j.toList):=by
 rw[cV]
 cases i
 cases j
 simp
section
variable{a b:aQ}{tc:TE}
theorem dH{Q:VK}{k k':Bool}(I:Inv X pins σ H s)(q:Q (.bl k) H)(e:k=k'):EP X pins σ Q (.bool k') s:=by
 subst e
 exact⟨.bl k,H,I,rfl,q⟩
theorem ic:yx X (fh .Eq) rEq:=by
 intro pins s σ H x y v u Q I rx ry h
 obtain⟨hs,q⟩:=h
 cases x with
 |non=>
  cases rx
  cases y with
  |non=>cases ry;exact PySem.EqNone.eq_none_none (dH I q (by simp))
  |bl j=>cases ry;exact PySem.EqNone.eq_none_bool (dH I q (by simp))
  |int j=>obtain⟨t',rfl⟩:=ry;exact PySem.EqNone.eq_none_int (dH I q (by simp))
  |str j=>obtain⟨t',rfl⟩:=ry;exact PySem.EqNone.eq_none_str (dH I q (by simp))
  |_=>exact absurd (show false=true from hs) dv
 |bl i=>
  cases rx
  cases y with
  |non=>cases ry;exact PySem.EqNone.eq_bool_none (dH I q (by simp))
  |bl j=>cases ry;exact eq_bool (dH I q QZ)
  |str j=>obtain⟨t',rfl⟩:=ry;exact PySem.EqMixed.eq_bool_str (dH I q (by simp))
  |_=>exact absurd (show false=true from hs) dv
 |int i=>
  obtain⟨t,rfl⟩:=rx
  cases y with
  |non=>cases ry;exact PySem.EqNone.eq_int_none (dH I q (by simp))
  |int j=>obtain⟨t',rfl⟩:=ry;exact eq_int (dH I q MB)
  |str j=>obtain⟨t',rfl⟩:=ry;exact PySem.EqMixed.eq_int_str (dH I q (by simp))
  |_=>exact absurd (show false=true from hs) dv
 |str i=>
  obtain⟨t,rfl⟩:=rx
  cases y with
  |non=>cases ry;exact PySem.EqNone.eq_str_none (dH I q (by simp))
  |bl j=>cases ry;exact PySem.EqMixed.eq_str_bool (dH I q (by simp))
  |int j=>obtain⟨t',rfl⟩:=ry;exact PySem.EqMixed.eq_str_int (dH I q (by simp))
  |str j=>obtain⟨t',rfl⟩:=ry;exact eq_str (dH I q MC)
  |_=>exact absurd (show false=true from hs) dv
 |Kh i=>
  obtain⟨t,rfl⟩:=rx
  cases y with
  |Kh j=>obtain⟨t',rfl⟩:=ry;exact PySem.W.eq_bytes (dH I q MD)
  |_=>exact absurd (show false=true from hs) dv
 |_=>cases y<;>exact absurd (show false=true from hs) dv
theorem zM:yx X (fh .NotEq) rNe:=by
 intro pins s σ H x y v u Q I rx ry h
 obtain⟨hs,q⟩:=h
 cases x with
 |non=>
  cases rx
  cases y with
  |non=>cases ry;exact PySem.EqNone.ne_none_none (dH I q (by simp))
  |bl j=>cases ry;exact PySem.EqNone.ne_none_bool (dH I q (by simp))
  |int j=>obtain⟨t',rfl⟩:=ry;exact PySem.EqNone.ne_none_int (dH I q (by simp))
  |str j=>obtain⟨t',rfl⟩:=ry;exact PySem.EqNone.ne_none_str (dH I q (by simp))
  |_=>exact absurd (show false=true from hs) dv
 |bl i=>
  cases rx
  cases y with
  |non=>cases ry;exact PySem.EqNone.ne_bool_none (dH I q (by simp))
  |bl j=>cases ry;exact ne_bool (dH I q (congrArg not QZ))
  |str j=>obtain⟨t',rfl⟩:=ry;exact PySem.EqMixed.ne_bool_str (dH I q (by simp))
  |_=>exact absurd (show false=true from hs) dv
 |int i=>
  obtain⟨t,rfl⟩:=rx
  cases y with
  |non=>cases ry;exact PySem.EqNone.ne_int_none (dH I q (by simp))
  |int j=>obtain⟨t',rfl⟩:=ry;exact ne_int (dH I q (congrArg not MB))
  |str j=>obtain⟨t',rfl⟩:=ry;exact PySem.EqMixed.ne_int_str (dH I q (by simp))
  |_=>exact absurd (show false=true from hs) dv
 |str i=>
  obtain⟨t,rfl⟩:=rx
  cases y with
  |non=>cases ry;exact PySem.EqNone.ne_str_none (dH I q (by simp))
  |bl j=>cases ry;exact PySem.EqMixed.ne_str_bool (dH I q (by simp))
  |int j=>obtain⟨t',rfl⟩:=ry;exact PySem.EqMixed.ne_str_int (dH I q (by simp))
  |str j=>obtain⟨t',rfl⟩:=ry;exact ne_str (dH I q (congrArg not MC))
  |_=>exact absurd (show false=true from hs) dv
 |Kh i=>
  obtain⟨t,rfl⟩:=rx
  cases y with
  |Kh j=>obtain⟨t',rfl⟩:=ry;exact PySem.W.ne_bytes (dH I q (congrArg not MD))
  |_=>exact absurd (show false=true from hs) dv
 |_=>cases y<;>exact absurd (show false=true from hs) dv
theorem Q0:yx X (fh .Lt) (Ef λi j=>.bl (decide (i<j))):=Xu λ_ _ _ _ _ _ _ q=>lt_int q
theorem Dc:yx X (fh .LtE) (Ef λi j=>.bl (decide (i<=j))):=Xu λ_ _ _ _ _ _ _ q=>le_int q
theorem x5:yx X (fh .Gt) (Ef λi j=>.bl (decide (j<i))):=Xu λ_ _ _ _ _ _ _ q=>gt_int q
theorem ZY:yx X (fh .GtE) (Ef λi j=>.bl (decide (j<=i))):=Xu λ_ _ _ _ _ _ _ q=>ge_int q
theorem aa2:yx X (fh .Is) (λx y H Q=>y=.non/\Q (.bl (decide (x=.non))) H):=by
 intro pins s σ H x y v u Q I rx ry h
 obtain⟨rfl,q⟩:=h
 cases ry
 refine is_none_gen (dH I q ?_)
 cases x<;>first
  |(cases rx;rfl)
  |(obtain⟨t,rfl⟩:=rx;rfl)
theorem bW(b:aQ)(h:op≠.In:=by decide)(h2:op≠.NotIn:=by decide):oa op b=false:=by
 have e1:(op==CmpOp.In)=false:=by cases op<;>first|rfl|exact absurd rfl h
 have e2:(op==QH)=false:=by cases op<;>first|rfl|exact absurd rfl h2
 cases b<;>simp[oa,e1,e2]
theorem gU{r:R2}(ho:yx X (fh op) r)(ha:PE X a ta)(hb:PE X b tb)(hm:oa op b=false):PE X (.Compare a [op] [b] pos) (qk r ta tb):=by
 intro pins s σ H Q I h
 exact wpAny_Compare1 (aaZ ha hb I h λv u s2 x y H2 I2 rx ry q=>ho pins s2 σ H2 x y v u Q I2 rx ry q) hm
def oq(t:TE):TT:=λσ H Q=>t σ H λx H'=>∃k,x=.bl k/\Q k H'
theorem bK{r:R2}(ho:yx X (fh op) r)(ha:PE X a ta)(hb:PE X b tb)(hm:oa op b=false):PT X (.Compare a [op] [b] pos) (oq (qk r ta tb)):=by
 intro pins s σ H Q I h
 refine QJ (fg (ha pins s σ H _ I h) λv s1⟨x,H1,I1,r1,q1⟩=>fg (hb pins s1 σ H1 _ I1 q1) λu s2⟨y,H2,I2,r2,q2⟩=>
  fg (ho pins s2 σ H2 x y v u _ I2 r1 r2 q2) λc s3⟨z,H3,I3,r3,k,e,q3⟩=>?_) hm
 subst e
 cases r3
 exact kJ ⟨H3,I3,q3⟩
theorem Eg:(az:Nat)<2^63:=by rw[dU];decide
theorem vals1{x:V}(r:Vals [x] us):∃u,us=[u]/\RelV x u:=by
 cases r with
 |cons r1 r2=>cases r2;exact⟨_,rfl,r1⟩
theorem vals2{x y:V}(r:Vals [x,y] us):∃u w',us=[u,w']/\RelV x u/\RelV y w':=by
 cases r with
 |cons r1 r2=>
  cases r2 with
  |cons r3 r4=>cases r4;exact⟨_,_,rfl,r1,r3⟩
end
structure Kv (h:aH) (x dx C:aa) (mA:ag->Option af):Prop where
 obj:h.get? x=some (lU C dx)
 ns:h.Ns1 dx mA
 ne:dx≠x
theorem Od(n:h.Ns1 dx mA):∃od,h.get? dx=some od/\∀name,zN name od=some (mA name):=by
 obtain⟨o,es,ep,ho,hd,hk,_,hm⟩:=n
 refine⟨o,ho,λname=>?_⟩
 have e:=hm name
 unfold nsFind findBy at e
 rw[<-Array.find?_toList]at e
 unfold zN
 rw[hd]
 dsimp only
 split
 ·rename_i y q
  rw[q]at e
  exact congrArg some e
 ·rename_i q
  rw[q]at e
  have a:es.toList.any (·.refKey)=false:=by
   rw[List.any_eq_false]
   intro y hy
   obtain⟨z,t,PV⟩:=hk y (uM.mp hy)
   simp[F6.refKey,PV]
  have a':¬es.toList.any (·.refKey)=true:=by rw[a];exact dv
  rw[aq a']
  exact congrArg some e
theorem Kv.look{x:aa}(I:Kv h x dx C mA):∃od,PySem.W.InstAt h x (lU C dx) C (some od)/\∀name,zN name od=some (mA name):=
 let⟨od,ho,hl⟩:=Od I.ns
 ⟨od,⟨I.obj,rfl,rfl,ho⟩,hl⟩
section
variable{x:aa}{name:ag}
theorem get_map{expr:Bool}(X:K.In s.heap)(I:Kv s.heap x dx C mA)(hg:zO K C name=true)(hh:F7 K C=true)(ha:iX K (.ref C) name=some none)(hv:mA name=some v)(tE:Q2 v=true)(h:Q v {s with toks:=s.toks+1}):
  wpAny (ay prog w) A (getAttr (.ref x) name expr) Q E s:=by
 obtain⟨od,J,hl⟩:=I.look
 exact PySem.W.get_value X J (F8 hg).1 (PySem.W.findObj_own hh ha rfl (by rw[hl,hv])) tE h
theorem Q3{pl:aJ Bool}{Q:af×List af->aj->Prop}(X:K.In s.heap)(I:Kv s.heap x dx C mA)(hg:zO K C name=true)(hf:iX K (.ref C) name=some (some (.ref f)))(ht:uN K (.ref f)=true)(hv:mA name=none)(h:Q (.ref f,[.ref x]) s):
  wpAny (ay prog w) A (ot (.ref x) name pl) Q E s:=by
 obtain⟨od,J,hl⟩:=I.look
 exact PySem.W.method_fn X J (F8 hg).1 (F8 hg).2 hf (bX.mp ht) (by show(zN name od).map (·.isSome)=some false;rw[hl,hv];rfl) h
theorem Xx{ns:List ag}{Q:Unit->aj->Prop}(X:K.In s.heap)(I:Kv s.heap x dx C mA)(hs:iX K (.ref C) "__setattr__"=some (some (.builtin "object.__setattr__")))(hp:Q4 K C=true)(ht:F9 K C name=some none)(hh:F7 K C=true)(hw:zE mA ns)(hsz:ns.length<=az)(h:∀h',Kv h' x dx C (λy=>if y=name then some v else mA y)->zG dx s.heap h'->Q () {s with heap:=h',toks:=s.toks+2}):
  wpAny (ay prog w) A (setAttr (.ref x) name v) Q E s:=by
 obtain⟨od,J,hl⟩:=I.look
 refine PySem.W.set_plain X J hs (PySem.W.osa_open (s:={s with toks:=s.toks+1}) (r:=none) X J hp ht λb=>?_)
 obtain⟨cd,hc,lD⟩:=PySem.W.any_some hh
 have hx:s.heap.get? x=some ⟨.ref C,some dx,.plain,#[]⟩:=I.obj
 refine au (aC (au (au (wpAny_loadPart hx (au (PySem.W.Looks.here (s:={s with toks:=s.toks+1}) (PySem.W.looks_clsIn X hc) ?_))))))
 rw[lD]
 refine aC (a:=some dx) (au (aC (au ?_)))
 refine wpAny_nsSet1 (s:={s with toks:=s.toks+1}) I.ns λh' hn2 Me=>?_
 obtain⟨oD,esD,epD,WE,hdD,hcD⟩:=hn2.count (zE.cons name v hw)
 refine au (wpAny_lookBehind WE (by rw[hdD];exact pastItsLine_dict (bV hcD (by rw[aS];omega))) ?_)
 exact aC (h _ ⟨(Me.2 _ (cJ I.ne)).trans I.obj,hn2,I.ne⟩ Me)
theorem Q5(X:K.In s.heap)(hm:F' K C=true)(hi:iX K (.ref C) "__init__"=some (some (.ref f)))(hf:PySem.W.typeIn K (.ref f)=some (.type "function"))(h:codeAny (ay prog w) (A.under (.builtin "type.__call__" ⟨.ref C::vs,kw⟩)) (.call (.ref f) ⟨.ref (s.heap.objs.size+1)::vs,kw⟩) (PySem.W.InitBack (s.heap.objs.size+1) R)
   {s with heap:=(s.heap.push kL).push (lU C s.heap.objs.size)}):
  codeAny (ay prog w) A (.call (.ref C) ⟨vs,kw⟩) R s:=by
 obtain⟨hh,g,d,t,os⟩:=s
 exact PySem.W.make_core (PySem.W.makes_of X hm) (PySem.W.looks_findIn X hi) (λself=>PySem.W.bind_fn X self hf) (.inl rfl) h
end
def eV(f:ag)(v:V):List (ag×V)->List (ag×V)
 |[]=>[(f,v)]
 |(g,x)::r=>if g=f then(g,v)::r else(g,x)::eV f v r
theorem x6(f g:ag)(v:V):∀fs:List (ag×V),(eV f v fs).lookup g=if g=f then some v else fs.lookup g
 |[]=>by
  show lW g [(f,v)]=_
  by_cases h:g=f
  ·have hb:(g==f)=true:=bX.mpr h
   simp only[lW,hb,ax h]
  ·have hb:(g==f)=false:=fA.mpr h
   simp only[lW,hb,aq h]
 |(k,x)::r=>by
  have ih:=x6 f g v r
  rw[show eV f v ((k,x)::r)=(if k=f then(k,v)::r else(k,x)::eV f v r)from rfl]
  by_cases hk:k=f
  ·rw[ax hk]
   by_cases h:g=k
   ·have hb:(g==k)=true:=bX.mpr h
    simp only[lW,hb,ax (h.trans hk)]
   ·have hb:(g==k)=false:=fA.mpr h
    simp only[lW,hb,aq (λe:g=f=>h (e.trans hk.symm))]
  ·rw[aq hk]
   by_cases h:g=k
   ·have hb:(g==k)=true:=bX.mpr h
    simp only[lW,hb,aq (λe:g=f=>hk (h.symm.trans e))]
   ·have hb:(g==k)=false:=fA.mpr h
    simp only[lW,hb]
    exact ih
theorem xg(f:ag)(v:V):∀fs:List (ag×V),f∈(eV f v fs).map (·.1)/\∀g,g∈fs.map (·.1)->g∈(eV f v fs).map (·.1)
 |[]=>⟨by simp[eV],λg h=>by simp at h⟩
 |(k,x)::r=>by
  obtain⟨i1,i2⟩:=xg f v r
  rw[show eV f v ((k,x)::r)=(if k=f then(k,v)::r else(k,x)::eV f v r)from rfl]
  by_cases hk:k=f
  ·rw[ax hk]
   subst hk
   exact⟨by simp,λg h=>by simpa using h⟩
  ·rw[aq hk]
   refine⟨?_,λg h=>?_⟩
   ·rw[bb]
    exact bg _ i1
   ·rw[bb]at h⊢
    rcases aY.mp h with e|e
    ·exact aY.mpr (.inl e)
    ·exact bg _ (i2 g e)
theorem x8(f:ag)(v:V):∀fs:List (ag×V),(eV f v fs).length<=fs.length+1
 |[]=>by simp[eV]
 |(k,x)::r=>by
  have ih:=x8 f v r
  rw[show eV f v ((k,x)::r)=(if k=f then(k,v)::r else(k,x)::eV f v r)from rfl]
  by_cases hk:k=f
  ·rw[ax hk,aS,aS];omega
  ·rw[aq hk,aS,aS];omega
theorem qi.some_of{v:V}{o:Option af}(r:qi (some v) o):∃u,o=some u/\RelV v u:=by
 cases o with
 |none=>exact(show False from r).elim
 |some u=>exact⟨u,rfl,r⟩
theorem qi.none_of{o:Option af}(r:qi none o):o=none:=by
 cases o with
 |none=>rfl
 |some u=>exact(show False from r).elim
theorem Oe{v:V}(r:RelV v u):Q2 u=true:=by
 cases v with
 |non=>cases(show u=eh from r);rfl
 |bl b=>cases(show u=hZ b from r);rfl
 |int i=>obtain⟨t,e⟩:=(show∃t,u=eL i t from r);cases e;rfl
 |str x=>obtain⟨t,e⟩:=(show∃t,u=zA x t from r);cases e;rfl
 |Kh b=>obtain⟨t,e⟩:=(show∃t,u=Qu b t from r);cases e;rfl
 |flt b=>obtain⟨t,e⟩:=(show∃t,u=Qv b t from r);cases e;rfl
 |ref a=>cases(show u=aK a from r);rfl
 |ty n=>cases(show u=dI n from r);rfl
section
variable{fs fs':List (ag×V)}
theorem Eh(hok:qv P w H h)(e:H a=some (.ins C dx fs)):∃mA,Kv h a dx C mA/\(∀f,qi (fs.lookup f) (mA f))/\zE mA (fs.map (·.1))/\fs.length<=1000/\H dx=some (.own a):=by
 obtain⟨d,z,ne,ob,mA,n,r,q⟩:=(show fZ P w H h a (.ins C dx fs)from hok a _ e)
 exact⟨mA,⟨ob,n,ne⟩,r,q,z,d⟩
end
structure Cls (K:aL) (C:aa):Prop where
 pg:zO K C ag.empty=true
 hd:F7 K C=true
 po:Q4 K C=true
 sa:iX K (.ref C) "__setattr__"=some (some (.builtin "object.__setattr__"))
theorem Cls.get(c:Cls K C)(f:ag):zO K C f=true:=c.pg
def dQ(K:aL)(C:aa)(f:ag):Prop:=iX K (.ref C) f=some none
theorem dQ.taker{f:ag}(n:dQ K C f):F9 K C f=some none:=by
 unfold F9
 rw[show iX K (.ref C) f=some none from n]
 rfl
structure Meth (K:aL) (C:aa) (m:ag) (f:aa):Prop where
 at_:iX K (.ref C) m=some (some (.ref f))
 fn:uN K (.ref f)=true
 kp:kM K (.ref f)=true
section
variable{fs:List (ag×V)}{f:ag}{v:V}
theorem zP{b:Bool}(I:Inv X pins σ H s)(e:H a=some (.ins C dx fs))(c:Cls X.K C)(n:dQ X.K C f)(l:fs.lookup f=some v)(h:∀u s',Inv X pins σ H s'->RelV v u->Q u s'):wpAny (ay X.prog X.w) A (getAttr (.ref a) f b) Q E s:=by
 obtain⟨mA,O,r,_,_,_⟩:=Eh I.hok e
 obtain⟨u,hu,ru⟩:=qi.some_of (v:=v) (o:=mA f) (by rw[<-l];exact r f)
 exact get_map I.Ki O (c.get f) c.hd n hu (Oe ru) (h u _ (I.tok _) ru)
theorem tV{m:ag}{g:aa}{pl:aJ Bool}{Q:af×List af->aj->Prop}(I:Inv X pins σ H s)(e:H a=some (.ins C dx fs))(c:Cls X.K C)(k:Meth X.K C m g)(l:fs.lookup m=none)(h:Q (.ref g,[.ref a]) s):wpAny (ay X.prog X.w) A (ot (.ref a) m pl) Q E s:=by
 obtain⟨mA,O,r,_,_,_⟩:=Eh I.hok e
 have hn:mA m=none:=qi.none_of (by rw[<-l];exact r m)
 exact Q3 I.Ki O (c.get m) k.at_ k.fn hn h
theorem zQ{y:V}{Q:Unit->aj->Prop}(I:Inv X pins σ H s)(e:H a=some (.ins C dx fs))(c:Cls X.K C)(n:dQ X.K C f)(hl:fs.length<1000)(ry:RelV y u)(h:∀s',Inv X pins σ (upd H a (.ins C dx (eV f y fs))) s'->Q () s'):wpAny (ay X.prog X.w) A (setAttr (.ref a) f u) Q E s:=by
 obtain⟨mA,O,r,wi,_,ho⟩:=Eh I.hok e
 have hz:(fs.map (·.1)).length<=az:=by rw[aA,dU];omega
 refine Xx I.Ki O c.sa c.po n.taker c.hd wi hz λh' O' sb=>h _ ?_
 have hd:∃o,h'.get? dx=some o:=let⟨o,_,_,e',_⟩:=O'.ns;⟨o,e'⟩
 refine I.write (x:=a) (e:=dx) (by rw[e];exact qD) (.inr ho) (λb q hb z=>(sb.2 b hb).trans z) hd ?_
 refine⟨by rw[aN O.ne];exact ho,?_,O.ne,O'.obj,_,O'.ns,λg=>?_,λg hg=>?_⟩
 ·have:=x8 f y fs;omega
 ·show qi ((eV f y fs).lookup g) (if g=f then some u else mA g)
  rw[x6]
  by_cases q:g=f
  ·rw[ax q,ax q];exact ry
  ·rw[aq q,aq q];exact r g
 ·by_cases q:g=f
  ·rw[q];exact(xg f y fs).1
  ·refine(xg f y fs).2 g (wi g λz=>hg ?_)
   show(if g=f then some u else mA g)=none
   rw[aq q];exact z
theorem Inv.made(I:Inv X pins σ H s):Inv X pins σ (upd (upd H s.heap.objs.size (.own (s.heap.objs.size+1))) (s.heap.objs.size+1) (.ins C s.heap.objs.size []))
  {s with heap:=(s.heap.push kL).push (lU C s.heap.objs.size)}:=by
 have e1:(s.heap.push kL).get? s.heap.objs.size=some kL:=cU s.heap rfl
 have e2:((s.heap.push kL).push (lU C s.heap.objs.size)).get? (s.heap.objs.size+1)=some (lU C s.heap.objs.size):=by
  have:=cU (s.heap.push kL) (o:=lU C s.heap.objs.size) rfl
  rwa[eW]at this
 have e3:(s.heap.push kL).Ns s.heap.objs.size (λ_=>none):=⟨kL,#[],_,e1,rfl,(λe he=>absurd he (by simp)),λ_=>rfl⟩
 have I1:=I.laid (a:=s.heap.objs.size) (o:=.own (s.heap.objs.size+1)) (h':=s.heap.push kL) (t':=s.toks) (λb u q=>bQ _ q) (aV _) ⟨_,e1⟩
 refine I1.laid (a:=s.heap.objs.size+1) (o:=.ins C s.heap.objs.size []) (t':=s.toks) (λb u q=>bQ _ q) (kO (eW _ _)) ?_
 have ne:s.heap.objs.size≠s.heap.objs.size+1:=bS (uO _)
 refine⟨by rw[aN ne,ao],bI _,ne,e2,λ_=>none,(aH.Ns1.of_empty e3).at λo q=>bQ _ q,λ_=>qD,λy hy=>absurd rfl hy⟩
theorem Xy{f:ag}(hb:ou e f env (eval e env)=eval e env)(h:wpAny (ay prog w) A (eval e env) (λo s₁=>wpAny (ay prog w) A (getAttr o f true) Q E s₁) E s):wpAny (ay prog w) A (eval (.Attribute e f pos) env) Q E s:=
 Attribute_any_ h (by rw[arm_eval_Attribute,hb])
end
def aa3(K:aL)(ta:TE)(f:ag):TE:=λσ H Q=>ta σ H λx H1=>∃a C dx fs v,x=.ref a/\H1 a=some (.ins C dx fs)/\Cls K C/\dQ K C f/\fs.lookup f=some v/\Q v H1
def ah2(K:aL)(ta tv:TE)(f:ag):TS:=λD σ H=>tv σ H λy H1=>ta σ H1 λx H2=>∃a C dx fs,x=.ref a/\H2 a=some (.ins C dx fs)/\Cls K C/\dQ K C f/\fs.length<1000/\D.nx σ (upd H2 a (.ins C dx (eV f y fs)))
def aea(X:Cx)(op:uJ)(rd:V->V->Hp->VK->Prop):Prop:=
 ∀(pins:List (aa×aG))(s:aj)(σ:St)(H:Hp)(x y:V)(u v:af)(Q:VK),Inv X pins σ H s->RelV x u->RelV y v->rd x y H Q->wpAny (ay X.prog X.w) X.A (F3 op u v) (EP X pins σ Q) X.xe s
def Xz(K:aL)(ta tv:TE)(rd:V->V->Hp->VK->Prop)(f:ag):TS:=λD σ H=>ta σ H λx H1=>∃a C dx fs v,x=.ref a/\H1 a=some (.ins C dx fs)/\Cls K C/\dQ K C f/\fs.lookup f=some v/\tv σ H1 λy H2=>rd v y H2 λz H3=>∃XA fs',H3 a=some (.ins C XA fs')/\fs'.length<1000/\D.nx σ (upd H3 a (.ins C XA (eV f z fs')))
section
variable{o value:aQ}{f:ag}{tv:TE}
theorem bL(he:PE X e ta)(hb:ou e f X.env (eval e X.env)=eval e X.env):PE X (.Attribute e f pos) (aa3 X.K ta f):=by
 intro pins s σ H Q I h
 refine Xy hb (fg (he pins s σ H _ I h) λu s1⟨x,H1,I1,rx,a,C,dx,fs,v,ex,ea,c,n,l,q⟩=>?_)
 subst ex
 obtain rfl:u=aK a:=rx
 exact zP I1 ea c n l λu' s2 I2 ru=>⟨v,H1,I2,ru,q⟩
theorem iQ(ha:PE X o ta)(hv:PE X value tv)(hs:iV value (some (.Attribute o f pos')) pos.line X.env=pure false):PS X (.Assign [.Attribute o f pos'] value pos) (ah2 X.K ta tv f):=by
 intro pins s σ H D I h
 refine plainObj_wpAny_Assign_Attribute (fg (hv pins s σ H _ I h) λu s1⟨y,H1,I1,ry,q⟩=>fg (ha pins s1 σ H1 _ I1 q) λov s2⟨x,H2,I2,rx,a,C,dx,fs,ex,ea,c,n,l,q2⟩=>?_) hs
 subst ex
 obtain rfl:ov=aK a:=rx
 exact zQ I2 ea c n l ry λs3 I3=>⟨σ,_,I3,q2⟩
theorem Dd{op:uJ}{rd:V->V->Hp->VK->Prop}(ha:PE X o ta)(hv:PE X value tv)(hop:aea X op rd):PS X (.AugAssign (.Attribute o f ZA) op value pos) (Xz X.K ta tv rd f):=by
 intro pins s σ H D I h
 refine wpAny_AugAssign_AttributeAny (fg (ha pins s σ H _ I h) λov s1⟨x,H1,I1,rx,a,C,dx,fs,v,ex,ea,c,n,l,q⟩=>?_)
 subst ex
 obtain rfl:ov=aK a:=rx
 refine zP I1 ea c n l λu s2 I2 ru=>fg (hv pins s2 σ H1 _ I2 q) λw3 s3⟨y,H2,I3,ry,q3⟩=>fg (hop pins s3 σ H2 v y u w3 _ I3 ru ry q3) λw4 s4⟨z,H3,I4,rz,XA,fs',ea',l',q4⟩=>?_
 exact zQ I4 ea' c n l' rz λs5 I5=>⟨σ,_,I5,q4⟩
def ah3:V->V->Hp->VK->Prop:=λx y H Q=>∃i j,x=.int i/\y=.int j/\Q (.int (i+j)) H
theorem Q6:aea X .Add ah3:=by
 rintro pins s σ H x y u v Q I rx ry ⟨i,j,rfl,rfl,q⟩
 obtain⟨t,rfl⟩:=(show∃t,u=eL i t from rx)
 obtain⟨t',rfl⟩:=(show∃t',v=eL j t' from ry)
 exact PyProof.Rows.iadd_int ⟨.int (i+j),H,I.tok _,⟨_,rfl⟩,q⟩
end
section
variable{c:af}{b:Bool}
end
structure g9 (k:Nat) (A:dr):Prop where
 hd:A.handled=none
 dp:A.depth+3*k+5<recursionLimit
 un:A.units+16*k+200<cp
theorem g9.mono{k:Nat}(r:g9 k A)(h:j<=k):g9 j A:=⟨r.hd,by have:=r.dp;omega,by have:=r.un;omega⟩
theorem g9.deeper{k:Nat}{A:dr}(r:g9 (k+1) A)(env:dh):g9 k (A.deeper env):=
 ⟨r.hd,by have:=r.dp;show A.depth+1+3*k+5<_;omega,by have:=r.un;show A.units+3+16*k+200<_;omega⟩
theorem g9.in1{k:Nat}{A:dr}(r:g9 (k+1) A):g9 k A.in1:=
 ⟨r.hd,by have:=r.dp;show A.depth+3*k+5<_;omega,by have:=r.un;show A.units+1+16*k+200<_;omega⟩
theorem Kw:(A.under (.builtin "type.__call__" ⟨.ref C::us,kw⟩)).depth=A.depth+1:=by
 first|rfl|simp[F_,Code.weight,Code.isCreation,Code.isGuard,Code.isCaller,Q7,Gd,guardIds]
theorem Kx:(A.under (.builtin "type.__call__" ⟨.ref C::us,kw⟩)).units=A.units+1:=by
 first|rfl|simp[F_,Code.cUnits,Q7,Gd]
theorem g9.make{k:Nat}(r:g9 (k+1) A)(C:aa)(us:List af)(kw:List (ag×af)):g9 k (A.under (.builtin "type.__call__" ⟨.ref C::us,kw⟩)):=
 ⟨r.hd,by have:=r.dp;rw[Kw];omega,by have:=r.un;rw[Kx];omega⟩
theorem g9.depth{k:Nat}{A:dr}(r:g9 k A):A.depth<recursionLimit:=by have:=r.dp;omega
theorem g9.units{k:Nat}{A:dr}(r:g9 k A):A.units+64<cp:=by have:=r.un;omega
def f6:TA:=λ_ H Q=>Q [] H
def fk(ta:TE)(tr:TA):TA:=λσ H Q=>ta σ H λx H1=>tr σ H1 λxs H2=>Q (x::xs) H2
section
variable{es:List aQ}{t:TA}
theorem ai:PA X [] f6:=λ_ _ _ _ H Q I h=>uP ⟨[],H,I,.nil,h⟩
theorem ae(ha:PE X e te)(hr:PA X es t)(hs:aU (e::es) X.env=(false,eval e X.env)::aU es X.env:=by rfl):PA X (e::es) (fk te t):=by
 intro pos pins s σ H Q I h
 rw[hs]
 show wpAny _ _ (zH ((false,eval e X.env)::b9 pos (aU es X.env))) _ _ s
 refine qE (fg (ha pins s σ H _ I h) λu s1⟨x,H1,I1,r1,q1⟩=>?_)
 exact fg (hr pos pins s1 σ H1 _ I1 q1) λus s2⟨xs,H2,I2,r2,q2⟩=>⟨x::xs,H2,I2,.cons r1 r2,q2⟩
def aeb(t:TA):TE:=λσ H Q=>t σ H λxs H1=>xs.length<=az/\∀p,H1 p=none->Q (.ref p) (upd H1 p (.tup xs))
def Ky(t:TA):TE:=λσ H Q=>t σ H λxs H1=>xs.length<=az/\∀p,H1 p=none->Q (.ref p) (upd H1 p (.lst xs))
theorem pA{x1}(h:PA X es t):PE X (.Tuple es x1 pos) (aeb t):=by
 intro pins s σ H Q I hq
 refine wpAny_Tuple_spliced (fg (h pos pins s σ H _ I hq) λus s1⟨xs,H1,I1,r,z,q⟩=>⟨by rw[<-r.length];exact z,?_⟩)
 have hf:H1 s1.heap.objs.size=none:=I1.hok.fresh (aV _)
 refine⟨.ref s1.heap.objs.size,upd H1 s1.heap.objs.size (.tup xs),I1.laid (t':=s1.toks) (λb u e=>bQ _ e) (aV _) ?_,rfl,q _ hf⟩
 exact⟨z,us,r,⟨_,cU _ rfl,rfl,_,rfl⟩⟩
theorem bP(h:PA X es t):PE X (.List es pos) (Ky t):=by
 intro pins s σ H Q I hq
 refine wpAny_List_spliced (fg (h pos pins s σ H _ I hq) λus s1⟨xs,H1,I1,r,z,q⟩=>⟨by rw[<-r.length];exact z,?_⟩)
 have hf:H1 s1.heap.objs.size=none:=I1.hok.fresh (aV _)
 refine⟨.ref s1.heap.objs.size,upd H1 s1.heap.objs.size (.lst xs),I1.laid (t':=s1.toks) (λb u e=>bQ _ e) (aV _) ?_,rfl,q _ hf⟩
 exact⟨z,us,0,r,cU _ rfl⟩
end
abbrev Sp:=List V->Hp->VK->XK->Prop
abbrev CXT:=List dh->Hp->aj->XK->af->aj->Prop
structure CG (P:cQ) (w:bC) (K:aL) (mg:ag->Option af) (base:aH) (A:dr) (outer:List dh) (s:aj) (H:Hp):Prop where
 frames:A.frames=some outer
 mod:Mod K mg base
 bs:∀b o,base.get? b=some o->s.heap.get? b=some o/\H b=none
 Qy:base.objs.size<=s.heap.objs.size
 xb:s.heap.FunFrames base outer
 ZT:∀b∈WB outer,H b=none
 hok:qv P w H s.heap
 bare:n_ s.gens
def CE(outer:List dh)(P:cQ)(w:bC)(H:Hp)(s:aj)(Q:VK)(u:af)(s':aj):Prop:=
 ∃v H',s'.os=s.os/\n_ s'.gens/\Un (WB outer) [] H H' s.heap s'.heap/\qv P w H' s'.heap/\RelV v u/\Q v H'
def CR(CX:CXT)(outer:List dh)(P:cQ)(w:bC)(H:Hp)(s:aj)(Q:VK)(E:XK)(r:Result)(s':aj):Prop:=
 match r with
 | .ok (.ret u)=>CE outer P w H s Q u s'
 | .ok _=>False
 | .error e=>CX outer H s E e s'
structure cz (P:cQ) (w:bC) (K:aL) (mg:ag->Option af) (base:aH) (CX:CXT) (k:Nat) (f:aa) (fd:ox) (ps:List ag) (sp:Sp):Prop where
 len:∀vs H Q E,sp vs H Q E->vs.length=ps.length
 run:∀(A:dr)(outer:List dh)(s:aj)(H:Hp)(args:Args)(us:List af)(vs:List V)(Q:VK)(E:XK),g9 k A->CG P w K mg base A outer s H->qF s fd args (ps.zip us)->Vals vs us->sp vs H Q E->codeAny (ay P w) A (.call (.ref f) args) (CR CX outer P w H s Q E) s
theorem cz.mono{P:cQ}{w:bC}{K:aL}{mg:ag->Option af}{base:aH}{CX:CXT}{j k:Nat}{f:aa}{fd:ox}{ps:List ag}{sp:Sp}(F:cz P w K mg base CX j f fd ps sp)(h:j<=k):
  cz P w K mg base CX k f fd ps sp:=⟨F.len,λA outer s H args us vs Q E hr=>F.run A outer s H args us vs Q E (hr.mono h)⟩
variable{CX:CXT}{sp:Sp}
theorem cz.imp{k:Nat}{sp':Sp}(F:cz P w K mg base CX k f fd ps sp)(h:∀vs H Q E,sp' vs H Q E->sp vs H Q E):cz P w K mg base CX k f fd ps sp':=
 ⟨λvs H Q E q=>F.len vs H Q E (h _ _ _ _ q),λA outer s H args us vs Q E hr he hb hv hs=>F.run A outer s H args us vs Q E hr he hb hv (h _ _ _ _ hs)⟩
theorem CG.make{outer:List dh}(e:CG P w K mg base A outer s H)(C:aa)(us:List af)(kw:List (ag×af)):
  CG P w K mg base (A.under (.builtin "type.__call__" ⟨.ref C::us,kw⟩)) outer s H:=⟨by first|exact e.frames|(simpa[F_,Code.envs,Gd,pushEnvs]using e.frames),e.mod,e.bs,e.Qy,e.xb,e.ZT,e.hok,e.bare⟩
theorem CG.in1{P:cQ}{w:bC}{K:aL}{mg:ag->Option af}{base:aH}{A:dr}{outer:List dh}{s:aj}{H:Hp}(e:CG P w K mg base A outer s H):
  CG P w K mg base A.in1 outer s H:=⟨e.frames,e.mod,e.bs,e.Qy,e.xb,e.ZT,e.hok,e.bare⟩
section
variable{s':aj}
theorem Inv.env0(I:Inv X pins σ H s):CG X.prog X.w X.K X.mg X.base X.A X.stack s H:=
 ⟨I.ok.frames,I.ok.mod,I.bs,bV I.ok.Qy I.sz,I.stack,I.My,I.hok,I.bare⟩
theorem Inv.after{Q:VK}(I:Inv X pins σ H s)(h:CE X.stack X.prog X.w H s Q u s'):EP X pins σ Q u s':=by
 obtain⟨v,H',os,bare,un,hok,r,q⟩:=h
 obtain⟨hh,g,d,t,os'⟩:=s'
 obtain rfl:os'=s.os:=os
 exact⟨v,H',I.call (h':=hh) (g':=g) (d':=d) (t':=t) (ch:=[]) un hok bare (λb z=>absurd z (by simp)),r,q⟩
end
def Ge(sp:Sp)(zR:List V)(E:XK)(t:TA):TE:=λσ H Q=>t σ H λvs H1=>sp (vs++zR) H1 Q E
def ng(C:aa)(m:ag)(sp:Sp)(zR:List V)(E:XK)(ta:TE)(t:TA):TE:=λσ H Q=>ta σ H λx H1=>∃a dx fs,x=.ref a/\H1 a=some (.ins C dx fs)/\fs.lookup m=none/\t σ H1 λvs H2=>sp (x::(vs++zR)) H2 Q E
def Gg(C:aa)(sp:Sp)(zR:List V)(E:XK)(t:TA):TE:=λσ H Q=>t σ H λvs H1=>∀x dx,H1 x=none->H1 dx=none->dx≠x->sp (.ref x::(vs++zR)) (upd (upd H1 dx (.own x)) x (.ins C dx [])) (λv H2=>v=.non/\Q (.ref x) H2) E
def Binds(K:aL)(fd:ox)(ps:List ag)(ds:List af):Prop:=
 ∀(s:aj)(us:List af),K.In s.heap->(us++ds).length=ps.length->qF s fd ⟨us,[]⟩ (ps.zip (us++ds))
theorem Binds.all(h:∀us:List af,us.length=ps.length->bindArgs fd ⟨us,[]⟩=pure (ps.zip us)):Binds K fd ps []:=λs us _ hl=>by
 rw[cW]at hl⊢
 exact .of_eq (h us hl)
def Passes(CX:CXT)(X:Cx)(E:XK):Prop:=∀(pins:List (aa×aG))(σ:St)(H:Hp)(s:aj)(e:af)(s':aj),Inv X pins σ H s->CX X.stack H s E e s'->X.xe e s'
section
variable{k:Nat}{zR:List V}{ds:List af}{E:XK}{m:ag}{o:aQ}{es:List aQ}{t:TA}
theorem Ei{Q:VK}{vs:List V}(F:cz X.prog X.w X.K X.mg X.base CX k f fd ps sp)(hr:g9 k X.A)(hb:Binds X.K fd ps ds)(hd:Vals zR ds)(hx:Passes CX X E)(I:Inv X pins σ H s)(r:Vals vs us)(h:sp (vs++zR) H Q E):wpAny (ay X.prog X.w) X.A (call (.ref f) us) (EP X pins σ Q) X.xe s:=by
 have r2:Vals (vs++zR) (us++ds):=r.append hd
 have hl:(us++ds).length=ps.length:=by rw[<-r2.length];exact F.len _ _ _ _ h
 refine zS (qG (F.run X.A X.stack s H ⟨us,[]⟩ (us++ds) (vs++zR) Q E hr I.env0 (hb s us I.Ki hl) r2 h) λr s' hq=>?_)
 cases r with
 |error e=>exact hx pins σ H s e s' I hq
 |ok fl=>
  cases fl with
  |ret u=>exact I.after hq
  |next=>exact False.elim hq
  |brk=>exact False.elim hq
  |cont=>exact False.elim hq
theorem XB(F:cz X.prog X.w X.K X.mg X.base CX k f fd ps sp)(hr:g9 k X.A)(hg:Gl X x)(hm:X.mg x=some (.ref f))(hk:kM X.K (.ref f)=true)(hb:Binds X.K fd ps ds)(hd:Vals zR ds)(hx:Passes CX X E)(ha:PA X (e::es) t)(CC:(x==("__debug__":ag))=false:=by decide)(he:aU (e::es) X.env=(false,eval e X.env)::aU es X.env:=by rfl)(mY:(b9 pos (aU es X.env)).any (·.1)=false:=by rfl):
  PE X (.Call (.Name x p) (e::es) [] pos) (Ge sp zR E t):=by
 intro pins s σ H Q I h
 refine ie (uG I hg hm ?_ CC)
 refine zT (h₀:=X.base) I.ok.mod.kin hk (fg (ha pos pins s σ H _ I h) λus s1⟨vs,H1,I1,r,q⟩=>⟨I1.Ki,?_⟩) he mY
 exact Ei F hr hb hd hx I1 r q
theorem XC{pl:aJ Bool}(he:PE X o ta)(c:Cls X.K C)(hm:Meth X.K C m f)(F:cz X.prog X.w X.K X.mg X.base CX k f fd ps sp)(hr:g9 k X.A)(hb:Binds X.K fd ps ds)(hd:Vals zR ds)(hx:Passes CX X E)(ha:PA X (e::es) t)(tj:aU (e::es) X.env=(false,eval e X.env)::aU es X.env:=by rfl)(mY:(b9 pos (aU es X.env)).any (·.1)=false:=by rfl)(ht:eval (.Call (.Attribute o m apos) (e::es) [] pos) X.env=(do
   let ov<-eval o X.env
   oe apos.atName
   let(f,first)<-h_ [ov] (ot ov m pl)
   uQ pos f first (b9 pos (aU (e::es) X.env)) (jI pos (jJ [] X.env))):=by rfl):
  PE X (.Call (.Attribute o m apos) (e::es) [] pos) (ng C m sp zR E ta t):=by
 intro pins s σ H Q I h
 refine Gi (pl:=pl) (fg (he pins s σ H _ I h) λu s1⟨x,H1,I1,rx,a,dx,fs,ex,ea,l,q⟩=>?_) ht
 subst ex
 obtain rfl:u=aK a:=rx
 refine tV I1 ea c hm l ?_
 refine zT (first:=[.ref a]) (h₀:=X.base) I.ok.mod.kin hm.kp (fg (ha pos pins s1 σ H1 _ I1 q) λus s2⟨vs,H2,I2,r,q2⟩=>⟨I2.Ki,?_⟩) tj mY
 exact Ei (us:=.ref a::us) (vs:=.ref a::vs) F hr hb hd hx I2 (.cons rfl r) q2
theorem Q8{pl:aJ Bool}(he:PE X o ta)(c:Cls X.K C)(hm:Meth X.K C m f)(F:cz X.prog X.w X.K X.mg X.base CX k f fd ps sp)(hr:g9 k X.A)(hb:Binds X.K fd ps ds)(hd:Vals zR ds)(hx:Passes CX X E)(ht:eval (.Call (.Attribute o m apos) [] [] pos) X.env=(do
   let ov<-eval o X.env
   oe apos.atName
   let(f,first)<-h_ [ov] (ot ov m pl)
   uQ pos f first (b9 pos (aU [] X.env)) (jI pos (jJ [] X.env))):=by rfl):
  PE X (.Call (.Attribute o m apos) [] [] pos) (ng C m sp zR E ta f6):=by
 intro pins s σ H Q I h
 refine Gi (pl:=pl) (fg (he pins s σ H _ I h) λu s1⟨x,H1,I1,rx,a,dx,fs,ex,ea,l,q⟩=>?_) ht
 subst ex
 obtain rfl:u=aK a:=rx
 refine tV I1 ea c hm l ?_
 exact Q9 (first:=[.ref a]) I1.Ki hm.kp (Ei (us:=[.ref a]) (vs:=[.ref a]) F hr hb hd hx I1 (.cons rfl .nil) q)
structure Mk (K:aL) (C f:aa):Prop where
 makes:F' K C=true
 init:iX K (.ref C) "__init__"=some (some (.ref f))
 fn:uN K (.ref f)=true
 kp:kM K (.ref C)=true
theorem Gj{Q:VK}{vs:List V}(M:Mk X.K C f)(F:cz X.prog X.w X.K X.mg X.base CX k f fd ps sp)(hr:g9 (k+1) X.A)(hb:Binds X.K fd ps ds)(hd:Vals zR ds)(hx:Passes CX X E)(I:Inv X pins σ H s)(r:Vals vs us)(h:∀x dx,H x=none->H dx=none->dx≠x->sp (.ref x::(vs++zR)) (upd (upd H dx (.own x)) x (.ins C dx [])) (λv H2=>v=.non/\Q (.ref x) H2) E):
  wpAny (ay X.prog X.w) X.A (call (.ref C) us) (EP X pins σ Q) X.xe s:=by
 have hq:=h (s.heap.objs.size+1) s.heap.objs.size (I.hok.fresh (zU _)) (I.hok.fresh (aV _)) (bS (uO _))
 have I2:=Inv.made (C:=C) I
 have r2:Vals (V.ref (s.heap.objs.size+1)::(vs++zR)) (aK (s.heap.objs.size+1)::(us++ds)):=.cons rfl (r.append hd)
 have hl:(aK (s.heap.objs.size+1)::us++ds).length=ps.length:=by
  have e:=r2.length
  rw[F.len _ _ _ _ hq]at e
  exact e.symm
 refine zS (Q5 (f:=f) I.Ki M.makes M.init (bX.mp M.fn) (qG (F.run _ X.stack _ _ ⟨aK (s.heap.objs.size+1)::us,[]⟩ (aK (s.heap.objs.size+1)::(us++ds)) _ _ E (hr.make C us [])
  (I2.env0.make C us []) (hb _ (aK (s.heap.objs.size+1)::us) I2.Ki hl) r2 hq) λr s' Cw=>?_))
 cases r with
 |error e=>exact hx pins σ _ _ e s' I2 Cw
 |ok fl=>
  cases fl with
  |ret u=>
   obtain⟨v,H',I3,rv,ev,q3⟩:=I2.after Cw
   subst ev
   exact⟨rv,⟨V.ref (s.heap.objs.size+1),H',I3,rfl,q3⟩⟩
  |next=>exact False.elim Cw
  |brk=>exact False.elim Cw
  |cont=>exact False.elim Cw
theorem XD(M:Mk X.K C f)(F:cz X.prog X.w X.K X.mg X.base CX k f fd ps sp)(hr:g9 (k+1) X.A)(hg:Gl X x)(hm:X.mg x=some (.ref C))(hb:Binds X.K fd ps ds)(hd:Vals zR ds)(hx:Passes CX X E)(ha:PA X (e::es) t)(CC:(x==("__debug__":ag))=false:=by decide)(he:aU (e::es) X.env=(false,eval e X.env)::aU es X.env:=by rfl)(mY:(b9 pos (aU es X.env)).any (·.1)=false:=by rfl):
  PE X (.Call (.Name x p) (e::es) [] pos) (Gg C sp zR E t):=by
 intro pins s σ H Q I h
 refine ie (uG I hg hm ?_ CC)
 refine zT (h₀:=X.base) I.ok.mod.kin M.kp (fg (ha pos pins s σ H _ I h) λus s1⟨vs,H1,I1,r,q⟩=>⟨I1.Ki,?_⟩) he mY
 exact Gj M F hr hb hd hx I1 r q
theorem Q_(M:Mk X.K C f)(F:cz X.prog X.w X.K X.mg X.base CX k f fd ps sp)(hr:g9 (k+1) X.A)(hg:Gl X x)(hm:X.mg x=some (.ref C))(hb:Binds X.K fd ps ds)(hd:Vals zR ds)(hx:Passes CX X E)(CC:(x==("__debug__":ag))=false:=by decide):PE X (.Call (.Name x p) [] [] pos) (Gg C sp zR E f6):=by
 intro pins s σ H Q I h
 refine ie (uG I hg hm ?_ CC)
 exact Q9 I.Ki M.kp (Gj (us:=[]) M F hr hb hd hx I .nil h)
end
section
variable{k:Nat}{ks:List ag}{E:XK}{m:ag}{apF:cK}{o:aQ}{es:List aQ}{kws:List iY}{t tk:TA}{nm:Option ag}
variable{g:List af->List af->List af}{gV:List V->List V->List V}
end
structure a0 (N P:List ag) (sc:gF):Prop where
 kind:sc.kind=.function:=by rfl
 co:sc.isCoroutine=false:=by rfl
 gen:sc.isGenerator=false:=by rfl
 nd:N.Nodup:=by decide+kernel
 pre:N.take P.length=P:=by rfl
 par:∀x∈P,sc.names.lookup x=some .local\/sc.names.lookup x=some .cell:=by decide+kernel
 aa5:∀y∈sc.names,y.2≠.free:=by decide+kernel
theorem De{kindOf:ag->Option fm}{x:ag}:∀{binds:List (ag×af)}{m:ag->Option af},(∀v,(x,v)∉binds)->lX kindOf binds m x=m x
 |[],_,_=>rfl
 |(n,v)::r,m,h=>by
  unfold lX
  rw[De λw hw=>h w (bg _ hw)]
  split
  ·have:x≠n:=by rintro rfl;exact h v bp
   simp[this]
  ·rfl
theorem Df{kindOf:ag->Option fm}{x:ag}:∀{binds:List (ag×af)}{m:ag->Option af},(∀v,(x,v)∉binds)->lY kindOf binds m x=m x
 |[],_,_=>rfl
 |(n,v)::r,m,h=>by
  unfold lY
  rw[Df λw hw=>h w (bg _ hw)]
  split
  ·rfl
  ·have:x≠n:=by rintro rfl;exact h v bp
   simp[this]
theorem Dg{kindOf:ag->Option fm}{x:ag}{v:af}:∀{P:List ag}{vs:List af}{i:Nat}{m:ag->Option af},P.Nodup->P[i]?=some x->vs[i]?=some v->kindOf x=some .local->lX kindOf (P.zip vs) m x=some v
 |[],_,_,_,_,h,_,_=>by simp at h
 |_::_,[],_,_,_,_,h,_=>by simp at h
 |p::P,w::vs,0,m,nd,h1,h2,hk=>by
  simp at h1 h2;subst h1;subst h2
  show lX kindOf ((p,w)::P.zip vs) m p=_
  unfold lX
  rw[De λv hv=>(iZ.mp nd).1 (uR hv).1,ax hk]
  simp
 |p::P,w::vs,i+1,m,nd,h1,h2,hk=>by
  show lX kindOf ((p,w)::P.zip vs) m x=_
  unfold lX
  exact Dg (i:=i) (iZ.mp nd).2 (by simpa using h1) (by simpa using h2) hk
theorem Dh{kindOf:ag->Option fm}{x:ag}{v:af}:∀{P:List ag}{vs:List af}{i:Nat}{m:ag->Option af},P.Nodup->P[i]?=some x->vs[i]?=some v->kindOf x≠some .local->lY kindOf (P.zip vs) m x=some v
 |[],_,_,_,_,h,_,_=>by simp at h
 |_::_,[],_,_,_,_,h,_=>by simp at h
 |p::P,w::vs,0,m,nd,h1,h2,hk=>by
  simp at h1 h2;subst h1;subst h2
  show lY kindOf ((p,w)::P.zip vs) m p=_
  unfold lY
  rw[Df λv hv=>(iZ.mp nd).1 (uR hv).1,aq hk]
  simp
 |p::P,w::vs,i+1,m,nd,h1,h2,hk=>by
  show lY kindOf ((p,w)::P.zip vs) m x=_
  unfold lY
  exact Dh (i:=i) (iZ.mp nd).2 (by simpa using h1) (by simpa using h2) hk
def start(N:List ag)(vs:List V):St:=vs.map some++dW (N.length-vs.length) none
def Of(CX:CXT)(P:cQ)(w:bC)(K:aL)(mg:ag->Option af)(base:aH)(N:List ag)(qual:ag)(scope:gF)(f:aa)(cd:af)(A:dr)(outer:List dh)(s:aj)(H:Hp)(E:XK):Cx where
 prog:=P
 w:=w
 K:=K
 mg:=mg
 base:=base
 A:=A.deeper (i5 qual scope s.heap.objs.size f cd)
 N:=N
 s_0:=s
 H_0:=H
 env:=i5 qual scope s.heap.objs.size f cd
 outer:=outer
 stack:=i5 qual scope s.heap.objs.size f cd::outer
 ex:=[]
 calm:=true
 fn:=λ_=>true
 pn:=[]
 xe:=λe s'=>wpAny (ay P w) (A.deeper (i5 qual scope s.heap.objs.size f cd)) (leaving (i5 qual scope s.heap.objs.size f cd) e) (λ_ s''=>CX outer H s E e s'') (λe' s''=>CX outer H s E e' s'') s'
theorem Gp{sc:gF}(h:sc.names.lookup x=some .cell):∃c,(c5 n sc.names []).lookup x=some c:=by
 have q:=Ra sc.names n [] (.inl h)
 exact Gq.mp q
theorem Og{cd:af}{outer:List dh}{E:XK}{vs:List V}(S:a0 N ps scope)(hd:A.handled=none)(e0:CG P w K mg base A outer s H)(hl:vs.length=ps.length)(r:Vals vs us)(x:InCallC s s.heap.objs.size (lX (i5 qual scope s.heap.objs.size f cd).kindOf (ps.zip us) λ_=>none) (c5 (s.heap.objs.size+1) scope.names []) (lY (i5 qual scope s.heap.objs.size f cd).kindOf (ps.zip us) λ_=>none) s1):
  Inv (Of CX P w K mg base N qual scope f cd A outer s H E) [] (start N vs) H s1:=by
 have mY:ps.length<=N.length:=by have:=congrArg f_ S.pre;rw[d8]at this;omega
 obtain⟨h1,tk,rfl,hk⟩:=x.done
 have noA:∀b:aa,b∉(Of CX P w K mg base N qual scope f cd A outer s H E).ex:=λb z=>absurd (show b∈([]:List aa)from z) (by simp)
 refine⟨⟨e0.mod,S.kind,rfl,rfl,aV _,λy z c h1 h2=>?_,λy hy=>?_,λy c _ h=>?_,λ_=>hd,dr.frames_deeper e0.frames,.inr ⟨rfl,rfl⟩,λb z=>absurd z (noA b),e0.bs,e0.Qy,λb _ _=>noA b,λb z=>absurd z (noA b),e0.xb,e0.ZT⟩,rfl,e0.bare,Un.kept hk,⟨_,x.toInCall.ns,λi y v h1 h2 h3=>?_⟩,λy c h=>⟨_,x.cell y c h⟩,e0.hok.fresh (aV _),λy c h=>?_,λp hp=>absurd (show p∈([]:List (aa×aG))from hp) (by simp),e0.hok.kept hk,?_⟩
 ·exact name_of_addr x.apart (gW h1) (gW h2)
 ·have hy:scope.names.lookup y=some .cell\/scope.names.lookup y=some .free:=hy
  rcases hy with hy|hy
  ·exact Gp hy
  ·exact absurd rfl (S.aa5 _ (gW hy))
 ·exact iU (x.above y c (gW h))
 ·have hi:i<vs.length:=by
   unfold start at h2
   by_cases hi:i<vs.length
   ·exact hi
   ·rw[Gu (by simpa using hi)]at h2
    rw[List.getElem?_replicate]at h2
    split at h2<;>cases h2
  have ha:vs[i]?=some v:=by
   unfold start at h2
   rw[Rb (by simpa using hi),bz]at h2
   cases e:vs[i]?with
   |none=>rw[e]at h2;cases h2
   |some a=>rw[e]at h2;cases h2;rfl
  obtain⟨u,hu,rv⟩:=r.get ha
  have hp:ps[i]?=some y:=by
   rw[<-S.pre,List.getElem?_take_of_lt oo];exact h1
  have ndP:ps.Nodup:=by rw[<-S.pre];exact S.nd.sublist (Rc _ _)
  refine⟨u,rv,?_⟩
  rcases S.par y (cC hp)with k|k
  ·exact .inl ⟨k,Dg ndP hp hu k⟩
  ·obtain⟨c,e⟩:=Gp (n:=s.heap.objs.size+1) k
   refine .inr ⟨.inl k,c,e,?_⟩
   have q:=x.cell y c e
   rw[Dh ndP hp hu (by show scope.names.lookup y≠_;rw[k];decide)]at q
   exact q
 ·exact e0.hok.fresh (iU (x.above y c (gW h)))
 ·unfold start
  show _=N.length
  rw[bZ,aA,Gx]
  omega
theorem aed{k:Nat}{name:ag}{params:Arguments}{dV kV doc fF:af}{ZC:Array (Option af)}(lk:K.lookup f=some ⟨oc,od,.func (kP name qual params body scope dV kV doc pm an fF ct),ZC⟩)(PU:uS K fF qual=true)(S:a0 N ps scope)(len:∀vs H Q E,sp vs H Q E->vs.length=ps.length)(WG:∀(A:dr)(outer:List dh)(s:aj)(H:Hp)(vs:List V)(Q:VK)(E:XK),g9 k (A.deeper (i5 qual scope s.heap.objs.size f fF))->sp vs H Q E->∃t,FG (Of CX P w K mg base N qual scope f fF A outer s H E) body t/\t {nx:=λ_ H'=>Q .non H',rt:=Q} (start N vs) H):
  cz P w K mg base CX (k+1) f (kP name qual params body scope dV kV doc pm an fF ct) ps sp:=by
 refine⟨len,λA outer s H args us vs Q E hr e0 hb r CF=>?_⟩
 have hl:=len _ _ _ _ CF
 have KX:K.In s.heap:=e0.mod.kin.keeps λb o e=>(e0.bs b o e).1
 have lim:s.heap.NoLimit:=e0.mod.nolimit.keeps λb o e=>(e0.bs b o e).1
 have agb:∀y∈ps.zip us,scope.names.lookup y.1=some .local\/(scope.names.lookup y.1=some .cell/\((c5 (s.heap.objs.size+1) scope.names []).lookup y.1).isSome=true):=λ⟨n,v⟩hy=>by
  rcases S.par n (uR hy).1 with q|q
  ·exact .inl q
  ·exact .inr ⟨q,Ra _ _ _ (.inl q)⟩
 refine codeAny_call_function hr.depth (KX _ _ lk) rfl S.co S.gen rfl (PySem.W.codeRec_of KX PU) (hb _ _ _ _ ?_)
 refine wpAny_newFunctionEnv_cells S.kind agb λenv he s1 x=>?_
 subst he
 refine⟨lim.keeps x.toInCall.keep,codeAny_func ?_⟩
 obtain⟨t,ht,hq⟩:=WG A outer s H vs Q E (hr.deeper _) CF
 have I:Inv (Of CX P w K mg base N qual scope f fF A outer s H E) [] (start N vs) H s1:=Og S hr.hd e0 hl r x
 refine eM (ht [] s1 (start N vs) H _ I hq) (λfl s' hs=>?_) λe s' hs=>hs
 have fin:∀{gT:St}{H':Hp}{v:V}{u:af},Inv (Of CX P w K mg base N qual scope f fF A outer s H E) [] gT H' s'->RelV v u->Q v H'->CE outer P w H s Q u s':=
  λ{gT H' v u}J rv q=>⟨v,H',J.os,J.bare,J.base,J.hok,rv,q⟩
 cases fl with
 |ret u=>
  obtain⟨v,gT,H',J,rv,q⟩:=hs
  exact fin J rv q
 |next=>
  obtain⟨gT,H',J,q⟩:=hs
  exact fin (v:=V.non) (u:=eh) J rfl q
 |brk=>
  obtain⟨_,_,_,q⟩:=hs
  exact False.elim q
 |cont=>
  obtain⟨_,_,_,q⟩:=hs
  exact False.elim q
section
variable{es:List aQ}{t:TA}{id:String}{r:List V->Hp->VK->Prop}
def tCB(r:List V->Hp->VK->Prop)(t:TA):TE:=λσ H Q=>t σ H λvs H1=>r vs H1 Q
theorem bw(hc:uL X (.builtin id) r)(hg:Gl X x)(hm:X.mg x=none)(hv:kK x=some (.builtin id))(ha:PA X (e::es) t)(hn:x≠"__name__":=by decide)(CC:(x==("__debug__":ag))=false:=by decide)(he:aU (e::es) X.env=(false,eval e X.env)::aU es X.env:=by rfl)(mY:(b9 pos (aU es X.env)).any (·.1)=false:=by rfl):PE X (.Call (.Name x p) (e::es) [] pos) (tCB r t):=by
 intro pins s σ H Q I h
 refine ie (kj I hg hm hv ?_ hn CC)
 exact Gy (fg (ha pos pins s σ H _ I h) λus s1⟨vs,H1,I1,r1,q1⟩=>hc pins s1 σ H1 vs us Q I1 r1 q1) he mY
theorem Di(hc:uL X (.type T) r)(hg:Gl X x)(hm:X.mg x=none)(hv:kK x=some (.type T))(ha:PA X (e::es) t)(hn:x≠"__name__":=by decide)(CC:(x==("__debug__":ag))=false:=by decide)(he:aU (e::es) X.env=(false,eval e X.env)::aU es X.env:=by rfl)(mY:(b9 pos (aU es X.env)).any (·.1)=false:=by rfl):PE X (.Call (.Name x p) (e::es) [] pos) (tCB r t):=by
 intro pins s σ H Q I h
 refine ie (kj I hg hm hv ?_ hn CC)
 exact nc (fg (ha pos pins s σ H _ I h) λus s1⟨vs,H1,I1,r1,q1⟩=>hc pins s1 σ H1 vs us Q I1 r1 q1) he mY
end
end L2
namespace HT
open PySem PyProof.Rows
def lexLt:List Int->List Int->Bool
 |[],[]=>false
 |[],_::_=>true
 |_::_,[]=>false
 |x::xs,y::ys=>if x=y then lexLt xs ys else decide (x<y)
theorem lZ(x y:Int)(xs ys:List Int):lexLt (x::xs) (y::ys)=if x=y then lexLt xs ys else decide (x<y):=rfl
section
open PySem.SeqAt
open PySem.AutoSeq1 (wpAny_loadPart')
open PySem.MeetsSeq PySem.MeetsSeq2 PySem.MeetsSeq3
end
variable{A:dr}{E:af->aj->Prop}{prog:cQ}{s:aj}{w:bC}
def Gz(n d:Nat):Option Int->Nat
 |none=>d
 |some v=>if v<0 then(v+(n:Int)).toNat else min v.toNat n
theorem GA(n d:Nat):Gz n d none=d:=rfl
theorem yQ(n d k:Nat):Gz n d (some (k:Int))=min k n:=by
 show(if(k:Int)<0 then((k:Int)+(n:Int)).toNat else min (k:Int).toNat n)=min k n
 rw[aq oo,jK]
end HT
namespace L2
open PySem PySem.Spec PyProof.Rows
abbrev TO:=St->Hp->(Option Int->Hp->Prop)->Prop
def PO(X:Cx)(e:Option aQ)(t:TO):Prop:=
 ∀(pins:List (aa×aG))(s:aj)(σ:St)(H:Hp)(Q:Option Int->Hp->Prop),Inv X pins σ H s->t σ H Q->wpAny (ay X.prog X.w) X.A (evalPart e X.env) (λu s'=>∃o H',Inv X pins σ H' s'/\IsPart u o/\Q o H') X.xe s
def XE:TO:=λ_ H Q=>Q none H
def aee(t:TE):TO:=λσ H Q=>t σ H λx H1=>∃i,x=.int i/\Q (some i) H1
variable{X:Cx}{e:aQ}{p2 pos:cK}{te:TE}
section
variable{lo hi:Option aQ}{tl th:TO}
theorem nh:PO X none XE:=by
 intro pins s σ H Q I h
 rw[evalPart_none]
 exact aC ⟨none,H,I,.none,h⟩
theorem gy(h:PE X e te):PO X (some e) (aee te):=by
 intro pins s σ H Q I hw
 rw[evalPart_some]
 refine fg (h pins s σ H _ I hw) λu s1⟨x,H1,I1,r1,q1⟩=>?_
 obtain⟨i,rfl,q⟩:=q1
 obtain⟨t,rfl⟩:=r1
 exact⟨some i,H1,I1,.int i t,q⟩
def SlR(X:Cx)(r:V->Option Int->Option Int->Hp->VK->Prop):Prop:=
 ∀(pins:List (aa×aG))(s:aj)(σ:St)(H:Hp)(x:V)(v vl vu:af)(lo hi:Option Int)(sl:aa)(Q:VK),Inv X pins σ H s->RelV x v->s.heap.IsSliceOf sl vl vu .none->IsPart vl lo->IsPart vu hi->r x lo hi H Q->∃T id,uT (.type T) "__getitem__"=pure (some (.builtin id))/\s.TypeIs v T/\wpAny (ay X.prog X.w) X.A (oy v (.ref sl)) (EP X pins σ Q) X.xe s
def tSl(r:V->Option Int->Option Int->Hp->VK->Prop)(te:TE)(tl th:TO):TE:=λσ H Q=>te σ H λx H1=>tl σ H1 λl H2=>th σ H2 λu H3=>r x l u H3 Q
theorem i6{r:V->Option Int->Option Int->Hp->VK->Prop}(hr:SlR X r)(he:PE X e te)(hl:PO X lo tl)(hu:PO X hi th):PE X (.Subscript e (.Slice lo hi none p2) pos) (tSl r te tl th):=by
 intro pins s σ H Q I h
 refine zV (fg (he pins s σ H _ I h) λv s1⟨x,H1,I1,r1,q1⟩=>?_)
 refine wpAny_Slice (fg (hl pins s1 σ H1 _ I1 q1) λvl s2⟨l,H2,I2,pl,q2⟩=>fg (hu pins s2 σ H2 _ I2 q2) λvu s3⟨u,H3,I3,pu,q3⟩=>?_)
 rw[evalPart_none]
 refine aC ?_
 have I4:Inv X pins σ H3 {s3 with heap:=s3.heap.push {cls:=.type "slice",data:=.fields #[vl,vu,.none]}}:=I3.kept (t':=s3.toks) λb ob q=>bQ _ q
 obtain⟨T,id,hT,ht,hg⟩:=hr pins {s3 with heap:=s3.heap.push {cls:=.type "slice",data:=.fields #[vl,vu,.none]}} σ H3 x v vl vu l u s3.heap.objs.size Q I4 r1 (Rf ..) pl pu q3
 show wpAny (ay X.prog X.w) X.A (GB e (.Slice lo hi none p2) v (.ref s3.heap.objs.size)) (EP X pins σ Q) X.xe {s3 with heap:=s3.heap.push {cls:=.type "slice",data:=.fields #[vl,vu,.none]}}
 exact tail_any (ops:=[.ref s3.heap.objs.size,v]) ht hT hg (by with_unfolding_all rfl)
def uU(xs:List V)(lo hi:Option Int):List V:=(xs.drop (HT.Gz xs.length 0 lo)).take (HT.Gz xs.length xs.length hi-HT.Gz xs.length 0 lo)
theorem GC(xs:List V)(lo hi:Option Int):(uU xs lo hi).length<=xs.length:=by
 unfold uU
 rw[d8,gG]
 omega
end
def Rg(n:Nat)(i:Int):Option Nat:=if 0<=i then(if i<n then some i.toNat else none)else if-(n:Int)<=i then some (i+n).toNat else none
variable{A:dr}{D a b l:aa}{E Q:af->aj->Prop}{H H':Hp}{J:It}{K:aL}{M:Model}{N:List ag}{P prog:cQ}{R:Result->aj->Prop}{T:String}{ZA apos lr p pos':cK}{bG:List (List Bool×V)}{c elt iter tg:aQ}{ch fp:List aa}{elts ifs:List aQ}{env:dh}{ep i j kk n t':Nat}{g:TG}{h h':aH}{items:Array af}{its us:List af}{ns:List Int}{own:List (ag×Nat)}{pins:List (aa×aG)}{qual:ag}{s:aj}{scope:gF}{ta tb:TE}{tt:TT}{u v:af}{w:bC}{wi:TI}{xs ys:List V}{α β:Type}{σ:St}
def W4(xs:List α)(i:Int):Option α:=(Rg xs.length i).bind λj=>xs[j]?
theorem ME{i:Int}(h:Rg n i=some j):seqIndex? i n=some j/\j<n/\-(n:Int)<=i/\i<n:=by
 unfold Rg at h
 by_cases h0:0<=i
 ·rw[ax h0]at h
  by_cases h1:i<n
  ·rw[ax h1]at h
   have e:i.toNat=j:=bO h
   exact⟨by rw[GD h0 h1,e],by omega,by omega,h1⟩
  ·rw[aq h1]at h;cases h
 ·rw[aq h0]at h
  by_cases h1:-(n:Int)<=i
  ·rw[ax h1]at h
   have e:(i+n).toNat=j:=bO h
   exact⟨by rw[seqIndex_neg oo h1,e],by omega,h1,by omega⟩
  ·rw[aq h1]at h;cases h
theorem MF{xs:List α}{i:Int}{v:α}(h:W4 xs i=some v):∃j,seqIndex? i xs.length=some j/\xs[j]?=some v/\j<xs.length/\-(xs.length:Int)<=i/\i<xs.length:=by
 unfold W4 at h
 cases e:Rg xs.length i with
 |none=>rw[e]at h;cases h
 |some j=>
  rw[e]at h
  obtain⟨h1,h2,h3,h4⟩:=ME e
  exact⟨j,h1,h,h2,h3,h4⟩
theorem MG{xs:List α}{v:α}(h:xs[j]?=some v):W4 xs (j:Int)=some v:=by
 have hj:j<xs.length:=(gx.mp h).1
 have e:Rg xs.length (j:Int)=some j:=by
  unfold Rg
  rw[ax oo,ax oo];simp
 unfold W4;rw[e];exact h
theorem Rh(xs:List α)(v:α):W4 (xs++[v]) (-1)=some v:=by
 have hl:(xs++[v]).length=xs.length+1:=by simp
 have e:Rg (xs++[v]).length (-1)=some xs.length:=by
  unfold Rg
  rw[hl,aq dd,ax oo]
  congr 1
  omega
 unfold W4
 rw[e]
 show(xs++[v])[xs.length]?=some v
 simp
def XF(b:aQ):Prop:=∀o i,zW b false o i=operate [o,i] (oy o i)
def IxR(X:Cx)(r:R2):Prop:=
 ∀(value slice:aQ)(pins:List (aa×aG))(s:aj)(σ:St)(H:Hp)(x y:V)(v u:af)(Q:VK),Inv X pins σ H s->RelV x v->RelV y u->r x y H Q->zW slice false v u=operate [v,u] (oy v u)->wpAny (ay X.prog X.w) X.A (GB value slice v u) (EP X pins σ Q) X.xe s
def MtR(X:Cx)(id:String)(r:V->List V->Hp->VK->Prop):Prop:=
 ∀(pins:List (aa×aG))(s:aj)(σ:St)(H:Hp)(x:V)(xs:List V)(v:af)(us:List af)(Q:VK),Inv X pins σ H s->RelV x v->Vals xs us->r x xs H Q->wpAny (ay X.prog X.w) X.A (call (.builtin id) (v::us)) (EP X pins σ Q) X.xe s
section
variable{a b:aQ}
theorem iP{r:R2}(hr:IxR X r)(ha:PE X a ta)(hb:PE X b tb)(hs:XF b):PE X (.Subscript a b pos) (qk r ta tb):=by
 intro pins s σ H Q I h
 exact zV (aaZ ha hb I h λv u s2 x y H2 I2 rx ry q=>hr a b pins s2 σ H2 x y v u Q I2 rx ry q (hs _ _))
def aa6(K:aL):R2:=λx y H Q=>∃p xs i v,x=.ref p/\y=.int i/\a_ K H p xs/\W4 xs i=some v/\Q v H
def XG(K:aL):R2:=λx y H Q=>∃p xs i v,x=.ref p/\y=.int i/\lu K H p xs/\W4 xs i=some v/\Q v H
theorem fJ:IxR X (aa6 X.K):=by
 intro value slice pins s σ H x y v u Q I rx ry h hs
 obtain⟨p,xs,i,z,rfl,rfl,hq,he,q⟩:=h
 cases rx
 obtain⟨t,rfl⟩:=ry
 obtain⟨its,r,pl,hz⟩:=I.list hq
 obtain⟨j,h1,h2,h3,h4,h5⟩:=MF he
 obtain⟨w,ew,kQ⟩:=r.get h2
 have hl:=r.length
 have hn:=Eg
 have fin:EP X pins σ Q w s:=⟨z,H,I,kQ,q⟩
 by_cases h0:0<=i
 ·have hj:i.toNat=j:=by
   rw[GD h0 h5]at h1
   exact bO h1
  exact item_listR pl.isList h0 oo (by rw[hj];simpa using ew) fin hs
 ·have hj:(i+(its.toArray.size:Int)).toNat=j:=by
   rw[seqIndex_neg oo h4]at h1
   rw[cw,<-hl]
   exact bO h1
  exact Ri (x:=w) pl.isList.typeIs GF.lookup
   (wpAny_getItem_list_neg (Q:=λr s'=>r=w/\EP X pins σ Q r s') pl.isList oo (by rw[cw]<;>omega) oo (by rw[hj];simpa using ew) ⟨rfl,fin⟩) hs
theorem zX:IxR X (XG X.K):=by
 intro value slice pins s σ H x y v u Q I rx ry h hs
 obtain⟨p,xs,i,z,rfl,rfl,hq,he,q⟩:=h
 cases rx
 obtain⟨t,rfl⟩:=ry
 obtain⟨its,r,pl,hz⟩:=I.tuple hq
 obtain⟨j,h1,h2,h3,h4,h5⟩:=MF he
 obtain⟨w,ew,kQ⟩:=r.get h2
 have hl:=r.length
 have hn:=Eg
 have fin:EP X pins σ Q w s:=⟨z,H,I,kQ,q⟩
 exact Ri (x:=w) pl.typeIs slot_tuple_getitem.lookup
  (getItem_tuple (j:=j) (Q:=λr s'=>r=w/\EP X pins σ Q r s') pl oo oo (by rw[cw,<-hl];exact h1) (by simpa using ew) ⟨rfl,fin⟩) hs
theorem Kz(its:List af)(n j:Nat)(u:af):cS (·.setIfInBounds j u) {cls:=.type "list",data:=.seq its.toArray n}={cls:=.type "list",data:=.seq (its.set j u).toArray n}:=by
 simp[cS]
theorem Inv.lst{pins:List (aa×aG)}{σ:St}{H:Hp}{s:aj}{p:aa}{xs:List V}(I:Inv X pins σ H s)(h:H p=some (.lst xs)):
  ∃(its:List af)(n:Nat),Vals xs its/\s.heap.get? p=some {cls:=.type "list",data:=.seq its.toArray n}/\xs.length<=az:=by
 obtain⟨z,its,n,r,e⟩:=I.hok p _ h
 exact⟨its,n,r,e,z⟩
theorem Inv.aa7{p:aa}{its':List af}{n':Nat}{f:aG->aG}(I:Inv X pins σ H s)(h:H p=some (.lst xs))(ho:s.heap.get? p=some {cls:=.type "list",data:=.seq its.toArray n})(hf:f {cls:=.type "list",data:=.seq its.toArray n}={cls:=.type "list",data:=.seq its'.toArray n'})(r:Vals ys its')(hz:ys.length<=az)(t:Nat):
  Inv X pins σ (upd H p (.lst ys)) {s with heap:=s.heap.update p f,toks:=t}:=by
 have e:(s.heap.update p f).get? p=some {cls:=.type "list",data:=.seq its'.toArray n'}:=by
  rw[zY f ho (by rw[hf]<;>rfl),hf]
 refine I.write (x:=p) (e:=p) (by rw[h];trivial) (.inl rfl) (λb u hb q=>(iH _ _ (cJ hb)).trans q) ⟨_,e⟩ ?_
 exact⟨hz,its',n',r,e⟩
def aeg:V->V->V->Hp->(Hp->Prop)->Prop:=λo i v H Q=>∃p xs k j,o=.ref p/\i=.int k/\H p=some (.lst xs)/\Rg xs.length k=some j/\Q (upd H p (.lst (xs.set j v)))
theorem set_list:ad8 X aeg:=by
 intro pins s σ H o i v ov iv u Q I ro ri rv h
 obtain⟨p,xs,k,j,rfl,rfl,hp,hj,q⟩:=h
 cases ro
 obtain⟨t,rfl⟩:=ri
 obtain⟨its,n,r,ho,hz⟩:=I.lst hp
 obtain⟨h1,h2,h3,h4⟩:=ME hj
 have hl:=r.length
 have hn:=Eg
 have I':Inv X pins σ (upd H p (.lst (xs.set j v))) {s with heap:=s.heap.update p (cS (·.setIfInBounds j u))}:=
  I.aa7 hp ho (Kz its n j u) (r.set rv j) (by rw[Rj];exact hz) s.toks
 by_cases h0:0<=k
 ·have hk:k.toNat=j:=by
   rw[GD h0 h4]at h1
   exact bO h1
  exact PySem.W.ki_setAt ho h0 oo (by rw[cw,<-hl];exact h4) (by rw[hk];exact⟨_,I',q⟩)
 ·have hk:(k+(its.toArray.size:Int)).toNat=j:=by
   rw[seqIndex_neg oo h3]at h1
   rw[cw,<-hl]
   exact bO h1
  exact PySem.W.ki_setBack ho oo (by rw[cw,<-hl];exact h3) oo (by rw[hk];exact⟨_,I',q⟩)
theorem Ej(lo hi:Option Int)(n:Nat):(kT lo hi none n).1=((HT.Gz n 0 lo:Nat):Int)/\(kT lo hi none n).2.1=((HT.Gz n n hi:Nat):Int)/\(kT lo hi none n).2.2=1:=by
 refine⟨?_,?_,rfl⟩
 ·cases lo with
  |none=>simp[kT,HT.Gz]
  |some i=>
   simp only[kT,HT.Gz,Rk,show(1:Int)>0 by decide,de]
   by_cases h:i<0
   ·simp only[h,de]<;>omega
   ·simp only[h,cn]<;>omega
 ·cases hi with
  |none=>simp[kT,HT.Gz]
  |some i=>
   simp only[kT,HT.Gz,Rk,show(1:Int)>0 by decide,de]
   by_cases h:i<0
   ·simp only[h,de]<;>omega
   ·simp only[h,cn]<;>omega
theorem CH(its:List af)(lo hi:Option Int):zZ its.toArray lo hi none=((its.drop (HT.Gz its.length 0 lo)).take (HT.Gz its.length its.length hi-HT.Gz its.length 0 lo)).toArray:=by
 obtain⟨h1,h2,h3⟩:=Ej lo hi its.toArray.size
 unfold zZ
 rw[h1,h2,h3]
 simp only[sliceRange_one,pick_run,cw]<;>rfl
def ah5(K:aL):V->Option Int->Option Int->Hp->VK->Prop:=λx lo hi H Q=>∃a xs,x=.ref a/\a_ K H a xs/\∀p,H p=none->Q (.ref p) (upd H p (.lst (uU xs lo hi)))
theorem kx:SlR X (ah5 X.K):=by
 intro pins s σ H x v vl vu lo hi sl Q I rx hs pl pu h
 obtain⟨a,xs,rfl,hx,q⟩:=h
 cases rx
 obtain⟨its,r,ht,hz⟩:=I.list hx
 have hlen:=r.length
 refine⟨"list",_,GF.lookup,ht.isList.typeIs,?_⟩
 refine Rl ht.isList hs pl pu .none (by simp) ?_ (by rw[cw]<;>omega)
 rw[CH,<-hlen]
 refine⟨.ref s.heap.objs.size,_,I.laid (t':=s.toks) (o:=.lst (uU xs lo hi)) (λb ob q=>bQ _ q) (aV _) ?_,rfl,q _ (I.hok.fresh (aV _))⟩
 exact⟨bV (GC xs lo hi) hz,_,0,(r.drop (HT.Gz xs.length 0 lo)).take (HT.Gz xs.length xs.length hi-HT.Gz xs.length 0 lo),cU _ rfl⟩
def ni:V->Bool
 | .non=>true
 | .bl _=>true
 | .int _=>true
 | .str _=>true
 |_=>false
def Oh:V->V->Bool
 | .non,.non=>true
 | .bl a,.bl b=>a==b
 | .bl a,.int b=>(if a then 1 else 0)==b
 | .int a,.bl b=>a==(if b then 1 else 0)
 | .int a,.int b=>a==b
 | .str a,.str b=>a==b
 |_,_=>false
theorem aa8{y x:V}(ry:RelV y u)(rx:RelV x v)(fy:ni y=true)(fx:ni x=true):eX A s u v (Oh y x):=by
 cases y with
 |non=>
  cases ry
  cases x with
  |non=>cases rx;exact eX.same _
  |bl b=>cases rx;exact eX.none_bool b
  |int b=>obtain⟨t,rfl⟩:=rx;exact eX.none_int b t
  |str b=>obtain⟨t,rfl⟩:=rx;exact eX.none_str b t
  |_=>exact absurd (show false=true from fx) dv
 |bl a=>
  cases ry
  cases x with
  |non=>cases rx;exact eX.bool_none a
  |bl b=>cases rx;exact eX.bool_bool a b
  |int b=>obtain⟨t,rfl⟩:=rx;exact eX.bool_int a b t
  |str b=>obtain⟨t,rfl⟩:=rx;exact eX.bool_str a b t
  |_=>exact absurd (show false=true from fx) dv
 |int a=>
  obtain⟨t',rfl⟩:=ry
  cases x with
  |non=>cases rx;exact eX.int_none a t'
  |bl b=>cases rx;exact eX.int_bool a t' b
  |int b=>obtain⟨t,rfl⟩:=rx;exact eX.int_int a t' b t
  |str b=>obtain⟨t,rfl⟩:=rx;exact Qr a t' b t
  |_=>exact absurd (show false=true from fx) dv
 |str a=>
  obtain⟨t',rfl⟩:=ry
  cases x with
  |non=>cases rx;exact eX.str_none a t'
  |bl b=>cases rx;exact eX.str_bool a t' b
  |int b=>obtain⟨t,rfl⟩:=rx;exact Qs a t' b t
  |str b=>obtain⟨t,rfl⟩:=rx;exact eX.str_str a t' b t
  |_=>exact absurd (show false=true from fx) dv
 |_=>exact absurd (show false=true from fy) dv
def FH(x:V)(u:af):Bool:=match u with
 | .none=>Oh .non x
 | .bool b=>Oh (.bl b) x
 | .int i _=>Oh (.int i) x
 | .str z _=>Oh (.str z) x
 |_=>false
theorem z0{x y:V}(r:RelV y u)(f:ni y=true):FH x u=Oh y x:=by
 cases y with
 |non=>cases r;rfl
 |bl b=>cases r;rfl
 |int i=>obtain⟨t,rfl⟩:=r;rfl
 |str z=>obtain⟨t,rfl⟩:=r;rfl
 |_=>exact absurd (show false=true from f) dv
theorem uV{x:V}:∀{xs:List V}{us:List af},Vals xs us->xs.all ni=true->us.any (FH x)=xs.any λy=>Oh y x
 |_,_,.nil,_=>rfl
 |y::xs,u::us,.cons r t,f=>by
  rw[l4,eJ]at f
  rw[kU,kU,z0 r f.1,uV t f.2]
theorem l5{A:dr}{s:aj}{x:V}{v:af}(rx:RelV x v)(fx:ni x=true):∀{xs:List V}{us:List af},Vals xs us->xs.all ni=true->∀u∈us,eX A s u v (FH x u)
 |_,_,.nil,_=>λu hu=>by cases hu
 |y::xs,u::us,.cons r t,f=>λu' hu=>by
  rw[l4,eJ]at f
  rcases aY.mp hu with rfl|hu
  ·rw[z0 r f.1];exact aa8 r rx f.1 fx
  ·exact l5 rx fx t f.2 u' hu
def ZD(x:V)(xs:List V):Bool:=xs.any λy=>Oh y x
def rIn(K:aL)(neg:Bool):R2:=λx y H Q=>∃p xs,y=.ref p/\(a_ K H p xs\/lu K H p xs)/\ni x=true/\xs.all ni=true/\Q (.bl (if neg then !ZD x xs else ZD x xs)) H
theorem oz:yx X (fh .In) (rIn X.K false):=by
 intro pins s σ H x y v u Q I rx ry h
 obtain⟨p,xs,rfl,hq,fx,fs,q⟩:=h
 cases ry
 rcases hq with hq|hq
 ·obtain⟨its,r,pl,hz⟩:=I.list hq
  refine Rm (FH x) pl.isList (λw hw=>l5 rx fx r fs w (by simpa using hw)) ⟨.bl _,H,I,rfl,?_⟩
  rw[show its.toArray.any (FH x)=its.any (FH x) by simp,uV r fs]
  exact q
 ·obtain⟨its,r,pl,hz⟩:=I.tuple hq
  refine SeqAt.in_tupleAt (FH x) pl (λw hw=>l5 rx fx r fs w (by simpa using hw)) ⟨.bl _,H,I,rfl,?_⟩
  rw[show its.toArray.any (FH x)=its.any (FH x) by simp,uV r fs]
  exact q
theorem uW:yx X (fh .NotIn) (rIn X.K true):=by
 intro pins s σ H x y v u Q I rx ry h
 obtain⟨p,xs,rfl,hq,fx,fs,q⟩:=h
 cases ry
 rcases hq with hq|hq
 ·obtain⟨its,r,pl,hz⟩:=I.list hq
  refine SeqAt.notIn_listAt (FH x) pl.isList (λw hw=>l5 rx fx r fs w (by simpa using hw)) ⟨.bl _,H,I,rfl,?_⟩
  rw[show its.toArray.any (FH x)=its.any (FH x) by simp,uV r fs]
  exact q
 ·obtain⟨its,r,pl,hz⟩:=I.tuple hq
  refine SeqAt.notIn_tupleAt (FH x) pl (λw hw=>l5 rx fx r fs w (by simpa using hw)) ⟨.bl _,H,I,rfl,?_⟩
  rw[show its.toArray.any (FH x)=its.any (FH x) by simp,uV r fs]
  exact q
theorem aZ:uL X (.builtin "len") (λxs H Q=>∃p ys,xs=[.ref p]/\(a_ X.K H p ys\/lu X.K H p ys)/\Q (.int ys.length) H):=by
 intro pins s σ H xs us Q I r h
 obtain⟨p,ys,rfl,hq,q⟩:=h
 obtain⟨u,rfl,rx⟩:=vals1 r
 cases rx
 have hn:=Eg
 rcases hq with hq|hq
 ·obtain⟨its,r',pl,hz⟩:=I.list hq
  have hlen:=r'.length
  exact Calls.call_len_list pl.isList (by simp only[cw]<;>omega) ⟨.int ys.length,H,I.tok _,⟨s.toks+1,by rw[cw,hlen]⟩,q⟩
 ·obtain⟨its,r',pl,hz⟩:=I.tuple hq
  have hlen:=r'.length
  exact len_tuple pl (by simp only[cw]<;>omega) ⟨.int ys.length,H,I.tok _,⟨s.toks+1,by rw[cw,hlen]⟩,q⟩
theorem CI:uL X (.type "tuple") (λxs H Q=>∃p ys,xs=[.ref p]/\((a_ X.K H p ys/\∀l,H l=none->Q (.ref l) (upd H l (.tup ys)))\/(lu X.K H p ys/\Q (.ref p) H))):=by
 intro pins s σ H xs us Q I r h
 obtain⟨p,ys,rfl,h⟩:=h
 obtain⟨u,rfl,rx⟩:=vals1 r
 cases rx
 rcases h with⟨hq,q⟩|⟨hq,q⟩
 ·obtain⟨its,r',pl,hz⟩:=I.list hq
  have hlen:=r'.length
  refine call_tuple_list pl.isList (λh' kp=>?_) (by simp only[cw]<;>omega)
  have I1:Inv X pins σ H {s with heap:=h'}:=I.kept (t':=s.toks) kp
  have I2:Inv X pins σ (upd H h'.objs.size (.tup ys)) {s with heap:=h'.push {cls:=.type "tuple",data:=.seq its.toArray}}:=
   I1.laid (t':=s.toks) (λb o e=>bQ _ e) (aV _) (show fZ X.prog X.w _ _ _ (.tup ys)from⟨hz,its,r',n9.new _ _⟩)
  exact⟨.ref h'.objs.size,_,I2,rfl,q _ (I1.hok.fresh (aV _))⟩
 ·obtain⟨its,r',pl,hz⟩:=I.tuple hq
  exact call_tuple_same pl ⟨.ref p,H,I,rfl,q⟩
def tyV(K:aL)(T:String)(x:V)(H:Hp):Prop:=match x with
 | .str _=>T="str"
 | .int _=>T="int"
 | .ref p=>(T="list"/\∃xs,a_ K H p xs)\/(T="tuple"/\∃o,K.lookup p=some o/\o.cls=.type "tuple"/\o.dict=none)\/(T="dict"/\((∃bG,H p=some (.dK bG))\/∃bG,H p=some (.dT bG)))\/(T="set"/\∃S n,H p=some (.set S n))
 |_=>False
theorem aa9{x:V}(I:Inv X pins σ H s)(r:RelV x v)(ty:tyV X.K T x H):
  s.TypeIs v T/\∀a,v=.ref a->∃ob,s.heap.get? a=some ob/\ob.dict=none:=by
 cases x with
 |str z=>
  obtain⟨t,rfl⟩:=r
  cases(show T="str" from ty)
  exact⟨typeIs_str s z t,λ_ e=>nomatch e⟩
 |int i=>
  obtain⟨t,rfl⟩:=r
  cases(show T="int" from ty)
  exact⟨GG s i t,λ_ e=>nomatch e⟩
 |ref p=>
  cases r
  rcases ty with⟨rfl,xs,hq⟩|⟨rfl,o,hk,hc,hd⟩|⟨rfl,hk⟩|⟨rfl,S,n,hk⟩
  ·obtain⟨its,_,pl,_⟩:=I.list hq
   refine⟨pl.isList.typeIs,λa e=>?_⟩
   cases e
   obtain⟨o,n,e,c,hd,_⟩:=pl
   exact⟨o,e,hd⟩
  ·refine⟨⟨o,I.Ki p o hk,hc⟩,λa e=>?_⟩
   cases e
   exact⟨o,I.Ki _ o hk,hd⟩
  ·have z:∃o,s.heap.get? p=some o/\o.ExactDict:=by
    rcases hk with⟨bG,hk⟩|⟨bG,hk⟩
    ·obtain⟨_,_,_,_,o,_,_,e,ex,_⟩:=I.hok p _ hk
     exact⟨o,e,ex⟩
    ·obtain⟨_,_,_,_,o,_,_,e,ex,_⟩:=I.hok p _ hk
     exact⟨o,e,ex⟩
   obtain⟨o,e,ex⟩:=z
   refine⟨⟨o,e,ex.1⟩,λa e2=>?_⟩
   cases e2
   exact⟨o,e,ex.2.1⟩
  ·obtain⟨o,_,_,_,e,ex,_⟩:=I.hok p _ hk
   refine⟨⟨o,e,ex.1⟩,λa e2=>?_⟩
   cases e2
   exact⟨o,e,ex.2.1⟩
 |_=>exact False.elim ty
def tBM(K:aL)(T:String)(r:V->List V->Hp->VK->Prop)(to:TE)(t:TA):TE:=λσ H Q=>to σ H λx H1=>tyV K T x H1/\t σ H1 λxs H2=>r x xs H2 Q
variable{o:aQ}{es:List aQ}{to:TE}{t:TA}{name:ag}{id:String}{r:V->List V->Hp->VK->Prop}
theorem gc(pa:PlainAttrs T)(slot:Slot T name id)(hty:typeOf (.builtin id)=pure (.type "method_descriptor"))(hm:MtR X id r)(ho:PE X o to)(ha:PA X (e::es) t)(Ka:ou o name X.env (eval o X.env)=eval o X.env:=by rfl)(WH:((b9 lr (aU (e::es) X.env)).all (λx=>!x.1)&&(jI lr (jJ [] X.env)).all (λx=>x.1.isSome)
   &&decide ((e::es).length+([]:List iY).length+(if([]:List iY).isEmpty then 0 else 1)<30))=true:=by rfl)(Kb:(apos.endLine==lr.line)=true:=by rfl)(hs:aU (e::es) X.env=(false,eval e X.env)::aU es X.env:=by rfl)(acZ:(b9 lr (aU es X.env)).any (·.1)=false:=by rfl):
  PE X (.Call (.Attribute o name apos) (e::es) [] lr) (tBM X.K T r to t):=by
 intro pins s σ H Q I h
 refine Rn Ka WH Kb rfl (fg (ho pins s σ H _ I h) λv s1⟨x,H1,I1,r1,ty,q1⟩=>?_)
 obtain⟨h1,h2⟩:=aa9 I1 r1 ty
 refine⟨T,id,pa,slot,hty,h1,h2,?_⟩
 have hA:=ha lr pins s1 σ H1 _ I1 q1
 rw[hs]at hA⊢
 refine Ro (by show(false||(b9 lr (aU es X.env)).any (·.1))=false;rw[acZ]<;>rfl) (Rp ?_)
 exact fg hA λus s2⟨vs,H2,I2,r2,q2⟩=>hm pins s2 σ H2 x vs v us Q I2 r1 r2 q2
end
def MtM(X:Cx)(id:String)(r:V->List V->Hp->VK->Prop):Prop:=
 ∀(pins:List (aa×aG))(s:aj)(σ:St)(H:Hp)(x:V)(xs:List V)(v:af)(us:List af)(Q:VK),Inv X pins σ H s->RelV x v->Vals xs us->r x xs H Q->wpAny (ay X.prog X.w) X.A (call (.builtin id) (v::us)) (EP X pins σ Q) X.xe s
theorem Vals.one:∀{x:V}{us:List af},Vals [x] us->∃u,us=[u]/\RelV x u
 |_,_,.cons r .nil=>⟨_,rfl,r⟩
theorem Vals.two:∀{x y:V}{us:List af},Vals [x,y] us->∃u v,us=[u,v]/\RelV x u/\RelV y v
 |_,_,_,.cons r (.cons q .nil)=>⟨_,_,rfl,r,q⟩
theorem Vals.zero:∀{us:List af},Vals [] us->us=[]
 |_,.nil=>rfl
theorem Vals.dropLast{xs:List V}{us:List af}(h:Vals xs us):Vals xs.dropLast us.dropLast:=by
 induction h with
 |nil=>exact .nil
 |cons r t ih=>
  cases t with
  |nil=>exact .nil
  |cons q t'=>exact .cons r ih
theorem Vals.eraseIdx:∀{xs:List V}{us:List af}(i:Nat),Vals xs us->Vals (xs.eraseIdx i) (us.eraseIdx i)
 |_,_,_,.nil=>.nil
 |_,_,0,.cons _ t=>t
 |_,_,i+1,.cons r t=>.cons r (Vals.eraseIdx i t)
theorem Vals.reverse{xs:List V}{us:List af}(h:Vals xs us):Vals xs.reverse us.reverse:=by
 induction h with
 |nil=>exact .nil
 |cons r t ih=>rw[GH,GH];exact Vals.append ih (.cons r .nil)
theorem Vals.rep{xs:List V}{us:List af}(h:Vals xs us):∀k:Nat,Vals (dW k xs).flatten (dW k us).flatten
 |0=>.nil
 |k+1=>by
  rw[oA,oA,z5,z5]
  exact Vals.append h (Vals.rep h k)
theorem foldl_rep(its:List af):∀(k:Nat)(acc:List af),GI (λx1 x2=>x1++x2) acc.toArray (dW k its.toArray)=(acc++(dW k its).flatten).toArray
 |0,acc=>by simp
 |k+1,acc=>by
  have e:acc.toArray++its.toArray=(acc++its).toArray:=by simp
  have e2:(acc++its)++(dW k its).flatten=acc++(dW (k+1) its).flatten:=by
   rw[oA,z5,gz]
  rw[<-e2,<-foldl_rep its k (acc++its),<-e,oA,fK]
section
variable{zs:List V}
theorem Inv.aeh{its':List af}{f:Array af->Array af}(I:Inv X pins σ H s)(hH:H l=some (.lst xs))(e:s.heap.get? l=some {cls:=.type "list",data:=.seq its.toArray n})(hf:f its.toArray=its'.toArray)(hv:Vals ys its')(hz:ys.length<=az):
  Inv X pins σ (upd H l (.lst ys)) {s with heap:=s.heap.update l (cS f),toks:=t'}:=by
 have q:=Rq e f
 rw[hf]at q
 refine I.write (x:=l) (e:=l) (by rw[hH];exact trivial) (.inl rfl) (λb' u hb hu=>(iH s.heap (cS f) (cJ hb)).trans hu) ⟨_,q⟩ ?_
 exact⟨hz,its',_,hv,q⟩
theorem Inv.aei(I:Inv X pins σ H s)(hv:Vals ys its)(hz:ys.length<=az):
  Inv X pins σ (upd H s.heap.objs.size (.lst ys)) {s with heap:=s.heap.push {cls:=.type "list",data:=.seq its.toArray},toks:=t'}:=
 I.laid (λ_ _ q=>bQ _ q) (aV _) ⟨hz,its,0,hv,cU _ rfl⟩
theorem Inv.fresh(I:Inv X pins σ H s):H s.heap.objs.size=none:=I.hok.fresh (aV _)
theorem Inv.Oi(I:Inv X pins σ H s)(hH:H l=some (.lst xs)):xs.length<=az/\∃(its:List af)(n:Nat),Vals xs its/\xs.length=its.length/\s.heap.get? l=some {cls:=.type "list",data:=.seq its.toArray n}:=by
 obtain⟨z,its,n,r,e⟩:=I.hok l _ hH
 exact⟨z,its,n,r,r.length,e⟩
theorem z6(h:n<=az):uX n=false:=by
 unfold uX
 exact fG oo
end
def XH:V->List V->Hp->VK->Prop:=λx vs H Q=>∃l xs y,x=.ref l/\vs=[y]/\H l=some (.lst xs)/\xs.length<az/\Q .non (upd H l (.lst (xs++[y])))
theorem gf:MtM X "list.append" XH:=by
 intro pins s σ H x vs v us Q I rx rv h
 obtain⟨l,xs,y,rfl,rfl,hH,hz,q⟩:=h
 cases rx
 obtain⟨u,rfl,ru⟩:=rv.one
 obtain⟨z,its,n,r,hl,e⟩:=I.Oi hH
 refine kW F.slot_list_append ⟨_,e,rfl⟩ F.entry_list_append (F.args_list_append_2 _ _) (PySem.list_append l its.toArray n u (by rw[cw];omega)) ⟨e,?_⟩
 refine⟨.non,_,I.aeh (its':=its++[u]) hH e (by simp) (r.append (.cons ru .nil)) ?_,rfl,q⟩
 rw[bZ,jL]
 omega
def MH:V->List V->Hp->VK->Prop:=λx vs H Q=>∃l b xs zs,x=.ref l/\vs=[.ref b]/\H l=some (.lst xs)/\H b=some (.lst zs)/\xs.length+zs.length<=az/\Q .non (upd H l (.lst (xs++zs)))
theorem jr:MtM X "list.extend" MH:=by
 intro pins s σ H x vs v us Q I rx rv h
 obtain⟨l,b,xs,zs,rfl,rfl,hH,hB,hz,q⟩:=h
 cases rx
 obtain⟨u,rfl,ru⟩:=rv.one
 cases ru
 obtain⟨z,its,n,r,hl,e⟩:=I.Oi hH
 obtain⟨z2,nW,n2,r2,P_,e2⟩:=I.Oi hB
 have hsz:its.toArray.size+nW.toArray.size<=az:=by rw[cw,cw];omega
 have GJ:¬(!its.toArray.isEmpty&&uX (its.toArray.size+nW.toArray.size))=true:=by
  rw[z6 hsz,uY]
  exact dv
 refine kW kz ⟨_,e,rfl⟩ Rr (Rt _ _)
  (Ru l its.toArray n b nW.toArray n2 GJ (by rw[cw];omega) oo) ⟨e,e2,?_⟩
 refine⟨.non,_,I.aeh (its':=its++nW) hH e (by simp) (r.append r2) ?_,rfl,q⟩
 rw[bZ]
 omega
def KA:R2:=λx y H Q=>∃l b xs zs,x=.ref l/\y=.ref b/\H l=some (.lst xs)/\H b=some (.lst zs)/\xs.length+zs.length<=az/\∀p,H p=none->Q (.ref p) (upd H p (.lst (xs++zs)))
theorem lz:yx X (jE .Add) KA:=by
 intro pins s σ H x y v u Q I rx ry h
 obtain⟨l,b,xs,zs,rfl,rfl,hH,hB,hz,q⟩:=h
 cases rx
 cases ry
 obtain⟨z,its,n,r,hl,e⟩:=I.Oi hH
 obtain⟨z2,nW,n2,r2,P_,e2⟩:=I.Oi hB
 refine PySem.P.add_list e e2 ?_ (by rw[cw,cw];omega)
 have ea:its.toArray++nW.toArray=(its++nW).toArray:=by simp
 rw[ea]
 exact⟨.ref _,_,I.aei (t':=s.toks) (r.append r2) (by rw[bZ];omega),rfl,q _ I.fresh⟩
def ah6:R2:=λx y H Q=>∃l k xs,x=.ref l/\y=.int k/\H l=some (.lst xs)/\-(2^63)<=k/\k<2^63/\xs.length*k.toNat<=az/\∀p,H p=none->Q (.ref p) (upd H p (.lst (dW k.toNat xs).flatten))
theorem len_rep(xs:List α)(k:Nat):(dW k xs).flatten.length=k*xs.length:=by
 induction k with
 |zero=>simp
 |succ k ih=>rw[oA,z5,bZ,ih,GK,qH]
theorem aa':yx X (jE .Mult) ah6:=by
 intro pins s σ H x y v u Q I rx ry h
 obtain⟨l,k,xs,rfl,rfl,hH,h1,h2,hz,q⟩:=h
 cases rx
 obtain⟨t,rfl⟩:=ry
 obtain⟨z,its,n,r,hl,e⟩:=I.Oi hH
 have hlen:its.toArray.size*k.toNat<=az:=by rw[cw,<-hl];exact hz
 have akC:¬its.toArray.size*k.toNat>(2^63-1)/8:=by
  have:(az:Nat)<=(2^63-1)/8:=by decide
  omega
 have pZ:¬(!cR.List.listFitsIndex k)=true:=by
  rw[fitsIndex_both h1 h2]
  exact dv
 have GJ:¬uX (its.toArray.size*k.toNat)=true:=by
  rw[z6 hlen]
  exact dv
 have WI:GI (λx1 x2=>x1++x2) #[] (dW (if its.toArray.isEmpty=true then 0 else k.toNat) its.toArray)=(dW k.toNat its).flatten.toArray:=by
  have f0:∀m:Nat,GI (λx1 x2=>x1++x2) #[] (dW m its.toArray)=(dW m its).flatten.toArray:=λm=>by
   have:=foldl_rep its m []
   rw[jM]at this
   exact this
  rw[f0]
  cases its with
  |nil=>simp
  |cons a r'=>rw[aq (by simp)]
 refine wpAny_binaryOp_repeat_ref (T:="list") (U:="int") dd ⟨_,e,rfl⟩ (λs'=>GG s' k t) noFill_list_mul F.fills_int_mul Rv repeat_list F.slot_int_index.lookup
  (kW Rv (GG s k t) F.entry_int_rmul (F.args_int_rmul_2 _ _) (int___rmul___int_list k t l its.toArray n)
   ⟨e,rfl,⟨_,e,rfl⟩,kW F.slot_list_mul ⟨_,e,rfl⟩ F.entry_list_mul (F.args_list_mul_2 _ _) (AutoListH.list___mul___list_int_3 l its.toArray n k t pZ akC GJ) ⟨e,?_⟩⟩)
 rw[WI]
 exact⟨.ref _,_,I.aei (t':=s.toks) (r.rep k.toNat) (by rw[len_rep,eY];exact hz),rfl,q _ I.fresh⟩
theorem Vals.ints:∀{ns:List Int}{us:List af},Vals (ns.map V.int) us->fL us ns
 |[],us,h=>by
  rw[gH]at h
  cases h
  exact fL.nil
 |n::ns,us,h=>by
  rw[bb]at h
  cases h with
  |cons r t=>
   obtain⟨k,rfl⟩:=r
   exact fL.cons n k (Vals.ints t)
theorem uZ:∀{us:List af}{ns:List Int},fL us ns->Vals (ns.map V.int) us
 |_,_,.nil=>by rw[gH];exact Paired.nil
 |_,_,.cons n t h=>by rw[bb];exact Paired.cons (show RelV (V.int n) (eL n t)from⟨t,rfl⟩) (uZ h)
theorem Vals.strs:∀{xs:List ag}{us:List af},Vals (xs.map V.str) us->StrsAre us xs
 |[],us,h=>by
  rw[gH]at h
  cases h
  exact StrsAre.nil
 |x::xs,us,h=>by
  rw[bb]at h
  cases h with
  |cons r t=>
   obtain⟨k,rfl⟩:=r
   exact StrsAre.cons x k (Vals.strs t)
theorem Vals.yR:∀{bs:List Bool}{us:List af},Vals (bs.map V.bl) us->us=bs.map hZ
 |[],us,h=>by
  rw[gH]at h
  cases h
  rfl
 |b::bs,us,h=>by
  rw[bb]at h
  cases h with
  |cons r t=>
   cases r
   rw[Vals.yR t,bb]
theorem Vals.KC(r:Vals [V.ref a] us):us=[aK a]:=by
 cases r with
 |cons r t=>
  cases t
  cases r
  rfl
theorem XI(hh:A.handled=none)(hl:s.heap.IsList l its.toArray)(hi:fL its ns)(h:∀h' tk t',(∀b o,s.heap.get? b=some o->h'.get? b=some o)->Q (.int ns.sum t') {s with heap:=h',toks:=tk}):wpAny (ay prog w) A (call (.builtin "sum") [.ref l]) Q E s:=by
 obtain⟨xs,e⟩:=hi.allInts.items
 have hn:numsOf (l6 xs).toList=ns:=by rw[<-e];exact hi.numsOf
 rw[GL]at hn
 rw[e]at hl
 refine PySem.sum_intListG hh hl λh' tk t' hk=>?_
 have:=h h' tk t' hk
 rw[preSum_eq,l7 (by simp),hn];exact this
theorem XJ(hh:A.handled=none)(hl:s.heap.IsList l its.toArray)(hi:fL its ns)(qh:0<ns.length)(h:∀h' tk M t',(∀b o,s.heap.get? b=some o->h'.get? b=some o)->M∈ns->(∀a,a∈ns->a<=M)->Q (.int M t') {s with heap:=h',toks:=tk}):wpAny (ay prog w) A (call (.builtin "max") [.ref l]) Q E s:=by
 obtain⟨xs,e⟩:=hi.allInts.items
 have hn:numsOf (l6 xs).toList=ns:=by rw[<-e];exact hi.numsOf
 rw[GL]at hn
 subst hn
 rw[e]at hl
 have hsz:0<xs.size:=by simpa using qh
 refine PySem.max_intList hh hl hsz λv h' tk hv hk=>?_
 obtain⟨t,rfl⟩:=GN hv
 obtain⟨h1,h2⟩:=argBest_gt (l8 xs) (xs.size-1)
 refine h h' tk _ t hk ?_ λa ha=>?_
 ·rw[numAt_eq];exact PySem.getD_mem (by rw[aA,dj];omega)
 ·obtain⟨j,hj,rfl⟩:=mem_getD ha
  rw[aA,dj]at hj
  rw[<-numAt_eq];exact h2 j oo
def ah7(K:aL):List V->Hp->VK->Prop:=λvs H Q=>∃(a:aa)(ns:List Int),vs=[V.ref a]/\a_ K H a (ns.map V.int)/\Q (.int ns.sum) H
def ah8(K:aL):List V->Hp->VK->Prop:=λvs H Q=>∃(a:aa)(ns:List Int),vs=[V.ref a]/\a_ K H a (ns.map V.int)/\0<ns.length/\∀m,m∈ns->(∀y,y∈ns->y<=m)->Q (.int m) H
theorem Ek(hc:X.calm=true):uL X (.builtin "sum") (ah7 X.K):=by
 intro pins s σ H vs us Q I r h
 obtain⟨a,ns,rfl,hs,q⟩:=h
 obtain⟨its,rv,hl,_⟩:=I.list hs
 rw[Vals.KC r]
 exact XI (I.ok.hd hc) hl.isList rv.ints λh' tk t' hk=>⟨.int _,H,I.kept hk,⟨_,rfl⟩,q⟩
theorem Rw(hc:X.calm=true):uL X (.builtin "max") (ah8 X.K):=by
 intro pins s σ H vs us Q I r h
 obtain⟨a,ns,rfl,hs,qh,q⟩:=h
 obtain⟨its,rv,hl,_⟩:=I.list hs
 rw[Vals.KC r]
 exact XJ (I.ok.hd hc) hl.isList rv.ints qh λh' tk m t' hk h1 h2=>⟨.int _,H,I.kept hk,⟨_,rfl⟩,q m h1 h2⟩
def aa_(K:aL):V->List V->Hp->VK->Prop:=λx xs H Q=>∃(a:aa)(ys:List V)(y:V)(j:Nat)(z:V),x=V.ref a/\xs=[y]/\a_ K H a ys/\ni y=true/\ys.all ni=true/\ys[j]?=some z/\Oh z y=true/\(∀(m:Nat)(z':V),m<j->ys[m]?=some z'->Oh z' y=false)/\Q (.int (j:Nat)) H
theorem u0(f:ys.all ni=true){z:V}(h:ys[j]?=some z):ni z=true:=c_.mp f z (cC h)
theorem Rx:MtR X "list.index" (aa_ X.K):=by
 intro pins s σ H x xs v us Q I rx rxs h
 obtain⟨a,ys,y,j,z,rfl,rfl,hs,fy,fys,hz,hzj,jx,q⟩:=h
 cases rx
 cases rxs with
 |cons ry rt=>
  rename_i uy ut
  cases rt
  obtain⟨its,rv,⟨⟨cls,dd,data,sl⟩,n,ho,hc,hdn,hd⟩,hlen⟩:=I.list hs
  simp only at hc hd
  subst hc hd
  obtain⟨u,hu,ru⟩:=rv.get hz
  obtain⟨hjl,hje⟩:=gx.mp hu
  have Qa:=rv.length
  have hj:j<its.toArray.size:=by simpa using hjl
  have hsl:=dU
  refine kW u6 ⟨_,ho,rfl⟩ Ry (Rz _ _)
   (RB a its.toArray n dd sl uy (FH y) j hj oo ?_ ?_) ⟨ho,λu' hu'=>l5 ry fy rv fys u' (by simpa using hu'),?_⟩
  ·have e1:its.toArray[j]=u:=by simpa using hje
   rw[e1,z0 ru (u0 fys hz)]
   exact hzj
  ·intro m hm hmj
   have hml:m<its.length:=by simpa using hm
   have hmy:m<ys.length:=by omega
   have Xf:ys[m]?=some ys[m]:=bT hmy
   obtain⟨u2,hu2,ru2⟩:=rv.get Xf
   obtain⟨_,hme⟩:=gx.mp hu2
   have e1:its.toArray[m]=u2:=by simpa using hme
   rw[e1,z0 ru2 (u0 fys Xf)]
   exact jx m _ hmj Xf
  ·exact⟨.int (j:Nat),H,I.tok _,⟨_,rfl⟩,q⟩
theorem RC(hl:s.heap.IsList l items)(h:∀nV:aj,nV={s with heap:=s.heap.push {cls:=.type "list_iterator",data:=.fields #[.ref l,.int 0 0]}}->(nV.heap.IsListIter s.heap.objs.size l 0/\nV.heap.IsList l items)->l≠s.heap.objs.size->Q (.ref s.heap.objs.size) nV):wpAny (ay prog w) A (qz (.ref l)) Q E s:=by
 have hlt:l<s.heap.objs.size:=by obtain⟨_,e,_⟩:=hl;exact ba e
 exact zK hl (h _ rfl ⟨⟨_,cU _ rfl,rfl,rfl⟩,hl.push _⟩ (bS hlt))
theorem GO{bs:List Bool}(e:its=bs.map hZ):
  TruthOf prog w A (λi v=>its.toArray[i]?=some v) (λi=>bs.getD i false):=λi v s Q E hv hq=>by
 have tE:its[i]?=some v:=by simpa using hv
 rw[e,bz]at tE
 obtain⟨b,hb,rfl⟩:=u7.mp tE
 have hg:bs.getD i false=b:=by rw[bM,hb]<;>rfl
 have Cw:Q (bs.getD i false) s:=hq
 rw[hg]at Cw
 exact kJ Cw
theorem all_range:∀bs:List Bool,(aE bs.length).all (λi=>bs.getD i false)=bs.all id
 |[]=>rfl
 |b::bs=>by
  rw[aS,qI,l4,u9,l4,<-all_range bs]
  all_goals rfl
def aib(K:aL):List V->Hp->VK->Prop:=λvs H Q=>∃(a:aa)(bs:List Bool),vs=[V.ref a]/\a_ K H a (bs.map V.bl)/\Q (.bl (bs.all id)) H
theorem KD(hc:X.calm=true):uL X (.builtin "all") (aib X.K):=by
 intro pins s σ H vs us Q I r h
 obtain⟨a,bs,rfl,hs,q⟩:=h
 obtain⟨its,rv,hl,_⟩:=I.list hs
 rw[Vals.KC r]
 have hb:=rv.yR
 refine call_all_walk (RC hl.isList λnV e2 st qh=>?_)
 subst e2
 refine⟨_,_,_,_,_,_,_,rfl,GP (A:=X.A.in1) (I.ok.hd hc) _ a qh its.toArray,st,GO hb,λh' tk hk=>?_⟩
 refine⟨.bl _,H,I.kept λb o eo=>hk b o (λhmem=>?_) (bQ _ eo),?_,q⟩
 ·rcases aY.mp hmem with e1|hmem
  ·exact absurd (e1▸ba eo) (iT _)
  ·cases hmem
 ·show hZ _=hZ _
  rw[<-all_range,hb,cw,aA]
mutual
inductive Dp (K:aL) (H:Hp):V->ig->Prop
 |non:Dp K H .non .none
 |bl (b:Bool):Dp K H (.bl b) (.bool b)
 |int (i:Int):Dp K H (.int i) (.int i)
 |str (x:ag):Dp K H (.str x) (.str x)
 |lst {a:aa} {xs:List V} {ds:List ig}:a_ K H a xs->z7 K H xs ds->Dp K H (.ref a) (.list ds)
 |tup {a:aa} {xs:List V} {ds:List ig}:lu K H a xs->z7 K H xs ds->Dp K H (.ref a) (.tuple ds)
inductive z7 (K:aL) (H:Hp):List V->List ig->Prop
 |nil:z7 K H [] []
 |cons {v:V} {vs:List V} {d:ig} {ds:List ig}:Dp K H v d->z7 K H vs ds->z7 K H (v::vs) (d::ds)
end
mutual
theorem Dp.reads(I:Inv X pins σ H s):∀(d:ig)(v:V)(u:af),Dp X.K H v d->RelV v u->∃as,oB s.heap u d as
 | .none,_,_,h,r=>by
  cases h
  cases r
  exact⟨_,oB.none⟩
 | .bool b,_,_,h,r=>by
  cases h
  cases r
  exact⟨_,oB.bool b⟩
 | .int i,_,_,h,r=>by
  cases h
  obtain⟨t,rfl⟩:=r
  exact⟨_,oB.int i t⟩
 | .str x,_,_,h,r=>by
  cases h
  obtain⟨t,rfl⟩:=r
  exact⟨_,oB.str x t⟩
 | .list ds,_,_,h,r=>by
  cases h with
  |lst hs ha=>
   cases r
   obtain⟨its,rv,⟨o,n,ho,hc,_,hd⟩,_⟩:=I.list hs
   obtain⟨as,hr⟩:=Dp.readsAll I ds _ its ha rv
   exact⟨_,oB.list ho hc hd hr⟩
 | .tuple ds,_,_,h,r=>by
  cases h with
  |tup hs ha=>
   cases r
   obtain⟨its,rv,⟨o,ho,hc,n,hd⟩,_⟩:=I.tuple hs
   obtain⟨as,hr⟩:=Dp.readsAll I ds _ its ha rv
   exact⟨_,oB.tuple ho hc hd hr⟩
 | .dict _,_,_,h,_=>by cases h
theorem Dp.readsAll(I:Inv X pins σ H s):∀(ds:List ig)(vs:List V)(us:List af),z7 X.K H vs ds->Vals vs us->∃as,ReadsAll s.heap us ds as
 |[],_,_,h,r=>by
  cases h
  cases r
  exact⟨_,ReadsAll.nil⟩
 |d::ds,_,_,h,r=>by
  cases h with
  |cons h1 h2=>
   cases r with
   |cons r1 r2=>
    obtain⟨as,q1⟩:=Dp.reads I d _ _ h1 r1
    obtain⟨bs,q2⟩:=Dp.readsAll I ds _ _ h2 r2
    exact⟨_,ReadsAll.cons q1 q2⟩
end
abbrev RD(h:aH)(c:aa)(v:Option af):Prop:=h.IsCell c v
def aic(scope sc:gF):gF:=
 {scope with names:=scope.names.map λ(n,k)=>if(k==.free&&sc.kind==.function&&sc.names.lookup n==some .cell)then(n,.cell)else(n,k)}
def dD(cells:List (ag×aa)):List (ag×fm)->List (ag×aa)->List (ag×aa)
 |[],acc=>acc
 |(n,k)::r,acc=>if k==.free then dD cells r ((n,(cells.lookup n).getD 0)::acc)else dD cells r acc
theorem u_(env:dh)(f:ag×fm->List (ag×aa)->aJ (ForInStep (List (ag×aa))))(hf:∀n k c,f (n,k) c=if k==.free then(do let a<-cellOf env n;pure (.yield ((n,a)::c)))else pure (.yield c)):
  ∀(names:List (ag×fm))(acc:List (ag×aa)),(∀y∈names,y.2=.free->∃c,env.cells.lookup y.1=some c)->forIn names acc f=pure (dD env.cells names acc)
 |[],acc,_=>by rw[va];rfl
 |(n,k)::r,acc,h=>by
  rw[z8,hf]
  have ih:=λacc=>u_ env f hf r acc λy hy=>h y (bg _ hy)
  unfold dD
  by_cases hk:(k==qJ)=true
  ·rw[ax hk,ax hk]
   obtain⟨c,hc⟩:=h (n,k) bp (by simpa using hk)
   have e:cellOf env n=pure c:=by unfold cellOf;rw[hc]
   rw[e]
   have e2:(env.cells.lookup n).getD 0=c:=by rw[hc];rfl
   rw[e2]
   exact ih _
  ·rw[aq hk,aq hk]
   exact ih _
theorem z9(h:∀y∈scope.names,y.2=.free->∃c,env.cells.lookup y.1=some c):closureFor scope env=pure (dD env.cells scope.names []):=by
 simp only[closureFor]
 rw[u_ env _ (λn k c=>rfl) scope.names [] h]
 rfl
theorem mem_lookup{α:Type}:∀{l:List (ag×α)}{n:ag}{c:α},(n,c)∈l->∃c',l.lookup n=some c'
 |(k,v)::r,n,c,h=>by
  rw[fM]
  cases hb:n==k with
  |true=>exact⟨_,rfl⟩
  |false=>
   rcases aY.mp h with e|h
   ·cases e;simp at hb
   ·exact mem_lookup h
theorem nj{cells:List (ag×aa)}:∀{names:List (ag×fm)}{acc:List (ag×aa)}{n:ag}{c:aa},(n,c)∈dD cells names acc->(n,c)∈acc\/((n,.free)∈names/\c=(cells.lookup n).getD 0)
 |[],_,_,_,h=>.inl h
 |(m,k)::r,acc,n,c,h=>by
  unfold dD at h
  split at h
  ·rename_i hk
   have hk:k=.free:=by simpa using hk
   rcases nj h with h|⟨h1,h2⟩
   ·rcases aY.mp h with e|h
    ·cases e;exact .inr ⟨hk▸bp,rfl⟩
    ·exact .inl h
   ·exact .inr ⟨bg _ h1,h2⟩
  ·rcases nj h with h|⟨h1,h2⟩
   ·exact .inl h
   ·exact .inr ⟨bg _ h1,h2⟩
theorem qK{cells:List (ag×aa)}:∀{names:List (ag×fm)}{acc:List (ag×aa)}{p:ag×aa},p∈acc->p∈dD cells names acc
 |[],_,_,h=>h
 |(m,k)::r,acc,p,h=>by
  unfold dD
  split
  ·exact qK (bg _ h)
  ·exact qK h
theorem qL{cells:List (ag×aa)}:∀{names:List (ag×fm)}{acc:List (ag×aa)}{n:ag},(n,.free)∈names->(n,(cells.lookup n).getD 0)∈dD cells names acc
 |(m,k)::r,acc,n,h=>by
  unfold dD
  rcases aY.mp h with e|h
  ·cases e
   exact qK bp
  ·split
   ·exact qL h
   ·exact qL h
theorem oC:∀{names:List (ag×fm)}{h:aH}{acc:List (ag×aa)}{x:ag}{c:aa},(x,c)∈c5 h.objs.size names acc->(x,c)∈acc\/((x,.cell)∈names/\h.objs.size<=c/\RD (jN h names) c none)
 |[],_,_,_,_,h=>.inl h
 |(n,k)::r,h,acc,x,c,hm=>by
  unfold c5 at hm
  unfold jN
  split at hm
  ·rename_i hk
   rw[ax hk]
   have hk:k=.cell:=by simpa using hk
   rw[<-eW h {cls:=.type "cell",data:=.cell none}]at hm
   rcases oC hm with hm|⟨h1,h2,h3⟩
   ·rcases aY.mp hm with e|hm
    ·cases e
     exact .inr ⟨hk▸bp,aV _,_,vb r _ _ _ (cU _ rfl),rfl⟩
    ·exact .inl hm
   ·rw[eW]at h2
    exact .inr ⟨bg _ h1,z_ h2,h3⟩
  ·rename_i hk
   rw[aq hk]
   rcases oC hm with hm|⟨h1,h2,h3⟩
   ·exact .inl hm
   ·exact .inr ⟨bg _ h1,h2,h3⟩
theorem sL:∀{names:List (ag×fm)}{n:Nat}{acc:List (ag×aa)}{p:ag×aa},p∈acc->p∈c5 n names acc
 |[],_,_,_,h=>h
 |(m,k)::r,n,acc,p,h=>by
  unfold c5
  split
  ·exact sL (bg _ h)
  ·exact sL h
theorem xh:∀{names:List (ag×fm)}{n:Nat}{acc:List (ag×aa)}{x:ag},(x,.cell)∈names->∃c,(x,c)∈c5 n names acc
 |(m,k)::r,n,acc,x,h=>by
  unfold c5
  rcases aY.mp h with e|h
  ·cases e
   exact⟨n,sL bp⟩
  ·split
   ·exact xh h
   ·exact xh h
theorem xi:∀{names:List (ag×fm)}{h:aH}{acc:List (ag×aa)}{x y:ag}{c:aa},(∀p∈acc,p.2<h.objs.size)->(∀x y c,(x,c)∈acc->(y,c)∈acc->x=y)->(x,c)∈c5 h.objs.size names acc->(y,c)∈c5 h.objs.size names acc->x=y
 |[],_,_,_,_,_,_,hi,h1,h2=>hi _ _ _ h1 h2
 |(n,k)::r,h,acc,x,y,c,hl,hi,h1,h2=>by
  unfold c5 at h1 h2
  split at h1
  ·rename_i hk
   rw[ax hk]at h2
   rw[<-eW h {cls:=.type "cell",data:=.cell none}]at h1 h2
   refine xi (h:=h.push _) (λp hp=>?_) (λx y c a b=>?_) h1 h2
   ·rw[eW]
    rcases aY.mp hp with rfl|hp
    ·exact uO _
    ·exact i7 (hl p hp)
   ·rcases aY.mp a with e|a<;>rcases aY.mp b with e'|b
    ·cases e;cases e';rfl
    ·cases e;exact absurd (hl _ b) (iT _)
    ·cases e';exact absurd (hl _ a) (iT _)
    ·exact hi _ _ _ a b
  ·rename_i hk
   rw[aq hk]at h2
   exact xi hl hi h1 h2
theorem x9{globals:aa}{closure:List (ag×aa)}{func:Option aa}{code:af}{around:dh}{builtins:aa}{Q:dh->aj->Prop}(h:Q (newEnv scope s.heap.objs.size globals (c5 (s.heap.objs.size+1) scope.names closure) qual func code (some around) builtins)
   {s with heap:=jN (s.heap.push {cls:=.type "dict",data:=.dict #[]}) scope.names}):
  wpAny M A (newFunctionEnv scope globals closure [] qual func code (some around) builtins) Q E s:=by
 simp only[newFunctionEnv,RE,de]
 refine au (wpAny_alloc ?_)
 refine au (wpAny_layCells _ (λn k c=>rfl) scope.names closure _ _ ?_)
 rw[show({s with heap:=s.heap.push {cls:=.type "dict",data:=.dict #[]}}:aj).heap.objs.size=s.heap.objs.size+1 from eW ..]
 rw[va]
 exact au (aC (aC h))
theorem qM{sc:gF}:∀{names:List (ag×fm)}{x:ag}{k:fm},(names.map λ(n,k)=>if(k==qJ&&sc.kind==.function&&sc.names.lookup n==some .cell)then(n,GQ)else(n,k)).lookup x=some k->∃k',names.lookup x=some k'/\(k=k'\/(k'=.free/\k=.cell))
 |[],_,_,h=>by simp at h
 |(n,WJ)::r,x,k,h=>by
  have ih:=@qM sc r x k
  have h':lW x ((if(WJ==qJ&&sc.kind==.function&&sc.names.lookup n==some .cell)=true then(n,GQ)else(n,WJ))::(r.map _))=some k:=h
  cases hx:x==n with
  |true=>
   simp only[fM,hx]
   by_cases hc:(WJ==qJ&&sc.kind==.function&&sc.names.lookup n==some .cell)=true
   ·rw[ax hc]at h'
    simp only[fM,hx]at h'
    cases h'
    simp only[eJ,bX]at hc
    exact⟨WJ,rfl,.inr ⟨hc.1.1,rfl⟩⟩
   ·rw[aq hc]at h'
    simp only[fM,hx]at h'
    cases h'
    exact⟨_,rfl,.inl rfl⟩
  |false=>
   simp only[fM,hx]
   by_cases hc:(WJ==qJ&&sc.kind==.function&&sc.names.lookup n==some .cell)=true
   ·rw[ax hc]at h'
    simp only[fM,hx]at h'
    exact ih h'
   ·rw[aq hc]at h'
    simp only[fM,hx]at h'
    exact ih h'
structure x_ (N:List ag) (sc scope:gF) (own:List (ag×Nat)):Prop where
 kind:scope.kind=.function
 uniq:∀y∈scope.names,scope.names.lookup y.1=some y.2
 ix:∀p∈own,N[p.2]?=some p.1
 free:∀y∈scope.names,y.2=.free->sc.names.lookup y.1=some .cell\/sc.names.lookup y.1=some .free
 own:∀y∈scope.names,y.2=.local\/y.2=.cell->y.1∈own.map (·.1)\/y.1∉N
def wipe(σ:St):List Nat->St
 |[]=>σ
 |v::vs=>(wipe σ vs).set v none
theorem nk(σ:St):∀vs:List Nat,(wipe σ vs).length=σ.length
 |[]=>rfl
 |v::vs=>by unfold wipe;rw[Rj,nk σ vs]
theorem sM{σ:St}{i:Nat}{x:V}:∀{vs:List Nat},(wipe σ vs)[i]?=some (some x)->σ[i]?=some (some x)/\i∉vs
 |[],h=>⟨h,by simp⟩
 |v::vs,h=>by
  unfold wipe at h
  by_cases hi:v=i
  ·subst hi
   by_cases hv:v<(wipe σ vs).length
   ·rw[F0 hv]at h;cases h
   ·rw[eR (by simpa using hv)]at h;cases h
  ·rw[F1 hi]at h
   obtain⟨h1,h2⟩:=sM h
   exact⟨h1,by simp only[aY,iS];exact⟨λe=>hi e.symm,h2⟩⟩
abbrev Cx.blk(X:Cx)(s:aj)(H:Hp)(scope:gF)(jw:dh)(fp:List aa):Cx:={X with s_0:=s,H_0:=H,env:=jw,outer:=X.stack,ex:=fp,fn:=λx=>scope.names.lookup x==some .cell,pn:=[],xe:=λ_ _=>False}
theorem ya(I:Inv X pins σ H s)(ok:x_ X.N X.env.scope scope own)(hN:X.N.Nodup)(hfp:∀b∈fp,tU X pins H b/\b<s.heap.objs.size):
  Inv (X.blk s H scope (eA scope (c5 (s.heap.objs.size+1) scope.names (dD X.env.cells scope.names [])) s.heap.objs.size X.env) fp) [] (wipe σ (own.map (·.2))) H {s with heap:=jN (s.heap.push {cls:=.type "dict",data:=.dict #[]}) scope.names}:=by
 have tT:∀y∈scope.names,y.2=.free->∃c,X.env.cells.lookup y.1=some c:=λy hy e=>by
  rcases ok.free y hy e with k|k
  ·exact I.ok.has _ (.inl k)
  ·exact I.ok.has _ (.inr k)
 generalize GR:eA scope (c5 (s.heap.objs.size+1) scope.names (dD X.env.cells scope.names [])) s.heap.objs.size X.env=jw
 have kp:∀b o,s.heap.get? b=some o->(jN (s.heap.push {cls:=.type "dict",data:=.dict #[]}) scope.names).get? b=some o:=λb o e=>vb _ _ _ _ (bQ _ e)
 have hL:jw.locals=s.heap.objs.size:=by rw[<-GR];rfl
 have N2:jw.cells=c5 (s.heap.objs.size+1) scope.names (dD X.env.cells scope.names []):=by rw[<-GR];rfl
 have hsc:jw.scope=aic scope X.env.scope:=by rw[<-GR];rfl
 rw[<-eW s.heap {cls:=.type "dict",data:=.dict #[]}]at N2
 have cm:∀{y c},(y,c)∈dD X.env.cells scope.names []->X.env.cells.lookup y=some c/\c<s.heap.objs.size:=λ{y c}hm=>by
  rcases nj hm with hm|⟨h1,rfl⟩
  ·cases hm
  ·obtain⟨c,hc⟩:=tT _ h1 rfl
   rw[hc]
   obtain⟨w,z⟩:=I.cell _ _ hc
   exact⟨rfl,z.lt⟩
 have mem:∀{y c},jw.cells.lookup y=some c->(X.env.cells.lookup y=some c/\c<s.heap.objs.size)\/(s.heap.objs.size+1<=c/\RD (jN (s.heap.push {cls:=.type "dict",data:=.dict #[]}) scope.names) c none):=λ{y c}e=>by
  rw[N2]at e
  rcases oC (gW e)with hm|⟨_,h2,h3⟩
  ·exact .inl (cm hm)
  ·rw[eW]at h2;exact .inr ⟨h2,h3⟩
 have look:∀{y},scope.names.lookup y=some .free->∃c,jw.cells.lookup y=some c/\X.env.cells.lookup y=some c:=λ{y}hl=>by
  have hy:(y,qJ)∈scope.names:=gW hl
  obtain⟨c',e'⟩:=mem_lookup (sL (names:=scope.names) (n:=(s.heap.push {cls:=.type "dict",data:=.dict #[]}).objs.size) (qL (cells:=X.env.cells) (acc:=[]) hy))
  rw[<-N2]at e'
  refine⟨c',e',?_⟩
  rw[N2]at e'
  rcases oC (gW e')with hm|⟨h1,_,_⟩
  ·exact(cm hm).1
  ·have:=ok.uniq _ h1
   rw[hl]at this;cases this
 have okB:(X.blk s H scope jw fp).Ok:=by
  refine⟨I.ok.mod,by show jw.scope.kind=_;rw[hsc];exact ok.kind,by show jw.globals=_;rw[<-GR];exact I.ok.glob,by show jw.builtins=_;rw[<-GR];exact I.ok.blt,by show s.heap.objs.size<=jw.locals;rw[hL];exact aV _,λy z c e1 e2=>?_,λy hy=>?_,λy c z e=>?_,I.ok.hd,I.ok.frames,.inl rfl,λb hb=>⟨?_,λy c e z=>?_⟩,I.bs,bV I.ok.Qy I.sz,λb o e hb=>?_,λb hb z=>?_,I.stack,I.My⟩
  ·have e1:jw.cells.lookup y=some c:=e1
   have e2:jw.cells.lookup z=some c:=e2
   rw[N2]at e1 e2
   refine xi (λp hp=>?_) (λy z c a b=>I.ok.inj y z c (cm a).1 (cm b).1) (gW e1) (gW e2)
   rw[eW]
   exact i7 (cm (y:=p.1) (c:=p.2) hp).2
  ·show∃c,jw.cells.lookup y=some c
   have key:∀k,jw.kindOf y=some k->(k=.cell\/k=.free)->∃c,jw.cells.lookup y=some c:=λk hk ZE=>by
    unfold dh.kindOf at hk
    rw[hsc]at hk
    obtain⟨k',e,r⟩:=qM hk
    have:k'=.cell\/k'=.free:=by
     rcases r with rfl|⟨rfl,_⟩
     ·exact ZE
     ·exact .inr rfl
    rcases this with rfl|rfl
    ·obtain⟨c,hm⟩:=xh (n:=(s.heap.push {cls:=.type "dict",data:=.dict #[]}).objs.size) (acc:=dD X.env.cells scope.names []) (gW e)
     obtain⟨c',e'⟩:=mem_lookup hm
     exact⟨c',by rw[N2];exact e'⟩
    ·obtain⟨c,h1,_⟩:=look e
     exact⟨c,h1⟩
   rcases hy with hy|hy
   ·exact key _ hy (.inl rfl)
   ·exact key _ hy (.inr rfl)
  ·have z:(scope.names.lookup y==some GQ)=true:=z
   have z:scope.names.lookup y=some .cell:=by simpa using z
   have e:jw.cells.lookup y=some c:=e
   rw[N2]at e
   rcases oC (gW e)with hm|⟨_,h2,_⟩
   ·rcases nj hm with hm|⟨h1,_⟩
    ·cases hm
    ·have q:=ok.uniq _ h1
     rw[z]at q;cases q
   ·rw[eW]at h2
    exact z_ h2
  ·show b≠jw.locals
   rw[hL];exact bS (hfp b hb).2
  ·have e:jw.cells.lookup y=some c:=e
   rcases mem e with⟨h1,_⟩|⟨h1,_⟩
   ·exact(hfp b hb).1.2.2.2.2.1 y c h1 z
   ·have h2:s.heap.objs.size+1<=b:=by rw[<-z];exact h1
    exact absurd (dS (hfp b hb).2 (z_ h2)) (iT _)
  ·rcases(hfp b hb).1.2.2.2.1 with z|z
   ·exact I.ok.Qz b o e z
   ·exact absurd (dS (ba e) (bV I.ok.Qy z)) (iT _)
  ·rcases aY.mp (I.Ks b z)with z|z
   ·exact(hfp b hb).1.2.1 z
   ·exact(hfp b hb).1.2.2.1 z
 refine⟨okB,rfl,I.bare,Un.kept kp,⟨λ_=>none,?_,λi y av e1 e2 e3=>?_⟩,λy c e=>?_,?_,λy c e=>?_,λp hp=>?_,I.hok.kept kp,by rw[nk];exact I.len⟩
 ·show GS _ jw.locals _
  rw[hL]
  exact GS.keeps (GS.new ..) λb o e=>vb _ _ _ _ e
 ·obtain⟨e2,qh⟩:=sM e2
  have Qb:scope.names.lookup y=some .free/\(jw.kindOf y=some .cell\/jw.kindOf y=some .free):=by
   have key:∀k,jw.scope.names.lookup y=some k->k=.local\/k=.cell\/k=.free->scope.names.lookup y=some .free/\(jw.kindOf y=some .cell\/jw.kindOf y=some .free):=λk hk ZE=>by
    have hk0:=hk
    rw[hsc]at hk
    obtain⟨k',e,r⟩:=qM hk
    have no:¬(k'=.local\/k'=.cell):=λhh=>by
     rcases ok.own _ (gW e) hh with e'|e'
     ·obtain⟨p,hp,hpy⟩:=aM.mp e'
      have e3:=ok.ix p hp
      have:p.1=y:=hpy
      rw[this]at e3
      exact qh (aM.mpr ⟨p,hp,zF hN e3 e1⟩)
     ·exact e' (cC e1)
    rcases r with rfl|⟨rfl,rfl⟩
    ·rcases ZE with rfl|rfl|rfl
     ·exact absurd (.inl rfl) no
     ·exact absurd (.inr rfl) no
     ·exact⟨e,.inr hk0⟩
    ·exact⟨e,.inl hk0⟩
   have e3:Vis jw.scope y:=e3
   rcases e3 with e3|e3|e3
   ·exact key _ e3 (.inl rfl)
   ·exact key _ e3 (.inr (.inl rfl))
   ·exact key _ e3 (.inr (.inr rfl))
  obtain⟨m,hn,hl⟩:=I.loc
  have aid:Vis X.env.scope y:=(ok.free _ (gW Qb.1) rfl).elim (λk=>.inr (.inl k)) (λk=>.inr (.inr k))
  obtain⟨w,r,q⟩:=hl i y av e1 e2 aid
  refine⟨w,r,.inr ⟨Qb.2,?_⟩⟩
  obtain⟨c,h1,h2⟩:=look Qb.1
  rcases q with⟨k,_⟩|⟨_,c',e',z⟩
  ·have k:X.env.scope.names.lookup y=some .local:=k
   rcases ok.free _ (gW Qb.1) rfl with k'|k'<;>rw[show X.env.scope.names.lookup y=_ from k']at k<;>cases k
  ·rw[h2]at e';cases e'
   exact⟨c,h1,z.keeps kp⟩
 ·have e:jw.cells.lookup y=some c:=e
  rcases mem e with⟨h1,_⟩|⟨_,z⟩
  ·obtain⟨w,z⟩:=I.cell y c h1
   exact⟨w,z.keeps kp⟩
  ·exact⟨_,z⟩
 ·show H jw.locals=none
  rw[hL];exact I.hok.fresh (aV _)
 ·have e:jw.cells.lookup y=some c:=e
  rcases mem e with⟨h1,_⟩|⟨h1,_⟩
  ·exact I.qw y c h1
  ·exact I.hok.fresh (z_ h1)
 ·exact absurd (show p∈([]:List (aa×aG))++[]from hp) (by simp)
theorem aba{y:V}(I:Inv X pins σ H s)(hD:H D=some (.lst xs))(hz:xs.length<az)(r:RelV y v)(h:∀s',Inv X pins σ (upd H D (.lst (xs++[y]))) s'->Q .none s'):wpAny (ay X.prog X.w) X.A (call (.builtin "list.append") [.ref D,v]) Q E s:=by
 obtain⟨Mg,its,n,ri,e⟩:=I.hok D _ hD
 have hl:=ri.length
 refine append_at (hsz:=by rw[cw];omega) e λh' sb PQ=>?_
 refine h {s with heap:=h'} (I.write (t':=s.toks) (by rw[hD];trivial) (.inl rfl) (λb u hb q=>(sb.2 b hb).trans q) ⟨_,PQ⟩ ⟨by rw[bZ];exact hz,its++[v],n+1,ri.append (.cons r .nil),?_⟩)
 rw[PQ]
 simp
def PTs(X:Cx)(ifs:List aQ)(t:TT):Prop:=
 ∀(pins:List (aa×aG))(s:aj)(σ:St)(H:Hp)(Q:Bool->Hp->Prop),Inv X pins σ H s->t σ H Q->wpAny (ay X.prog X.w) X.A (forIn ifs true λc r=>if r=true then do let ok<-uF c X.env (eval c X.env);pure (kX ok)else pure (kX r)) (TP X pins σ Q) X.xe s
def oE:TT:=λ_ H Q=>Q true H
theorem fB:PTs X [] oE:=λ_ _ _ H _ I h=>RF ⟨H,I,h⟩
theorem gX{t:TT}(h:PT X c t):PTs X [c] t:=λpins s σ H Q I hw=>wpAny_tests_one (h pins s σ H Q I hw)
theorem KG{t:aJ α}{Q Q':α->aj->Prop}(h:wpAny M A t Q (λ_ _=>False) s)(hQ:∀a s,Q a s->Q' a s):wpAny M A t Q' E s:=eM h hQ λ_ _ z=>False.elim z
theorem vc{target:aQ}{it acc:af}(I:Nat->aj->Prop)(turn:∀n s,I n s->wpAny (ay prog w) A (oi it) (λr s₁=>match r with
   |none=>R (.ok .next) s₁
   |some v=>wpAny (ay prog w) A (zJ target it v) (λ_ aaw=>wpAny (ay prog w) A (og target env v) (λ_ nV=>
     wpAny (ay prog w) A (forIn ifs true λc r=>if r=true then do let ok<-uF c env (eval c env);pure (kX ok)else pure (kX r)) (λok J_=>
      if ok=true then wpAny (ay prog w) A (eval elt env) (λx agf=>
       wpAny (ay prog w) A (call (.builtin "list.append") [acc,x]) (λ_ agg=>∃m,m<n/\I m agg) (qN (ay prog w) A env λe s'=>R (.error e) s') agf) (qN (ay prog w) A env λe s'=>R (.error e) s') J_
      else∃m,m<n/\I m J_) (qN (ay prog w) A env λe s'=>R (.error e) s') nV) (qN (ay prog w) A env λe s'=>R (.error e) s') aaw) (qN (ay prog w) A env λe s'=>R (.error e) s') s₁) (qN (ay prog w) A env λe s'=>R (.error e) s') s)(n:Nat)(h:I n s):
  codeAny (ay prog w) A (.compLoop (.ListComp elt [⟨target,iter,ifs,0⟩] scope pos) 0 it acc env) R s:=by
 refine codeAny_loop rfl I (λn s hI=>?_) n h
 show wpAny _ A ((compTurn (.ListComp elt [⟨target,iter,ifs,0⟩] scope pos) 0 it acc env).onRaise (λx=>do noteFrame x env;theTreesLotGoes x)) _ _ s
 refine wpAny_noted ?_
 rw[compTurn_list]
 refine au (F4 (au (eM (turn n s hI) (λr s₁ ZF=>?_) λ_ _ h'=>h')))
 cases r with
 |none=>exact aC ZF
 |some v=>
  refine au (eM ZF (λ_ aaw agh=>?_) λ_ _ h'=>h')
  refine au (eM agh (λ_ nV WK=>au (eM WK (λok J_ ZG=>?_) λ_ _ h'=>h')) λ_ _ h'=>h')
  cases ok with
  |false=>exact aC ⟨rfl,ZG⟩
  |true=>
   exact au (au (eM ZG (λx agf akG=>au (eM akG (λ_ agg akH=>aC (aC ⟨rfl,akH⟩)) λ_ _ h'=>h')) λ_ _ h'=>h'))
def tLc(wi:TI)(g:TG)(tt:TT)(te:TE)(vs:List Nat):TE:=λσ H Q=>wi σ H λJ H1=>∀D,H1 D=none->∃W:Nat->Nat->Hp->Prop,(∃m,W 0 m (upd H1 D (.lst [])))/\∀i m H,W i m H->(J.stop i H/\Q (.ref D) H)\/(J.go i H/\∃Nx:Hp->Prop,(∀H',Nx H'->∃m',m'<m/\W (i+1) m' H')/\∀x H',J.yP i H x H'->g x (wipe σ vs) H' λkH H2=>wipe kH vs=wipe σ vs/\tt kH H2 λb H3=>
  if b=true then te kH H3 λy H4=>∃acc,H4 D=some (.lst acc)/\acc.length<az/\Nx (upd H4 D (.lst (acc++[y])))else Nx H3)
theorem MI{Q:VK}{use:Option (af->aJ Unit)}{Qf:af->aj->Prop}(hc:X.calm=true)(hN:X.N.Nodup)(I:Inv X pins σ H s)(hi:PI X tg iter wi)(ok:x_ X.N X.env.scope scope own)(hg:∀(s:aj)(H:Hp)(C:aa)(cl:List (ag×aa))(fp:List aa),PG (X.blk s H scope (eA scope cl C X.env) fp) tg g)(ht:∀(s:aj)(H:Hp)(C:aa)(cl:List (ag×aa))(fp:List aa),PTs (X.blk s H scope (eA scope cl C X.env) fp) ifs tt)(he:∀(s:aj)(H:Hp)(C:aa)(cl:List (ag×aa))(fp:List aa),PE (X.blk s H scope (eA scope cl C X.env) fp) elt te)(hs:∀x,qB iter X.env x=pure x)(h:tLc wi g tt te (own.map (·.2)) σ H Q)(hRR:∀D C s' m H',Inv X pins σ H' s'->Q (.ref D) H'->s'.heap.Ns C m->tU X pins H' C->qO (ay X.prog X.w) X.A X.xe use Qf (.ref D) C (.ok .next) s'):
  wpAny (ay X.prog X.w) X.A (GU (.ListComp elt [⟨tg,iter,ifs,0⟩] scope pos) scope X.env pos' (Aa []) false (eval iter X.env) use) Qf X.xe s:=by
 have tT:∀y∈scope.names,y.2=.free->∃c,X.env.cells.lookup y.1=some c:=λy hy e=>by
  rcases ok.free y hy e with k|k
  ·exact I.ok.has _ (.inl k)
  ·exact I.ok.has _ (.inr k)
 refine RG (use:=use) rfl hs (z9 tT) ok.kind (λy hy e=>by rw[ok.uniq y hy,e])
  (fg (hi pins s σ H _ I h) λxv s1 hx=>fg hx λitv s2 h2=>?_)
 obtain⟨it,fp,tn,J,H2,e,I2,T,lR,f2,q⟩:=h2
 subst e
 refine oF (x9 ?_) (by show 0<=az;decide)
 generalize hD:s2.heap.objs.size=D
 have hDn:H2 D=none:=I2.hok.fresh (kO hD)
 obtain⟨W,⟨m0,w0⟩,turn⟩:=q D hDn
 generalize hs3:({s2 with heap:=s2.heap.push {cls:=.type "list",data:=.seq ([]:List af).toArray}}:aj)=s3
 have I3:Inv X pins σ (upd H2 D (.lst [])) s3:=by
  rw[<-hs3]
  refine I2.laid (t':=s2.toks) (λb o e=>bQ _ e) (kO hD) ⟨bI _,[],0,.nil,?_⟩
  rw[<-hD]
  exact cU _ rfl
 have h3:s3.heap=s2.heap.push {cls:=.type "list",data:=.seq ([]:List af).toArray}:=by rw[<-hs3]
 have sz:∀b∈fp,b<s2.heap.objs.size:=λb hb=>by
  obtain⟨o,e,_⟩:=T.obj _ _ lR b hb
  exact ba e
 have f3:∀b∈fp,tU X pins (upd H2 D (.lst [])) b/\b<s3.heap.objs.size:=λb hb=>by
  have hlt:=sz b hb
  refine⟨⟨?_,(f2 b hb).2⟩,by rw[h3,eW];exact i7 hlt⟩
  rw[aN (by rw[<-hD];exact bS hlt)]
  exact(f2 b hb).1
 have st3:tn 0 s3.heap:=T.keep _ _ _ lR λb _ o e=>by rw[h3];exact bQ _ e
 have I4:=ya I3 ok hN f3
 have pg:=hg s3 (upd H2 D (.lst [])) s3.heap.objs.size (c5 (s3.heap.objs.size+1) scope.names (dD X.env.cells scope.names [])) fp
 have pt:=ht s3 (upd H2 D (.lst [])) s3.heap.objs.size (c5 (s3.heap.objs.size+1) scope.names (dD X.env.cells scope.names [])) fp
 have pe:=he s3 (upd H2 D (.lst [])) s3.heap.objs.size (c5 (s3.heap.objs.size+1) scope.names (dD X.env.cells scope.names [])) fp
 show codeAny _ _ (.compStart (.ListComp elt [⟨tg,iter,ifs,0⟩] scope pos) 0 (.ref it) (.ref D) (eA scope (c5 (s3.heap.objs.size+1) scope.names (dD X.env.cells scope.names [])) s3.heap.objs.size X.env)) (qO (ay X.prog X.w) X.A X.xe use Qf (.ref D) s3.heap.objs.size) {s3 with heap:=jN (s3.heap.push {cls:=.type "dict",data:=.dict #[]}) scope.names}
 have nfp:∀b∈fp,(upd H2 D (.lst [])) b=none:=λb hb=>(f3 b hb).1.1
 generalize hce:eA scope (c5 (s3.heap.objs.size+1) scope.names (dD X.env.cells scope.names [])) s3.heap.objs.size X.env=ce at I4 pg pt pe⊢
 have cL:ce.locals=s3.heap.objs.size:=by subst hce;rfl
 generalize Ab:upd H2 D (.lst [])=H3 at I3 I4 pg pt pe w0 nfp f3
 generalize hs4:({s3 with heap:=jN (s3.heap.push {cls:=.type "dict",data:=.dict #[]}) scope.names}:aj)=s4 at I4⊢
 have st4:tn 0 s4.heap:=T.keep _ _ _ st3 λb _ o e=>by rw[<-hs4];exact vb _ _ _ _ (bQ _ e)
 have Cv:∀{gT:St}{H':Hp}{s':aj},Inv (X.blk s3 H3 scope ce fp) [] gT H' s'->(∀b∈fp,H' b=none)->∀b∈fp,tU (X.blk s3 H3 scope ce fp) [] H' b:=λ{gT H' s'}I' hn b hb=>
  ⟨hn b hb,(I'.ok.exf b hb).1,I'.ok.Oa b hb,.inl hb,λx c e=>(I'.ok.exf b hb).2 x c e,λp hp=>absurd (show p∈([]:List (aa×aG))++[]from hp) (by simp)⟩
 have loop:codeAny (ay X.prog X.w) X.A (.compLoop (.ListComp elt [⟨tg,iter,ifs,0⟩] scope pos) 0 (.ref it) (.ref D) ce) (qO (ay X.prog X.w) X.A X.xe use Qf (.ref D) s3.heap.objs.size) s4:=by
  refine vc (λn s'=>∃i H',Inv (X.blk s3 H3 scope ce fp) [] (wipe σ (own.map (·.2))) H' s'/\tn i s'.heap/\(∀b∈fp,H' b=none)/\W i n H') ?_ m0 ⟨0,H3,I4,st4,nfp,w0⟩
  rintro n s5 ⟨i,H5,I5,Zz,n5,w5⟩
  rcases turn i n H5 w5 with⟨stop,qq⟩|⟨go,Nx,hNx,step⟩
  ·have td:=T.done (X.blk s3 H3 scope ce fp) rfl rfl rfl hc i [] s5 _ H5 (λ_ _=>False) I5 (Cv I5 n5) Zz stop
   refine KG td λr s6⟨hr,I6⟩=>?_
   subst hr
   have I7:Inv X pins σ H5 s6:=I3.call' (ch:=fp) I6.os I6.base I6.hok I6.bare λb hb=>⟨(f3 b hb).1.2.2.2.1,(f3 b hb).1.2.1,(f3 b hb).1.2.2.2.2.1,(f3 b hb).1.2.2.2.2.2⟩
   have nC:H5 s3.heap.objs.size=none:=by
    have z:H5 ce.locals=none:=I6.free
    rw[cL]at z
    exact z
   obtain⟨m,hn,_⟩:=I6.loc
   have hn:s6.heap.Ns ce.locals m:=hn
   rw[cL]at hn
   exact hRR D s3.heap.objs.size s6 m H5 I7 qq hn (I3.Kt (aV _) nC)
  ·have ti:=T.item (X.blk s3 H3 scope ce fp) rfl rfl rfl hc i [] s5 _ H5 (λ_ _=>False) I5 (Cv I5 n5) Zz go
   refine KG ti λr s6⟨u,hr,h6⟩=>?_
   subst hr
   refine KG h6 λ_ s7⟨x,H7,I7,r7,y7,st7,n7⟩=>?_
   have I7':=I7.pinned (Cv I7 n7) (T.obj _ _ st7)
   refine KG (pg _ s7 _ H7 x u _ I7' r7 (step x H7 y7)) λ_ s8⟨σ8,H8,I8,hw8,q8⟩=>?_
   refine KG (pt _ s8 σ8 H8 _ I8 q8) λb s9⟨H9,I9,q9⟩=>?_
   have fin:∀{s':aj}{H':Hp},Inv (X.blk s3 H3 scope ce fp) ([]++xf fp s7.heap) σ8 H' s'->Nx H'->∃m,m<n/\∃i H',Inv (X.blk s3 H3 scope ce fp) [] (wipe σ (own.map (·.2))) H' s'/\tn i s'.heap/\(∀b∈fp,H' b=none)/\W i m H':=λ{s' H'}I' nx=>by
    obtain⟨m',hm,w'⟩:=hNx H' nx
    have RH:∀b∈fp,∀o,s7.heap.get? b=some o->s'.heap.get? b=some o/\H' b=none:=λb hb o e=>
     let z:=I'.pin (b,o) (iG _ (iG _ (pz hb e)))
     ⟨z.1,z.2.1⟩
    have hl:(wipe σ (own.map (·.2))).length=σ8.length:=by rw[<-hw8,nk]
    refine⟨m',hm,i+1,H',(I'.qA (pins:=[])).weak hl (λj v e=>?_),T.keep _ _ _ st7 λb hb o e=>(RH b hb o e).1,λb hb=>?_,w'⟩
    ·rw[<-hw8]at e
     exact(sM e).1
    ·obtain⟨o,e,_⟩:=T.obj _ _ st7 b hb
     exact(RH b hb o e).2
   cases b with
   |false=>
    simp only[dO,cn]at q9⊢
    exact fin I9 q9
   |true=>
    simp only[de]at q9⊢
    refine KG (pe _ s9 σ8 H9 _ I9 q9) λz XM⟨yv,Kj,I10,r10,acc,RJ,abc,nx⟩=>?_
    exact aba (X:=X.blk s3 H3 scope ce fp) I10 RJ abc r10 λs11 I11=>fin I11 nx
 exact RL loop (T.self X.A 0 _ _ _ st4 loop)
theorem gh(hc:X.calm=true)(hN:X.N.Nodup)(hi:PI X tg iter wi)(ok:x_ X.N X.env.scope scope own)(hg:∀(s:aj)(H:Hp)(C:aa)(cl:List (ag×aa))(fp:List aa),PG (X.blk s H scope (eA scope cl C X.env) fp) tg g)(ht:∀(s:aj)(H:Hp)(C:aa)(cl:List (ag×aa))(fp:List aa),PTs (X.blk s H scope (eA scope cl C X.env) fp) ifs tt)(he:∀(s:aj)(H:Hp)(C:aa)(cl:List (ag×aa))(fp:List aa),PE (X.blk s H scope (eA scope cl C X.env) fp) elt te)(hs:∀x,qB iter X.env x=pure x:=by intro _;rfl):
  PE X (.ListComp elt [⟨tg,iter,ifs,0⟩] scope pos) (tLc wi g tt te (own.map (·.2))):=by
 intro pins s σ H Q I h
 rw[eval_ListComp]
 refine MI hc hN I hi ok hg ht he hs h λD C s' m H' I' q hn f=>⟨m,hn,λZH sb=>?_⟩
 obtain⟨f0,f1,f2,f3,f4,f5⟩:=f
 exact⟨.ref D,H',I'.turned (t':=s'.toks) (λb o hb e=>(sb.2 b hb).trans e) f0 f1 f3 f4 f5,rfl,q⟩
theorem qP{y:ag}{py:cK}{agj:cK}(hc:X.calm=true)(hN:X.N.Nodup)(hy:X.N[i]?=some y)(hyl:X.env.scope.names.lookup y=some .local)(hsw:iV (.ListComp elt [⟨tg,iter,ifs,0⟩] scope pos) (some (.Name y py)) agj.line X.env=pure true)(hi:PI X tg iter wi)(ok:x_ X.N X.env.scope scope own)(hg:∀(s:aj)(H:Hp)(C:aa)(cl:List (ag×aa))(fp:List aa),PG (X.blk s H scope (eA scope cl C X.env) fp) tg g)(ht:∀(s:aj)(H:Hp)(C:aa)(cl:List (ag×aa))(fp:List aa),PTs (X.blk s H scope (eA scope cl C X.env) fp) ifs tt)(he:∀(s:aj)(H:Hp)(C:aa)(cl:List (ag×aa))(fp:List aa),PE (X.blk s H scope (eA scope cl C X.env) fp) elt te)(hs:∀x,qB iter X.env x=pure x:=by intro _;rfl):
  PS X (.Assign [.Name y py] (.ListComp elt [⟨tg,iter,ifs,0⟩] scope pos) agj) (QO (tLc wi g tt te (own.map (·.2))) (cy i)):=by
 intro pins s σ H D I h
 rw[exec_Assign_Name_used _ _ _ _ hsw]
 refine au (F4 (au ?_))
 show wpAny _ X.A (do let _<-GU (.ListComp elt [⟨tg,iter,ifs,0⟩] scope pos) scope X.env (firstIterPos [⟨tg,iter,ifs,0⟩] pos) (Aa []) false (eval iter X.env) (some (og (.Name y py) X.env))) _ _ s
 have h:tLc wi g tt te (own.map (·.2)) σ H (λx H1=>cy i x σ H1 D.nx):=h
 refine au (fg (MI (Qf:=λ_ s'=>SP X pins D .next s') hc hN I hi ok hg ht he hs h λL C s' m H' I' q hn f=>?_) λ_ s' hq=>aC (aC hq))
 show wpAny _ _ (og (.Name y py) X.env (.ref L)) _ _ _
 refine QN (C_ (v:=V.ref L) I' hN hy (.inl hyl) rfl (λs2 I2⟨a,sb,ha⟩=>?_) (.inr hyl))
 obtain⟨f0,f1,f2,f3,f4,f5⟩:=f
 have haC:C≠a:=by
  rcases ha with z|z
  ·rw[z];exact f1
  ·exactλe=>f4 y a z e.symm
 refine⟨m,hn.sameBut sb haC,λh3 sb3=>?_⟩
 exact⟨_,H',I2.turned (t':=s2.toks) (λb o hb e=>(sb3.2 b hb).trans e) f0 f1 f3 f4 f5,q⟩
theorem vd{gs:List Comprehension}{py:cK}{y:ag}{l:Nat}(hk:env.scope.kind=.function)(hy:env.scope.names.lookup y=some .local)(hl:(py.line==pos.line)=true)(ha:(scope.names.any λ(n,k)=>n==y&&(k==.local||k==.cell))=false):iV (.ListComp elt gs scope pos) (some (.Name y py)) l env=pure true:=by
 have ky:env.kindOf y=some .local:=hy
 have hb:env.blockKind=.function:=by unfold dh.blockKind;rw[hk];rfl
 unfold iV
 simp only[hb,ky,ha,aQ.pos,hl]
 rfl
def i8(N:List ag)(sc scope:gF)(own:List (ag×Nat)):Bool:=
 (match scope.kind with| .function=>true|_=>false)&&(scope.names.all λy=>decide (scope.names.lookup y.1=some y.2))&&(own.all λp=>decide (N[p.2]?=some p.1))&&
  (scope.names.all λy=>match y.2 with
   | .free=>(match sc.names.lookup y.1 with|some .cell=>true|some .free=>true|_=>false)
   | .local=>decide (y.1∈own.map (·.1))||decide (y.1∉N)
   | .cell=>decide (y.1∈own.map (·.1))||decide (y.1∉N)
   |_=>true)
theorem b_{sc:gF}(h:i8 N sc scope own=true):x_ N sc scope own:=by
 unfold i8 at h
 simp only[eJ,c_,bN]at h
 obtain⟨⟨⟨h1,h2⟩,h3⟩,h4⟩:=h
 refine⟨?_,h2,h3,λy hy e=>?_,λy hy e=>?_⟩
 ·split at h1
  ·assumption
  ·cases h1
 ·have q:=h4 y hy
  simp only[e]at q
  split at q<;>first|exact .inl (by assumption)|exact .inr (by assumption)|cases q
 ·have q:=h4 y hy
  rcases e with e|e<;>(simp only[e,oG,bN]at q;exact q)
section
variable{t0 i0 t1 i1:aQ}{anI anJ:List aQ}{it acc:af}
end
section
variable{κ:Type} [DecidableEq κ]
def iI(bG:List (κ×V))(k:κ):Option V:=(bG.find? λkv=>decide (kv.1=k)).map (·.2)
def putK(bG:List (κ×V))(k:κ)(v:V):List (κ×V):=
 if(bG.any λkv=>decide (kv.1=k))=true then bG.map (λkv=>if kv.1=k then(kv.1,v)else kv)else bG++[(k,v)]
def ZZ(bG:List (κ×V))(k:κ):List (κ×V):=bG.filter λkv=>decide (kv.1≠k)
theorem ve{k:κ}:iI ([]:List (κ×V)) k=none:=rfl
theorem ij{p:κ×V}{r:List (κ×V)}{k:κ}(e:p.1=k):iI (p::r) k=some p.2:=by simp[iI,oH,e]
theorem ik{p:κ×V}{r:List (κ×V)}{k:κ}(e:¬p.1=k):iI (p::r) k=iI r k:=by simp[iI,oH,e]
theorem oI(k:κ):∀bG:List (κ×V),(bG.any λkv=>decide (kv.1=k))=(iI bG k).isSome
 |[]=>rfl
 |p::r=>by
  rw[kU]
  by_cases e:p.1=k
  ·simp only[ij e,qr e,RM,RE]
  ·rw[ik e,fG e,vf];exact oI k r
theorem GV(k j:κ)(y:V):∀bG:List (κ×V),iI (bG.map λkv=>if kv.1=k then(kv.1,y)else kv) j=(iI bG j).map λx=>if j=k then y else x
 |[]=>rfl
 |p::r=>by
  have ih:=GV k j y r
  rw[bb]
  by_cases h:p.1=k
  ·rw[ax h]
   by_cases e:p.1=j
   ·rw[ij (p:=(p.1,y)) e,ij e,gJ,ax (e.symm.trans h)]
   ·rw[ik (p:=(p.1,y)) e,ik e,ih]
  ·rw[aq h]
   by_cases e:p.1=j
   ·rw[ij (p:=p) e,ij e,gJ,aq (λz=>h (e.trans z))]
   ·rw[ik (p:=p) e,ik e,ih]
theorem Dj(k j:κ)(y:V):∀bG:List (κ×V),iI bG k=none->iI (bG++[(k,y)]) j=if j=k then some y else iI bG j
 |[],_=>by
  by_cases e:k=j
  ·rw[ax e.symm];exact ij (p:=(k,y)) e
  ·rw[aq (λz=>e z.symm)];exact ik (p:=(k,y)) e
 |p::r,hn=>by
  rw[i9]
  have hk:¬p.1=k:=λz=>by rw[ij z]at hn;cases hn
  rw[ik hk]at hn
  have ih:=Dj k j y r hn
  by_cases e:p.1=j
  ·rw[ij e,ij e,aq (λz=>hk (e.trans z))]
  ·rw[ik e,ik e,ih]
theorem vg(bG:List (κ×V))(k j:κ)(y:V):iI (putK bG k y) j=if j=k then some y else iI bG j:=by
 unfold putK
 by_cases a:(bG.any λkv=>decide (kv.1=k))=true
 ·rw[ax a,GV]
  rw[oI]at a
  by_cases e:j=k
  ·obtain⟨x,hx⟩:=Gq.mp a
   rw[ax e,e,hx,gJ,ax rfl]
  ·rw[aq e]
   cases iI bG j with
   |none=>rfl
   |some x=>rw[gJ,aq e]
 ·rw[aq a]
  refine Dj k j y bG ?_
  rw[oI]at a
  cases q:iI bG k with
  |none=>rfl
  |some x=>rw[q]at a;exact(a rfl).elim
theorem qQ(bG:List (κ×V))(k:κ)(v:V):(putK bG k v).length<=bG.length+1:=by
 unfold putK
 split
 ·rw[aA];omega
 ·rw[bZ,aS,qR];omega
theorem GW{bG:List (κ×V)}{k:κ}(v:V)(h:iI bG k=none):putK bG k v=bG++[(k,v)]:=by
 unfold putK
 rw[oI,h]
 exact aq dd
theorem qi.oJ{o:Option V}{u:Option af}(r:qi o u):o.isSome=u.isSome:=by
 cases o with
 |none=>cases u with
  |none=>rfl
  |some _=>exact(show False from r).elim
 |some _=>cases u with
  |none=>exact(show False from r).elim
  |some _=>rfl
theorem qi.getD{o:Option V}{u:Option af}{d:V}{d':af}(r:qi o u)(rd:RelV d d'):RelV (o.getD d) (u.getD d'):=by
 cases o with
 |none=>cases u with
  |none=>exact rd
  |some _=>exact(show False from r).elim
 |some _=>cases u with
  |none=>exact(show False from r).elim
  |some _=>exact r
theorem KV.val{bG:List (κ×V)}{vs:List (κ×af)}(r:KV bG vs)(k:κ):qi (iI bG k) (oK vs k):=by
 unfold KV at r
 induction r with
 |nil=>exact qD
 |@cons p q ps qs h t ih=>
  obtain⟨h1,h2⟩:=h
  by_cases e:p.1=k
  ·have e':q.1=k:=h1.symm.trans e
   have b:oK (q::qs) k=some q.2:=by simp[oK,oH,e']
   rw[ij e,b];exact h2
  ·have e':¬q.1=k:=λz=>e (h1.trans z)
   have b:oK (q::qs) k=oK qs k:=by simp[oK,oH,e']
   rw[ik e,b];exact ih
theorem KV.any{bG:List (κ×V)}{vs:List (κ×af)}(r:KV bG vs)(k:κ):(bG.any λkv=>decide (kv.1=k))=vs.any λkv=>decide (kv.1=k):=by
 unfold KV at r
 induction r with
 |nil=>rfl
 |cons h t ih=>rw[kU,kU,ih,h.1]
theorem KV.repl{bG:List (κ×V)}{vs:List (κ×af)}(r:KV bG vs)(k:κ){y:V}(ry:RelV y u):
  KV (bG.map λkv=>if kv.1=k then(kv.1,y)else kv) (vs.map λkv=>if kv.1=k then(kv.1,u)else kv):=by
 unfold KV at r⊢
 induction r with
 |nil=>exact .nil
 |@cons p q ps qs h t ih=>
  rw[bb,bb]
  refine .cons ?_ ih
  obtain⟨h1,h2⟩:=h
  by_cases e:p.1=k
  ·rw[ax e,ax (h1.symm.trans e)];exact⟨h1,ry⟩
  ·rw[aq e,aq (λz=>e (h1.trans z))];exact⟨h1,h2⟩
theorem KV.put{bG:List (κ×V)}{vs:List (κ×af)}(r:KV bG vs)(k:κ){y:V}(ry:RelV y u):KV (putK bG k y) (stored vs k u):=by
 unfold putK stored
 rw[r.any k]
 by_cases e:(vs.any λkv=>decide (kv.1=k))=true
 ·rw[ax e,ax e];exact r.repl k ry
 ·rw[aq e,aq e];exact Paired.snoc r ⟨rfl,ry⟩
theorem KV.drop{bG:List (κ×V)}{vs:List (κ×af)}(r:KV bG vs)(k:κ):KV (ZZ bG k) (without vs k):=by
 unfold KV at r⊢
 unfold ZZ without
 induction r with
 |nil=>exact .nil
 |@cons p q ps qs h t ih=>
  obtain⟨h1,h2⟩:=h
  rw[i_,i_]
  by_cases e:p.1=k
  ·have a:¬decide (p.1≠k)=true:=by simp[e]
   have b:¬decide (q.1≠k)=true:=by simp[h1.symm.trans e]
   rw[aq a,aq b];exact ih
  ·have e':¬q.1=k:=λz=>e (h1.trans z)
   have a:decide (p.1≠k)=true:=by simp[e]
   have b:decide (q.1≠k)=true:=by simp[e']
   rw[ax a,ax b];exact .cons ⟨h1,h2⟩ ih
theorem KV.keys{bG:List (κ×V)}{vs:List (κ×af)}(r:KV bG vs):bG.map (·.1)=vs.map (·.1):=by
 unfold KV at r
 induction r with
 |nil=>rfl
 |cons h t ih=>rw[bb,bb,ih,h.1]
theorem KV.length{bG:List (κ×V)}{vs:List (κ×af)}(r:KV bG vs):bG.length=vs.length:=Paired.length r
end
theorem GX{k:Key}(r:RelV (kV k) u):(iF P w).is k u=true:=by
 cases k with
 |inl i=>obtain⟨t,e⟩:=(show∃t,u=eL i t from r);subst e;exact FQ P w i t
 |inr x=>obtain⟨t,e⟩:=(show∃t,u=zA x t from r);subst e;exact FR P w x t
theorem Dl{P:cQ}{w:bC}:∀{ks:List Bool}{us:List af},Vals (ks.map V.bl) us->ItemsAre (n8 P w) ks us
 |[],_,r=>by rw[gH]at r;cases r;exact .nil
 |k::ks,_,r=>by
  rw[bb]at r
  cases r with
  |cons h t=>exact .cons ((by cases h;exact f9 _)) (Dl t)
abbrev KT(H:Hp):List (List Bool×V)->List (List Bool×aa×af)->Prop:=Paired λp q=>p.1=q.1/\H q.2.1=some (.tup (p.1.map V.bl))/\RelV p.2 q.2.2
theorem KT.val{xs:List (List Bool×aa×af)}(r:KT H bG xs)(k:List Bool):qi (iI bG k) ((kY xs k).map (·.2)):=by
 induction r with
 |nil=>exact qD
 |@cons p q ps qs h t ih=>
  obtain⟨h1,_,h2⟩:=h
  by_cases e:p.1=k
  ·have e':q.1=k:=h1.symm.trans e
   have b:kY (q::qs) k=some q.2:=by simp[kY,oH,e']
   rw[ij e,b];exact h2
  ·have e':¬q.1=k:=λz=>e (h1.trans z)
   have b:kY (q::qs) k=kY qs k:=by simp[kY,oH,e']
   rw[ik e,b];exact ih
theorem KT.repl{xs:List (List Bool×aa×af)}(r:KT H bG xs)(k:List Bool){y:V}(ry:RelV y u):
  KT H (bG.map λkv=>if kv.1=k then(kv.1,y)else kv) (xs.map (putAt k u)):=by
 induction r with
 |nil=>exact .nil
 |@cons p q ps qs h t ih=>
  rw[bb,bb]
  refine .cons ?_ ih
  obtain⟨h1,h2,h3⟩:=h
  unfold putAt
  by_cases e:p.1=k
  ·rw[ax e,ax (h1.symm.trans e)];exact⟨h1,h2,ry⟩
  ·rw[aq e,aq (λz=>e (h1.trans z))];exact⟨h1,h2,h3⟩
theorem KT.put{xs:List (List Bool×aa×af)}(r:KT H bG xs)(k:List Bool){y:V}(hb:H b=some (.tup (k.map V.bl)))(ry:RelV y u):
  KT H (putK bG k y) (storedH xs k b u):=by
 have e:(bG.any λkv=>decide (kv.1=k))=(kY xs k).isSome:=by
  rw[oI,(r.val k).oJ,GY]
 unfold putK storedH
 rw[e]
 by_cases q:(kY xs k).isSome=true
 ·rw[ax q,ax q];exact r.repl k ry
 ·rw[aq q,aq q];exact Paired.snoc r ⟨rfl,hb,ry⟩
theorem KT.keeps{xs:List (List Bool×aa×af)}(r:KT H bG xs)(ht:∀b ys,H b=some (.tup ys)->H' b=some (.tup ys)):KT H' bG xs:=
 Paired.uD r λ_ _ z=>⟨z.1,ht _ _ z.2.1,z.2.2⟩
theorem Z0{u:HO}(ok:qv P w H h)(e:Rd H a u):fZ P w H h a u:=e.ok ok
theorem GZ{bG:List (Key×V)}(ok:qv P w H h)(e:Rd H a (.dK bG)):bG.length<=az/\(a==jz)=false/\∃vs,KV bG vs/\h.DictOf (iF P w) a vs:=
 show fZ P w H h a (.dK bG)from Z0 ok e
theorem aen{bG:List (Key×V)}(ok:qv P w H h)(e:H a=some (.dK bG)):bG.length<=az/\(a==jz)=false/\∃vs,KV bG vs/\h.DictOf (iF P w) a vs:=GZ ok (.inl e)
theorem Ac{ks:List Bool}(ok:qv P w H h)(e:H a=some (.tup (ks.map V.bl))):(uC (n8 P w)).is h ks a:=by
 obtain⟨_,its,r,o,h1,h2,n,h3⟩:=(show fZ P w H h a (.tup (ks.map V.bl))from ok a _ e)
 exact⟨o,its.toArray,n,h1,h2,h3,by simpa using Dl r⟩
theorem G0(ok:qv P w H h)(e:Rd H a (.dT bG)):bG.length<=az/\(a==jz)=false/\∃xs,KT H bG xs/\h.DictOfH (uC (n8 P w)) a xs:=by
 obtain⟨z,y,xs,r,o,es,ep,h1,h2,h3,h4,h5⟩:=(show fZ P w H h a (.dT bG)from Z0 ok e)
 refine⟨z,y,xs,r,o,es,ep,h1,h2,h3,h4,λx hx=>?_,h5⟩
 have all:∀{l:List (List Bool×V)}{m:List (List Bool×aa×af)},KT H l m->∀x∈m,(uC (n8 P w)).is h x.1 x.2.1:=by
  intro l m q
  induction q with
  |nil=>intro x hx;exact nomatch hx
  |@cons p q ps qs hq t ih=>
   intro x hx
   rcases aY.mp hx with e|hx
   ·subst e
    exact Ac ok (by rw[<-hq.1];exact hq.2.1)
   ·exact ih x hx
 exact all r x hx
theorem aeo(ok:qv P w H h)(e:H a=some (.dT bG)):bG.length<=az/\(a==jz)=false/\∃xs,KT H bG xs/\h.DictOfH (uC (n8 P w)) a xs:=G0 ok (.inl e)
def tW(H:Hp)(a:aa)(y:V)(r:Option V):Prop:=
 (∃bG k,Rd H a (.dK bG)/\y=kV k/\r=iI bG k)\/∃bG k b,Rd H a (.dT bG)/\y=.ref b/\H b=some (.tup (k.map V.bl))/\r=iI bG k
def KH(H:Hp)(a:aa)(y v:V)(H':Hp):Prop:=
 (∃bG k,H a=some (.dK bG)/\y=kV k/\bG.length<az/\H'=upd H a (.dK (putK bG k v)))\/∃bG k b,H a=some (.dT bG)/\y=.ref b/\H b=some (.tup (k.map V.bl))/\bG.length<az/\H'=upd H a (.dT (putK bG k v))
theorem tW.k{H:Hp}{a:aa}{bG:List (Key×V)}{k:Key}(e:H a=some (.dK bG)):tW H a (kV k) (iI bG k):=.inl ⟨bG,k,.inl e,rfl,rfl⟩
theorem tW.t{k:List Bool}(e:H a=some (.dT bG))(eb:H b=some (.tup (k.map V.bl))):tW H a (.ref b) (iI bG k):=.inr ⟨bG,k,b,.inl e,rfl,eb,rfl⟩
theorem KH.k{H:Hp}{a:aa}{bG:List (Key×V)}{k:Key}{v:V}(e:H a=some (.dK bG))(hl:bG.length<az):KH H a (kV k) v (upd H a (.dK (putK bG k v))):=.inl ⟨bG,k,e,rfl,hl,rfl⟩
theorem KH.t{k:List Bool}{v:V}(e:H a=some (.dT bG))(eb:H b=some (.tup (k.map V.bl)))(hl:bG.length<az):
  KH H a (.ref b) v (upd H a (.dT (putK bG k v))):=.inr ⟨bG,k,b,e,rfl,eb,hl,rfl⟩
section
variable{y v:V}{r:af}{o:Option V}
theorem Inv.big(I:Inv X pins σ H s):jz<s.heap.objs.size:=by
 have h:cv<s.heap.objs.size:=(I.mod.glob.keeps I.bk).lt
 exact l9 dd h
theorem Oj(hu:A.units+1<cp)(I:Inv X pins σ H s)(g:tW H a y (some v))(ry:RelV y u)(h:∀w' s',Inv X pins σ H s'->RelV v w'->Q w' s'):
  wpAny (ay X.prog X.w) A (oy (.ref a) u) Q E s:=by
 rcases g with⟨bG,k,e,ey,l⟩|⟨bG,k,b,e,ey,eb,l⟩
 ·subst ey
  obtain⟨z,hd,vs,rel,dd⟩:=GZ I.hok e
  obtain⟨w',hw,kQ⟩:=qi.some_of (v:=v) (o:=oK vs k) (by rw[l];exact rel.val k)
  exact wpAny_getItem_of (GX ry) dd.mapOf hw (h w' _ (I.tok _) kQ)
 ·subst ey
  cases(show u=aK b from ry)
  obtain⟨z,hd,xs,rel,dd⟩:=G0 I.hok e
  obtain⟨w',hw,kQ⟩:=qi.some_of (v:=v) (o:=(kY xs k).map (·.2)) (by rw[l];exact rel.val k)
  obtain⟨p,hp,w6⟩:=u7.mp hw
  refine wpAny_getItem_heap (Ad hu) (Ac I.hok eb) dd hp ?_
  rw[w6]
  exact h w' _ (I.tok _) kQ
theorem aij(hu:A.units+1<cp)(I:Inv X pins σ H s)(g:tW H a y o)(ry:RelV y u)(h:∀s',Inv X pins σ H s'->Q (.bool o.isSome) s'):
  wpAny (ay X.prog X.w) A (fh .In u (.ref a)) Q E s:=by
 rcases g with⟨bG,k,e,ey,l⟩|⟨bG,k,b,e,ey,eb,l⟩
 ·subst ey
  obtain⟨z,hd,vs,rel,dd⟩:=GZ I.hok e
  refine wpAny_in_of (GX ry) hd dd.mapOf ?_
  rw[<-(rel.val k).oJ,<-l]
  exact h _ (I.tok _)
 ·subst ey
  cases(show u=aK b from ry)
  obtain⟨z,hd,xs,rel,dd⟩:=G0 I.hok e
  refine wpAny_in_heap (Ad hu) (Ac I.hok eb) hd dd ?_
  have q:=(rel.val k).oJ
  rw[GY]at q
  rw[<-q,<-l]
  exact h _ (I.tok _)
theorem XN(hu:A.units+1<cp)(I:Inv X pins σ H s)(g:tW H a y o)(ry:RelV y u)(h:∀s',Inv X pins σ H s'->Q (.bool (!o.isSome)) s'):
  wpAny (ay X.prog X.w) A (fh .NotIn u (.ref a)) Q E s:=by
 rcases g with⟨bG,k,e,ey,l⟩|⟨bG,k,b,e,ey,eb,l⟩
 ·subst ey
  obtain⟨z,hd,vs,rel,dd⟩:=GZ I.hok e
  refine wpAny_notIn_of (GX ry) hd dd.mapOf ?_
  rw[<-(rel.val k).oJ,<-l]
  exact h _ (I.tok _)
 ·subst ey
  cases(show u=aK b from ry)
  obtain⟨z,hd,xs,rel,dd⟩:=G0 I.hok e
  refine wpAny_notIn_heap (Ad hu) (Ac I.hok eb) hd dd ?_
  have q:=(rel.val k).oJ
  rw[GY]at q
  rw[<-q,<-l]
  exact h _ (I.tok _)
theorem MJ{ob:HO}(I:Inv X pins σ H s)(mu:Mut (H a))(hs:zG a s.heap h')(he:∃q,h'.get? a=some q)(new:fZ X.prog X.w (upd H a ob) h' a ob):
  Inv X pins σ (upd H a ob) {s with heap:=h',toks:=t'}:=
 I.write (x:=a) (e:=a) mu (.inl rfl) (λb q hb z=>(hs.2 b hb).trans z) he new
theorem abd{bG:List (Key×V)}{vs:List (Key×af)}(z:bG.length<=az)(hd:(a==jz)=false)(rel:KV bG vs)(dd:h'.DictOf (iF P w) a vs):
  fZ P w H' h' a (.dK bG):=⟨z,hd,vs,rel,dd⟩
theorem Ol{Q:Unit->aj->Prop}(hu:A.units+1<cp)(I:Inv X pins σ H s)(g:KH H a y v H')(ry:RelV y u)(rv:RelV v r)(h:∀s',Inv X pins σ H' s'->Q () s'):
  wpAny (ay X.prog X.w) A (setItem (.ref a) u r) Q E s:=by
 rcases g with⟨bG,k,e,ey,l,eH⟩|⟨bG,k,b,e,ey,eb,l,eH⟩
 ·subst ey eH
  obtain⟨z,hd,vs,rel,dd⟩:=aen I.hok e
  have hz:vs.length<=az:=by rw[<-rel.length];exact z
  have hl:(putK bG k v).length<=az:=by have:=qQ bG k v;omega
  refine wpAny_setItem_pairs (hsz:=hz) (GX ry) dd λh' dd' hs=>h _ ?_
  have he:∃q,h'.get? a=some q:=let⟨q,_,_,hq,_⟩:=dd';⟨q,hq⟩
  exact MJ I (by rw[e];exact qD) hs he (abd hl hd (rel.put k rv) dd')
 ·subst ey eH
  cases(show u=aK b from ry)
  obtain⟨z,hd,xs,rel,dd⟩:=aeo I.hok e
  have hz:xs.length<=az:=by rw[<-Paired.length rel];exact z
  have hl:(putK bG k v).length<=az:=by have:=qQ bG k v;omega
  refine wpAny_setItem_heap (hsz:=hz) (Ad hu) (Ac I.hok eb) dd λh' dd' hs=>h _ ?_
  obtain⟨q,es,ep,hq,h2,h3,h4,_,h5⟩:=dd'
  refine MJ I (by rw[e];exact qD) hs ⟨q,hq⟩ ⟨hl,hd,_,(rel.put k eb rv).keeps λc ys ec=>?_,q,es,ep,hq,h2,h3,h4,h5⟩
  rw[aN (adX ec e (λz=>nomatch z))]
  exact ec
end
section
variable{bG:List (Key×V)}{k:Key}
end
def aep(i:aQ):Prop:=∀ov iv,zW i false ov iv=operate [ov,iv] (oy ov iv)
theorem XO{value slice:aQ}{id:String}(hl:uT (.type T) "__getitem__"=pure (some (.builtin id)))(hs:aep slice)(h:wpAny (ay prog w) A (eval value env) (λo s₁=>wpAny (ay prog w) A (eval slice env) (λi nV=>nV.TypeIs o T/\wpAny (ay prog w) A (oy o i) Q E nV) E s₁) E s):
  wpAny (ay prog w) A (eval (.Subscript value slice pos) env) Q E s:=by
 refine zV (eM h (λo s₁ ZF=>eM ZF (λi nV WK=>?_) λ_ _ x=>x) λ_ _ x=>x)
 obtain⟨hT,WK⟩:=WK
 unfold GB
 refine au ?_
 rw[getitemInPython_of_ne hT.not_modules]
 refine au (n6 hT hl ?_)
 have fin:wpAny (ay prog w) A (zW slice false o i) (λr J_=>wpAny (ay prog w) A (letTemporaryGo value o r>>=λ_=>pure r) Q E J_) E nV:=by
  rw[hs o i]
  exact wpAny_operating (eM WK (λr J_ ZG=>au (wpAny_letTemporaryGo (aC ZG))) λ_ _ x=>x)
 first
  |exact aC (au fin)
  |exact au (aC (au fin))
  |exact au fin
theorem G1{y:V}{o:Option V}(I:Inv X pins σ H s)(g:tW H a y o):s.TypeIs (.ref a) "dict":=by
 rcases g with⟨bG,k,e,_,_⟩|⟨bG,k,b,e,_,_,_⟩
 ·obtain⟨_,_,vs,_,dd⟩:=GZ I.hok e
  exact dd.typeIs
 ·obtain⟨_,_,xs,_,dd⟩:=G0 I.hok e
  exact dd.typeIs
def aeq(td ty:TE):TE:=λσ H Q=>td σ H λx H1=>ty σ H1 λy H2=>∃a v,x=.ref a/\tW H2 a y (some v)/\Q v H2
def aer(ty td:TE):TE:=λσ H Q=>ty σ H λy H1=>td σ H1 λx H2=>∃a o,x=.ref a/\tW H2 a y o/\Q (.bl o.isSome) H2
def XQ(ty td:TE):TE:=λσ H Q=>ty σ H λy H1=>td σ H1 λx H2=>∃a o,x=.ref a/\tW H2 a y o/\Q (.bl (!o.isSome)) H2
def aes(td ty tv:TE):TS:=λD σ H=>tv σ H λv H1=>td σ H1 λx H2=>ty σ H2 λy H3=>∃a H4,x=.ref a/\KH H3 a y v H4/\D.nx σ H4
section
variable{o i value:aQ}{td ty tv:TE}
theorem XR(hu:X.A.units+1<cp)(ho:PE X o td)(hi:PE X i ty)(hs:aep i):PE X (.Subscript o i pos) (aeq td ty):=by
 intro pins s σ H Q I h
 refine XO PySem.F.slot_dict_getitem.lookup hs (fg (ho pins s σ H _ I h) λu s1⟨x,H1,I1,rx,q1⟩=>fg (hi pins s1 σ H1 _ I1 q1) λiv s2⟨y,H2,I2,ry,a,v,ex,g,q2⟩=>?_)
 subst ex
 obtain rfl:u=aK a:=rx
 exact⟨G1 I2 g,Oj hu I2 g ry λw' s3 I3 kQ=>⟨v,H2,I3,kQ,q2⟩⟩
theorem abe(hu:X.A.units+1<cp)(hi:PE X i ty)(ho:PE X o td):PC X .In i o (aer ty td):=by
 intro pins s σ H Q I h
 refine fg (hi pins s σ H _ I h) λiv s1⟨y,H1,I1,ry,q1⟩=>fg (ho pins s1 σ H1 _ I1 q1) λu s2⟨x,H2,I2,rx,a,ov,ex,g,q2⟩=>?_
 subst ex
 obtain rfl:u=aK a:=rx
 exact aij hu I2 g ry λs3 I3=>⟨.bl ov.isSome,H2,I3,rfl,q2⟩
theorem Om(hu:X.A.units+1<cp)(hi:PE X i ty)(ho:PE X o td):PC X .NotIn i o (XQ ty td):=by
 intro pins s σ H Q I h
 refine fg (hi pins s σ H _ I h) λiv s1⟨y,H1,I1,ry,q1⟩=>fg (ho pins s1 σ H1 _ I1 q1) λu s2⟨x,H2,I2,rx,a,ov,ex,g,q2⟩=>?_
 subst ex
 obtain rfl:u=aK a:=rx
 exact XN hu I2 g ry λs3 I3=>⟨.bl (!ov.isSome),H2,I3,rfl,q2⟩
theorem XS(hu:X.A.units+1<cp)(ho:PE X o td)(hi:PE X i ty)(hv:PE X value tv)(hs:iV value (some (.Subscript o i pos')) pos.line X.env=pure false):
  PS X (.Assign [.Subscript o i pos'] value pos) (aes td ty tv):=by
 intro pins s σ H D I h
 refine wpAny_Assign_Subscript (fg (hv pins s σ H _ I h) λr s1⟨v,H1,I1,rv,q1⟩=>fg (ho pins s1 σ H1 _ I1 q1) λu s2⟨x,H2,I2,rx,q2⟩=>fg (hi pins s2 σ H2 _ I2 q2) λiv s3⟨y,H3,I3,ry,a,H4,ex,g,q3⟩=>?_) hs
 subst ex
 obtain rfl:u=aK a:=rx
 exact Ol hu I3 g ry rv λs4 I4=>⟨σ,H4,I4,q3⟩
end
theorem RN(h:aH)(hb:jz<h.objs.size):fZ P w H (h.push {cls:=.type "dict",data:=.dict #[]}) h.objs.size (.dT []):=
 ⟨bI _,fA.mpr (cJ (bS hb)),[],.nil,_,#[],0,cU _ rfl,⟨rfl,rfl,rfl⟩,rfl,rfl,l_⟩
def abf:TE:=λ_ H Q=>∀p,H p=none->Q (.ref p) (upd H p (.dT []))
theorem RO:PE X (.Dict [] [] pos) abf:=λpins s σ H Q I h=>
 wpAny_Dict_empty ⟨.ref s.heap.objs.size,_,I.laid (a:=s.heap.objs.size) (o:=.dT []) (t':=s.toks) (λ_ _ q=>bQ _ q) (aV _) (RN s.heap I.big),rfl,h _ (I.hok.fresh (aV _))⟩
def kl(bG more:List (Key×V)):List (Key×V):=more.foldl (λacc kv=>putK acc kv.1 kv.2) bG
theorem KV.merge:∀{more:List (Key×V)}{rs:List (Key×af)}{bG:List (Key×V)}{vs:List (Key×af)},KV more rs->KV bG vs->KV (kl bG more) (merged vs rs):=by
 intro more rs bG vs r
 unfold KV at r
 induction r generalizing bG vs with
 |nil=>intro q;exact q
 |@cons p q ps qs h t ih=>
  intro r0
  have e:KV (putK bG p.1 p.2) (stored vs q.1 q.2):=by
   have:=r0.put p.1 h.2
   rw[<-h.1];exact this
  exact ih e
theorem tG:∀(more bG:List (Key×V)),(kl bG more).length<=bG.length+more.length
 |[],bG=>by show bG.length<=bG.length+0;omega
 |p::r,bG=>by
  have h1:=tG r (putK bG p.1 p.2)
  have h2:=qQ bG p.1 p.2
  show(kl (putK bG p.1 p.2) r).length<=_
  rw[aS];omega
structure M1 (X:Cx) (o:aQ) (m:ag) (apos:cK) (e:aQ) (lr:cK):Prop where
 base:ou o m X.env (eval o X.env)=eval o X.env
 few:((b9 lr (aU [e] X.env)).all (λx=>!x.1)&&(jI lr (jJ [] X.env)).all (λx=>x.1.isSome)
  &&decide (([e]:List aQ).length+([]:List iY).length+(if([]:List iY).isEmpty then 0 else 1)<30))=true
 line:(apos.endLine==lr.line)=true
 trees:b9 lr (aU [e] X.env)=[(false,eval e X.env)]
structure M2 (X:Cx) (o:aQ) (m:ag) (apos:cK) (e f:aQ) (lr:cK):Prop where
 base:ou o m X.env (eval o X.env)=eval o X.env
 few:((b9 lr (aU [e,f] X.env)).all (λx=>!x.1)&&(jI lr (jJ [] X.env)).all (λx=>x.1.isSome)
  &&decide (([e,f]:List aQ).length+([]:List iY).length+(if([]:List iY).isEmpty then 0 else 1)<30))=true
 line:(apos.endLine==lr.line)=true
 trees:b9 lr (aU [e,f] X.env)=[(false,eval e X.env),(false,eval f X.env)]
section
variable{y d:V}{r:af}{o:Option V}
end
section
variable{o f:aQ}{td ty tx:TE}
end
section
variable{bG:List (Key×V)}
end
section
variable{y:V}
end
theorem Ae:uT (.type "list") "keys"=pure none:=am_miss_of_fast (by first|decide+kernel|rfl)
theorem G2:Af table "dict.update.loop"=some cR.«dict.update.loop»:=RP (by kernel_rfl)
theorem qS:plainId "dict.update.loop"=true:=by decide+kernel
theorem Oo{o:aG}{xs:Array af}{k:Nat}{Q:Option af->aj->Prop}(hx:s.heap.get? a=some o)(hc:o.cls=.type "list")(Mi:o.data=.seq xs k)(hd:o.dict=none)(hA:A.handled=none)(h:∀h' tk,(∀b ob,s.heap.get? b=some ob->h'.get? b=some ob)->Q none {s with heap:=h',toks:=tk}):wpAny (ay prog w) A (getAttr? (.ref a) "keys") Q E s:=by
 obtain⟨c,dct,dat,sl⟩:=o
 simp only at hc Mi hd
 subst hc Mi hd
 obtain⟨hp,g,d,tk,os⟩:=s
 have hT:∀Xg,(⟨hp,g,d,Xg,os⟩:aj).TypeIs (.ref a) "list":=λ_=>⟨_,hx,rfl⟩
 have agl:=Ae
 have agm:(["__module__","__name__","__qualname__","__doc__","__annotations__"]:List ag).contains "keys"=false:=by decide+kernel
 have hsz:("keys":ag).length+100<=az:=by first|size_fits|decide+kernel
 have f1:=sub_AttributeError
 have f3:=G3.lookup
 have f4:=G3.bind (.ref a)
 have f5:=am_list_getattr_none
 unfold getAttr? getAttrBy? getAttrBy
 repeat(any_goals(first|assumption|exact hT _|((with_reducible show wpAny _ _ (call (Qt "list.__getattribute__") _ _) _ _ _);refine kW G3 (hT _) am_entry_list_getattribute (PySem.F.args_list_getattribute_2 _ _) (meets_getattribute_miss_list a xs k sl "keys" _ agl agm hsz) ⟨hx,hA,λh' Xg e hx'=>?_⟩)|wp_step))
 obtain⟨t',u',he⟩:=hx'.there
 show wpAny _ _ (RR _ _ _ _ _ _ _) _ _ _
 unfold RR
 repeat(any_goals(first|assumption|wp_step))
 all_goals first|exact h _ _ hx'.keeps|(dsimp only;repeat(any_goals(first|assumption|exact h _ _ hx'.keeps|wp_step)))
theorem G4{R:Result->aj->Prop}{S I l:aa}{items:Array af}{res:af}(hh:A.handled=none)(hlI:l≠I)(hSI:S≠I)(hSl:S≠l):
  ∀(rest:List (Key×af))(i:Nat)(acc:List (Key×af))(ix:Int)(t:dR)(s:aj),items.size=i+rest.length->acc.length+rest.length<=az->(∀(j:Nat)(q:Key×af),rest[j]?=some q->∃(b:aa)(u:af),items[i+j]?=some (.ref b)/\b≠S/\b≠I/\n9 s.heap b #[u,q.2]/\uB q.1 u=true)->s.heap.IsListIter I l i->s.heap.IsList l items->s.heap.DictOf (iF prog w) S acc->(∀h' tk,h'.DictOf (iF prog w) S (merged acc rest)->(∀b o,b≠S->b≠I->s.heap.get? b=some o->h'.get? b=some o)->R (.ok (.ret res)) {s with heap:=h',toks:=tk})->codeAny (ay prog w) A (.builtin "dict.update.loop" ⟨[.ref S,.ref I,.int ix t,res],[]⟩) R s
 |[],i,acc,ix,t,s,hsz,XT,ht,hit,hl,hm,hR=>by
  refine gK G2 ?_
  rw[jO qS _]
  show wpAny _ A.in1 (oi (.ref I)>>=_) _ _ s
  refine au (QU (A:=A.in1) hh hit hl (by first|exact qT (kO hsz)|(simp at hsz;simp;omega)) λh' he=>?_)
  show wpAny _ A.in1 (cR.Dict.addKeywords S []>>=_) _ _ _
  refine au (aC (aC ?_))
  exact hR h' s.toks (hm.extBut he hSI) λb o _ hb e=>he b o hb e
 |q::rest,i,acc,ix,t,s,hsz,XT,ht,hit,hl,hm,hR=>by
  obtain⟨b,u,hb,hbS,ZI,akM,hk⟩:=ht 0 q rfl
  rw[aS]at hsz XT
  refine gK G2 ?_
  rw[jO qS _]
  show wpAny _ A.in1 (oi (.ref I)>>=_) _ _ s
  refine au (QT (x:=.ref b) hit hl (by simpa using hb) λh1 akN Kc=>?_)
  have Qc:n9 h1 b #[u,q.2]:=akM.extBut Kc.extBut ZI
  have Kr:h1.IsList l items:=hl.extBut Kc.extBut hlI
  have PX:h1.DictOf (iF prog w) S acc:=hm.extBut Kc.extBut hSI
  obtain⟨o,ho,hc,n,hd⟩:=id Qc
  show wpAny _ A.in1 (h_ [aK b] _>>=_) _ _ _
  refine au (fj ?_)
  refine au (Ag ?_)
  unfold cR.Dict.pairItems
  refine au (ma (T:="tuple") ⟨o,ho,hc⟩ ?_)
  rw[ax (by first|decide|rfl|simp)]
  refine au (vh ho hd (aC ?_))
  show wpAny _ A.in1 (h_ [u,q.2] (dictSet S u q.2)) _ _ _
  refine fj (wpAny_dictSet_pairs (knd:=iF prog w) (k:=q.1) hk PX (λh2 w_ Me=>?_) oo)
  refine aC ⟨gi qS _,G4 (items:=items) hh hlI hSI hSl rest (i+1) (stored acc q.1 q.2) (ix+1) 0 _ (show items.size=i+1+rest.length by omega) ?_ (λj q' e=>?_) ?_ ?_ w_ λh' tk lD k=>?_⟩
  ·have z:=stored_length_le acc q.1 q.2
   omega
  ·obtain⟨b',u',Ec,aet,aeu,aev,ZE⟩:=ht (j+1) q' (by simpa using e)
   refine⟨b',u',?_,aet,aeu,(aev.extBut Kc.extBut aeu).extBut Me.extBut aet,ZE⟩
   rw[show i+1+j=i+(j+1) by omega]
   exact Ec
  ·exact akN.at λo' e=>Me.extBut I o' (cJ hSI) e
  ·exact Kr.extBut Me.extBut (cJ hSl)
  ·exact hR h' tk lD λc oc h3 h4 e=>k c oc h3 h4 (Me.extBut c oc h3 (Kc.extBut c oc h4 e))
theorem yy{ol:aG}{prs:List (Key×af)}(hh:A.handled=none)(hl:s.heap.get? l=some ol)(hc:ol.cls=.type "list")(hd:ol.dict=none)(Mi:ol.data=.seq items n)(hsz:items.size=prs.length)(XT:prs.length<=az)(ht:∀(j:Nat)(q:Key×af),prs[j]?=some q->∃(b:aa)(u:af),items[j]?=some (.ref b)/\n9 s.heap b #[u,q.2]/\uB q.1 u=true)(h:∀h' tk,h'.DictOf (iF prog w) s.heap.objs.size (merged [] prs)->(∀b o,s.heap.get? b=some o->h'.get? b=some o)->Q (.ref s.heap.objs.size) {s with heap:=h',toks:=tk}):
  wpAny (ay prog w) A (call (.type "dict") [.ref l]) Q E s:=by
 refine callType_codes (Q₁:=λobj s₁=>obj=.ref s.heap.objs.size/\s₁={s with heap:=s.heap.push {cls:=.type "dict",data:=.dict #[]}}) PySem.F.kt_called_dict (PySem.F.kt_typeCall_dict_1 _) PySem.F.entry_dict_init (kt_code_dict_new _ ⟨rfl,rfl⟩) ?_
 rintro obj s₁ ⟨rfl,rfl⟩
 have WI:(s.heap.push {cls:=.type "dict",data:=.dict #[]}).DictOf (iF prog w) s.heap.objs.size []:=aH.DictOf.new s.heap
 have k0:∀b o,s.heap.get? b=some o->(s.heap.push {cls:=.type "dict",data:=.dict #[]}).get? b=some o:=λb o e=>bQ _ e
 refine⟨WI.typeIs,PySem.F.args_dict_init_2 _ _,?_⟩
 unfold cR.«dict.__init__»
 refine au ?_
 unfold cR.Dict.selfAndRest
 refine au (wpAny_notOrdered_dict WI.typeIs ?_)
 show wpAny _ _ (pure (s.heap.objs.size,[aK l])) _ _ _
 refine aC ?_
 show wpAny _ _ (RU "dict.__init__" s.heap.objs.size (.ref l) [] .none) _ _ _
 unfold RU
 refine au (ma (T:="list") ⟨ol,k0 _ _ hl,hc⟩ ?_)
 rw[ax (by first|decide|rfl|simp)]
 refine au (Oo (k0 _ _ hl) hc Mi hd hh λh1 N3 Qe=>?_)
 rw[ax (show(none:Option af).isNone=true from rfl)]
 refine au (qu ?_)
 have Kr:h1.IsList l items:=⟨ol,Qe _ _ (k0 _ _ hl),hc,n,Mi⟩
 have WL:s.heap.objs.size<h1.objs.size:=by
  have e:(s.heap.push {cls:=.type "dict",data:=.dict #[]}).get? s.heap.objs.size=some {cls:=.type "dict",data:=.dict #[]}:=cU _ rfl
  exact ba (Qe _ _ e)
 refine au (zK Kr ?_)
 have k2:∀b o,h1.get? b=some o->(h1.push {cls:=.type "list_iterator",data:=.fields #[.ref l,.int 0 0]}).get? b=some o:=λb o e=>bQ _ e
 have hlt:l<s.heap.objs.size:=ba hl
 have key:=G4 (prog:=prog) (w:=w) (A:=A.in1) (R:=wants (λr nV=>r=.none/\Q (.ref s.heap.objs.size) nV) E) (S:=s.heap.objs.size) (I:=h1.objs.size) (l:=l) (items:=items) (res:=eh) hh
  (bS (l9 hlt WL)) (bS WL) (iW hlt) prs 0 [] 0 0
  {s with heap:=h1.push {cls:=.type "list_iterator",data:=.fields #[.ref l,.int 0 0]},toks:=N3} (by rw[hsz,dE]) (by rw[qR,dE];exact XT)
  (λj q e=>by
   obtain⟨b,u,e1,e2,e3⟩:=ht j q e
   have hb:b<s.heap.objs.size:=e2.lt
   exact⟨b,u,by rw[dE];exact e1,bS hb,bS (l9 hb WL),e2.keeps λc o z=>k2 _ _ (Qe _ _ (k0 _ _ z)),e3⟩)
  ⟨_,cU _ rfl,rfl,rfl⟩ (Kr.at λo e=>k2 _ _ e) ((WI.at λo e=>Qe _ _ e).at λo e=>k2 _ _ e)
  (λh' tk lD k=>⟨rfl,h h' tk lD λb o e=>k b o (bS (ba e)) (bS (l9 (ba e) WL)) (k2 _ _ (Qe _ _ (k0 _ _ e)))⟩)
 first
  |exact aC ⟨gi qS _,key⟩
  |exact au (aC (aC ⟨gi qS _,key⟩))
theorem G5{pins:List (aa×aG)}{σ:St}{H:Hp}{s:aj}(I:Inv X pins σ H s):∀{ps:List aa}{bG:List (Key×V)},Paired (λp kv=>lu X.K H p [kV kv.1,kv.2]) ps bG->∃prs:List (Key×af),KV bG prs/\prs.length=ps.length/\∀(j:Nat)(q:Key×af),prs[j]?=some q->∃(b:aa)(u:af),ps[j]?=some b/\n9 s.heap b #[u,q.2]/\uB q.1 u=true
 |_,_,.nil=>⟨[],.nil,rfl,λj q e=>by simp at e⟩
 |_,_,.cons (a:=p) (b:=kv) h t=>by
  obtain⟨prs,r,hl,hp⟩:=G5 I t
  obtain⟨its,rv,ht,_⟩:=I.tuple h
  obtain⟨u,y,ei,ru,ry⟩:=vals2 rv
  subst ei
  refine⟨(kv.1,y)::prs,.cons ⟨rfl,ry⟩ r,by rw[aS,aS,hl],λj q e=>?_⟩
  cases j with
  |zero=>
   have e':(kv.1,y)=q:=bO e
   subst e'
   exact⟨p,u,rfl,ht,GX (P:=X.prog) (w:=X.w) ru⟩
  |succ j=>
   obtain⟨b,u',e1,e2,e3⟩:=hp j q (by simpa using e)
   exact⟨b,u',by simpa using e1,e2,e3⟩
theorem MK:∀{ps:List aa}{us:List af},Vals (ps.map V.ref) us->us=ps.map aK
 |[],us,r=>by
  rw[gH]at r
  cases r
  rfl
 |p::ps,us,r=>by
  rw[bb]at r
  cases r with
  |cons h t=>
   cases h
   rw[bb,<-MK t]
theorem KI(ago:X.calm=true):uL X (.type "dict") (λxs H Q=>∃(a:aa)(ps:List aa)(bG:List (Key×V)),xs=[.ref a]/\a_ X.K H a (ps.map V.ref)/\Paired (λp kv=>lu X.K H p [kV kv.1,kv.2]) ps bG/\∀p,H p=none->Q (.ref p) (upd H p (.dK (kl [] bG)))):=by
 intro pins s σ H xs us Q I r q
 obtain⟨a,ps,bG,ex,hq,hp,q⟩:=q
 subst ex
 obtain⟨u,eu,rx⟩:=vals1 r
 subst eu
 cases rx
 obtain⟨its,rv,pl,hz⟩:=I.list hq
 have ei:=MK rv
 subst ei
 rw[aA]at hz
 obtain⟨prs,rel,hl,hpr⟩:=G5 I hp
 obtain⟨o,n,ho,hc,hd,Mi⟩:=pl
 refine yy (prs:=prs) (I.ok.hd ago) ho hc hd Mi (by simp[hl]) (by rw[hl];exact hz) (λj q' e=>?_) λh' tk lD k=>?_
 ·obtain⟨b,u,e1,e2,e3⟩:=hpr j q' e
  exact⟨b,u,by simp[e1],e2,e3⟩
 ·have hm:(s.heap.objs.size==jz)=false:=fA.mpr (iW I.big)
  have hlen:(kl [] bG).length<=az:=by
   refine bV (tG bG []) ?_
   rw[qR,dE,rel.length,hl]
   exact hz
  exact⟨.ref s.heap.objs.size,upd H s.heap.objs.size (.dK (kl [] bG)),I.laid (t':=tk) k (aV _) (show fZ X.prog X.w _ _ _ (.dK (kl [] bG))from⟨hlen,hm,merged [] prs,KV.merge rel .nil,lD⟩),rfl,q _ (I.hok.fresh (aV _))⟩
theorem Ah:kK "reversed"=some (.type "reversed"):=by decide+kernel
theorem Inv.XU(I:Inv X pins σ H s)(k:∀b o,b∉ch->s.heap.get? b=some o->h'.get? b=some o)(hf:∀b∈ch,tU X pins H b):Inv X pins σ H {s with heap:=h',toks:=t'}:=by
 have ZU:∀b u,H b=some u->b∉ch:=λb u e z=>by
  have q:=(hf b z).1
  rw[q]at e;cases e
 refine I.step (g':=s.gens) (d':=s.drawn) (ch:=ch) (λb hb=>⟨(hf b hb).2.2.2.1,(hf b hb).2.1,(hf b hb).2.2.2.2.1,(hf b hb).2.2.2.2.2⟩) (λb o _ _ hc e _=>k b o hc e) (λb o _ _ hc e _=>⟨o.slots,k b o hc e⟩)
  (λ_ _ _ _ n=>n) (λb o hc e=>⟨o,k b o hc e⟩) (λ_ _ e=>e) (λ_ _ _ e=>e) (λb ps e=>⟨#[],by rw[e];simp⟩) (λm hm=>?_) (λb u e=>?_) I.bare
 ·obtain⟨o,es,ep,ho,r⟩:=hm
  exact⟨o,es,ep,k _ o (λz=>(hf _ z).2.1 rfl) ho,r⟩
 ·refine(I.hok b u e).stay (λc v hc q=>k c v ?_ q) (λ_ q=>q) λ_ _ q=>q
  rcases hc with z|z
  ·rw[z];exact ZU b u e
  ·exact ZU c _ z
theorem Inv.Dm{T:aa}{ob:HO}(I:Inv X pins σ H s)(k:∀b o,b∉ch->s.heap.get? b=some o->h'.get? b=some o)(hf:∀b∈ch,tU X pins H b)(hT:s.heap.objs.size<=T)(new:fZ X.prog X.w (upd H T ob) h' T ob):Inv X pins σ (upd H T ob) {s with heap:=h',toks:=t'}:=by
 have hn:H T=none:=I.hok.fresh hT
 have ZU:∀b u,H b=some u->b∉ch:=λb u e z=>by
  have q:=(hf b z).1
  rw[q]at e;cases e
 refine I.step (g':=s.gens) (d':=s.drawn) (ch:=ch) (λb hb=>⟨(hf b hb).2.2.2.1,(hf b hb).2.1,(hf b hb).2.2.2.2.1,(hf b hb).2.2.2.2.2⟩) (λb o _ _ hc e _=>k b o hc e) (λb o _ _ hc e _=>⟨o.slots,k b o hc e⟩)
  (λb o _ e n=>?_) (λb o hc e=>⟨o,k b o hc e⟩) (λb xs e=>?_) (λb o u e=>?_) (λb ps e=>⟨#[],?_⟩) (λm hm=>?_) (λb u e=>?_) I.bare
 ·rw[aN (bS (dS (ba e) hT))];exact n
 ·rw[aN (aF e hn)];exact e
 ·rw[aN (aF e hn)];exact e
 ·rw[aN (aF e hn),e];simp
 ·obtain⟨o,es,ep,ho,r⟩:=hm
  exact⟨o,es,ep,k _ o (λz=>(hf _ z).2.1 rfl) ho,r⟩
 ·by_cases hb:b=T
  ·subst hb
   rw[ao]at e
   cases e
   exact new
  ·rw[aN hb]at e
   refine(I.hok b u e).stay (λc v hc q=>k c v ?_ q) (λc q=>by rw[aN (aF q hn)];exact q) λc xs q=>by rw[aN (aF q hn)];exact q
   rcases hc with z|z
   ·rw[z];exact ZU b u e
   ·exact ZU c _ z
theorem abg{R:It->Hp->Prop}{tn:Nat->aH->Prop}{tk:Nat}(I:Inv X pins σ H s)(o:aG)(T:Turn X.prog X.w X.K tg J [s.heap.objs.size] s.heap.objs.size tn)(st:tn 0 (s.heap.push o))(q:R J H):PIE X pins σ tg R (.ref s.heap.objs.size) {s with heap:=s.heap.push o,toks:=tk}:=by
 refine⟨s.heap.objs.size,[s.heap.objs.size],tn,J,H,rfl,I.kept λb ob e=>bQ _ e,T,st,λb hb=>?_,q⟩
 have e:b=s.heap.objs.size:=by simpa using hb
 subst e
 exact I.Kt (aV _) (I.hok.fresh (aV _))
def RgC(i j c:Int)(n:Nat):Prop:=c≠0/\c.natAbs<1073741824/\cR.Range.small i j c=true/\QW i j c=n
theorem RgC.neg{i j:Int}(ha:-(2^62)<=i)(ha':i<2^62)(hb:-(2^62)<=j)(Ec:j<2^62):RgC i j (-1) (i-j).toNat:=
 ⟨by decide,by decide,PySem.W.small_down ha ha' hb Ec,PySem.W.rangeSize_downNat i j⟩
def Itv(K:aL)(a:aa)(n:Nat):It:=
 ⟨λi H=>i<n/\∃(xs:List V)(x:V),a_ K H a xs/\xs[n-1-i]?=some x,λi H x H'=>H'=H/\∀xs,a_ K H a xs->xs[n-1-i]?=some x,λi _=>n<=i⟩
theorem RV(a it:aa)(n:Nat):Turn P w K tg (Itv K a n) [it] it (λi h=>i<=n/\h.IsRevIter it a ((n:Int)-1-(i:Nat)))where
 mem:=by simp
 obj:=λi h st b hb=>by
  have e:b=it:=by simpa using hb
  subst e
  obtain⟨_,o,e,c,d⟩:=st
  exact⟨o,e,λv z=>by rw[d]at z;cases z⟩
 keep:=λi h h' st k=>⟨st.1,st.2.at λo e=>k it (by simp) o e⟩
 item:=by
  intro X hP hw hK hc i pins s σ H E I hf st hg
  subst hP hw hK
  obtain⟨ZJ,xs,x,hq,hx⟩:=hg
  obtain⟨its,rv,p,hz⟩:=I.list hq
  obtain⟨u,hu,ru⟩:=rv.get hx
  obtain⟨f0,f1,f2,f3,f4,f5⟩:=hf it (by simp)
  obtain⟨_,hit⟩:=st
  have e1:(n:Int)-1-((i:Nat):Int)=((n-1-i:Nat):Int):=by omega
  rw[e1]at hit
  refine wpAny_pyNext_rev_item hit p.isList (x:=u) (by simpa using hu) λh' tD sb=>?_
  have e2:((n-1-i:Nat):Int)-1=(n:Int)-1-((i+1:Nat):Int):=by omega
  rw[e2]at tD
  have I1:Inv X pins σ H {s with heap:=h'}:=I.turned (t':=s.toks) (λb o hb e=>(sb.2 b hb).trans e) f0 f1 f3 f4 f5
  obtain⟨o,e,c,d⟩:=id tD
  exact⟨u,rfl,QS (s:={s with heap:=h'}) e c d dd ⟨x,H,I1,ru,⟨rfl,λys hy=>by rw[I.qx hy hq];exact hx⟩,⟨ZJ,tD⟩,λb hb=>(hf b hb).1⟩⟩
 done:=by
  intro X hP hw hK hc i pins s σ H E I hf st hg
  subst hP hw hK
  obtain⟨f0,f1,f2,f3,f4,f5⟩:=hf it (by simp)
  obtain⟨ZJ,hit⟩:=st
  have hge:n<=i:=hg
  have e1:(n:Int)-1-((i:Nat):Int)=-1:=by omega
  rw[e1]at hit
  exact wpAny_pyNext_rev_end (I.ok.hd hc) hit λh' eb=>⟨rfl,I.turned (t':=s.toks) (λb o hb e=>eb b o hb e) f0 f1 f3 f4 f5⟩
 self:=λA i s Q E st h=>G6 st.2 h
def ail(K:aL)(ta:TA):TI:=λσ H R=>ta σ H λvs H1=>∃(a:aa)(xs:List V),vs=[.ref a]/\a_ K H1 a xs/\R (Itv K a xs.length) H1
theorem G7{ta:TA}(hg:Gl X "reversed")(hm:X.mg "reversed"=none)(ha:PA X [e] ta)(hs:aU [e] X.env=[(false,eval e X.env)]:=by rfl):PI X tg (.Call (.Name "reversed" p) [e] [] pos) (ail X.K ta):=by
 intro pins s σ H R I h
 refine Call_ (kj I hg hm Ah (nc (fg (ha pos pins s σ H _ I h) λus s1⟨vs,H1,I1,r1,q1⟩=>?_) hs rfl))
 obtain⟨a,xs,e,hq,q⟩:=q1
 subst e
 cases r1 with
 |cons r rr=>
  cases rr
  cases r
  obtain⟨its,rv,p',hz⟩:=I1.list hq
  have hl:=rv.length
  have e1:((its.toArray.size:Nat):Int)-1=(xs.length:Int)-1-((0:Nat):Int):=by simp only[cw];omega
  refine call_reversed_list p'.isList (G6 (l:=a) (i:=((its.toArray.size:Nat):Int)-1) ⟨_,cU _ rfl,rfl,rfl⟩ ?_)
  refine abg (tk:=s1.toks) I1 _ (RV a _ xs.length) ⟨bI _,?_⟩ q
  rw[<-e1]
  exact⟨_,cU _ rfl,rfl,rfl⟩
theorem cN{G:α->β->Prop}{kh:List α}{l₂:List β}(h:Paired G kh l₂):∀{i:Nat}{a:α},kh[i]?=some a->∃b,l₂[i]?=some b/\G a b:=by
 induction h with
 |nil=>intro i a e;simp at e
 |@cons a b kh l₂ r t ih=>
  intro i a' e
  cases i with
  |zero=>
   simp only[G8,gL]at e
   subst e
   exact⟨b,rfl,r⟩
  |succ j=>
   simp only[oM]at e⊢
   exact ih e
section
variable{d:aa}{o:aG}
end
section
variable{d:aa}{o:aG}{es:Array F6}
end
section
variable{td:TE}
end
def Ite(K:aL)(a:aa):It:=
 ⟨λi H=>∃(xs:List V)(x:V),a_ K H a xs/\xs[i]?=some x,λi H v H'=>∃T x,v=.ref T/\H T=none/\H'=upd H T (.tup [.int (i:Nat),x])/\∀xs,a_ K H a xs->xs[i]?=some x,λi H=>∃xs:List V,a_ K H a xs/\xs.length<=i⟩
theorem Oq(a e it:aa):
  Turn P w K (.Tuple elts kk ZA) (Ite K a) [e,it] e (λi h=>(∃old,IsEnum h e it ((i:Nat):Int) old)/\h.IsListIter it a i/\e≠it)where
 mem:=by simp
 obj:=λi h st b hb=>by
  obtain⟨⟨old,he⟩,⟨o,ho,hc,hd⟩,_⟩:=st
  have e':b=e\/b=it:=by simpa using hb
  rcases e' with z|z
  ·rw[z];exact⟨_,he,λv q=>nomatch q⟩
  ·rw[z];exact⟨o,ho,λv q=>by rw[hd]at q;cases q⟩
 keep:=λi h h' st k=>let⟨⟨old,he⟩,hi,qh⟩:=st;⟨⟨old,k e (by simp) _ he⟩,hi.at λo q=>k it (by simp) o q,qh⟩
 item:=by
  intro X hP hw hK hc i pins s σ H E I hf st hg
  subst hP hw hK
  obtain⟨⟨old,he⟩,hit,qh⟩:=st
  obtain⟨xs,x,hq,hx⟩:=hg
  obtain⟨its,rv,p,hz⟩:=I.list hq
  obtain⟨u,hu,ru⟩:=rv.get hx
  have hel:e<s.heap.objs.size:=ba he
  have hil:it<s.heap.objs.size:=by obtain⟨_,q,_⟩:=hit;exact ba q
  refine wpAny_pyNext_enum_item he hit p.isList (x:=u) (by simpa using hu) qh λh' ho akO hT hsz hk=>?_
  refine⟨_,rfl,wpAny_letOwnedTupleGo_enum (s:={s with heap:=h',toks:=s.toks+1}) ho λZH PY sb=>?_⟩
  have hT2:ZH.get? s.heap.objs.size=some {cls:=.type "tuple",data:=.seq #[.int i s.toks,u]}:=(sb.2 _ (iW hel)).trans hT
  have new:fZ X.prog X.w (upd H s.heap.objs.size (.tup [.int (i:Nat),x])) ZH s.heap.objs.size (.tup [.int (i:Nat),x]):=
   ⟨by show 2<=az;decide,[.int i s.toks,u],.cons ⟨_,rfl⟩ (.cons ru .nil),⟨_,hT2,rfl,_,rfl⟩⟩
  have I1:Inv X pins σ (upd H s.heap.objs.size (.tup [.int (i:Nat),x])) {s with heap:=ZH,toks:=s.toks+1}:=
   I.Dm (ch:=[e,it]) (λb ob hb q=>(sb.2 b (λz=>hb (by simp[z]))).trans (hk b ob (λz=>hb (by simp[z])) (λz=>hb (by simp[z])) q)) hf (aV _) new
  refine⟨.ref s.heap.objs.size,_,I1,rfl,⟨_,x,rfl,I.hok.fresh (aV _),rfl,λys hy=>by rw[I.qx hy hq];exact hx⟩,⟨⟨u,?_⟩,akO.at λo q=>(sb.2 it (cJ qh)).trans q,qh⟩,λb hb=>?_⟩
  ·have e1:((i+1:Nat):Int)=(i:Int)+1:=by omega
   rw[e1];exact PY
  ·have Ec:b<s.heap.objs.size:=by
    have e':b=e\/b=it:=by simpa using hb
    rcases e' with z|z
    ·rw[z];exact hel
    ·rw[z];exact hil
   rw[aN (bS Ec)]
   exact(hf b hb).1
 done:=by
  intro X hP hw hK hc i pins s σ H E I hf st hg
  subst hP hw hK
  obtain⟨⟨old,he⟩,hit,qh⟩:=st
  obtain⟨xs,hq,hx⟩:=hg
  obtain⟨its,rv,p,hz⟩:=I.list hq
  obtain⟨f0,f1,f2,f3,f4,f5⟩:=hf it (by simp)
  have hl:=rv.length
  exact wpAny_pyNext_enum_end (I.ok.hd hc) he hit p.isList (by simp;omega) λh' eb=>⟨rfl,I.turned (t':=s.toks) (λb o hb q=>eb b o hb q) f0 f1 f3 f4 f5⟩
 self:=λA i s Q E st h=>let⟨⟨_,he⟩,_⟩:=st;RW he h
def aew(K:aL)(ta:TA):TI:=λσ H R=>ta σ H λvs H1=>∃a xs,vs=[.ref a]/\a_ K H1 a xs/\R (Ite K a) H1
theorem kC{ta:TA}(hg:Gl X "enumerate")(hm:X.mg "enumerate"=none)(ha:PA X [e] ta)(hs:aU [e] X.env=[(false,eval e X.env)]:=by rfl):
  PI X (.Tuple elts kk ZA) (.Call (.Name "enumerate" p) [e] [] pos) (aew X.K ta):=by
 intro pins s σ H R I h
 refine Call_ (kj I hg hm boot_enumerate (nc (fg (ha pos pins s σ H _ I h) λus s1⟨vs,H1,I1,r1,q1⟩=>?_) hs rfl))
 obtain⟨a,xs,ex,hq,q⟩:=q1
 subst ex
 cases r1 with
 |cons r rr=>
  cases rr
  cases r
  obtain⟨its,rv,p',hz⟩:=I1.list hq
  refine call_enumerate_list p'.isList λh' he hit hsz hk=>RW he ?_
  have I2:Inv X pins σ H1 {s1 with heap:=h'}:=I1.kept (t':=s1.toks) hk
  refine⟨s1.heap.objs.size+1,[s1.heap.objs.size+1,s1.heap.objs.size],_,_,H1,rfl,I2,Oq a (s1.heap.objs.size+1) s1.heap.objs.size,⟨⟨.none,he⟩,hit,RZ _⟩,λb hb=>?_,q⟩
  have e':b=s1.heap.objs.size+1\/b=s1.heap.objs.size:=by simpa using hb
  have hle:s1.heap.objs.size<=b:=by
   rcases e' with z|z
   ·rw[z];exact vi _ _
   ·rw[z];exact aV _
  exact I1.Kt hle (I1.hok.fresh hle)
theorem Ot:kK "zip"=some (.type "zip"):=by decide+kernel
def Itz(K:aL)(a b:aa):It:=
 ⟨λi H=>∃(xs ys:List V)(x y:V),a_ K H a xs/\a_ K H b ys/\xs[i]?=some x/\ys[i]?=some y,λi H v H'=>∃T x y,v=.ref T/\H T=none/\H'=upd H T (.tup [x,y])/\(∀xs,a_ K H a xs->xs[i]?=some x)/\∀ys,a_ K H b ys->ys[i]?=some y,λi H=>∃xs ys:List V,a_ K H a xs/\a_ K H b ys/\(xs.length<=i\/ys.length<=i)⟩
theorem R0{z TI TO i1 i2:aa}(D:ZipApart z TI TO i1 i2 a b):
  Turn P w K (.Tuple elts kk ZA) (Itz K a b) [z,TI,TO,i1,i2] z (λi h=>IsZip h z TI TO .none/\IsPair h TI (.ref i1) (.ref i2)/\(∃x y,IsPair h TO x y)/\h.IsListIter i1 a i/\h.IsListIter i2 b i)where
 mem:=by simp
 obj:=λi h st c hc=>by
  obtain⟨hz,WM,⟨x,y,Xh⟩,⟨o1,e1,_,d1⟩,⟨o2,e2,_,d2⟩⟩:=st
  have e':c=z\/c=TI\/c=TO\/c=i1\/c=i2:=by simpa using hc
  rcases e' with q|q|q|q|q
  ·rw[q];exact⟨_,hz,λv q=>nomatch q⟩
  ·rw[q];exact⟨_,WM,λv q=>nomatch q⟩
  ·rw[q];exact⟨_,Xh,λv q=>nomatch q⟩
  ·rw[q];exact⟨o1,e1,λv q=>by rw[d1]at q;cases q⟩
  ·rw[q];exact⟨o2,e2,λv q=>by rw[d2]at q;cases q⟩
 keep:=λi h h' st k=>by
  obtain⟨hz,WM,⟨x,y,Xh⟩,h1,h2⟩:=st
  exact⟨k z (by simp) _ hz,k TI (by simp) _ WM,⟨x,y,k TO (by simp) _ Xh⟩,h1.at λo q=>k i1 (by simp) o q,h2.at λo q=>k i2 (by simp) o q⟩
 item:=by
  intro X hP hw hK hc i pins s σ H E I hf st hg
  subst hP hw hK
  obtain⟨hz,WM,⟨x0,y0,Xh⟩,h1,h2⟩:=st
  obtain⟨xs,ys,x,y,hqx,hqy,hx,hy⟩:=hg
  obtain⟨its,rv,p,_⟩:=I.list hqx
  obtain⟨nW,rv2,p2,_⟩:=I.list hqy
  obtain⟨u,hu,ru⟩:=rv.get hx
  obtain⟨u2,hu2,ru2⟩:=rv2.get hy
  have hzl:z<s.heap.objs.size:=ba hz
  refine wpAny_pyNext_zip_item D hz WM Xh h1 h2 p.isList p2.isList (x:=u) (y:=u2) (by simpa using hu) (by simpa using hu2) λh' z' TO' WN h2' hT hsz hk=>?_
  refine⟨_,rfl,wpAny_letOwnedTupleGo_zip (s:={s with heap:=h'}) z' λZH z'' sb=>?_⟩
  have hT2:ZH.get? s.heap.objs.size=some {cls:=.type "tuple",data:=.seq #[u,u2]}:=(sb.2 _ (iW hzl)).trans hT
  have new:fZ X.prog X.w (upd H s.heap.objs.size (.tup [x,y])) ZH s.heap.objs.size (.tup [x,y]):=
   ⟨by show 2<=az;decide,[u,u2],.cons ru (.cons ru2 .nil),⟨_,hT2,rfl,_,rfl⟩⟩
  have I1:Inv X pins σ (upd H s.heap.objs.size (.tup [x,y])) {s with heap:=ZH}:=
   I.Dm (t':=s.toks) (ch:=[z,TI,TO,i1,i2]) (λc o hb q=>(sb.2 c (λq'=>hb (by simp[q']))).trans (hk c o (λq'=>hb (by simp[q'])) (λq'=>hb (by simp[q'])) (λq'=>hb (by simp[q'])) (λq'=>hb (by simp[q'])) q)) hf (aV _) new
  refine⟨.ref s.heap.objs.size,_,I1,rfl,⟨_,x,y,rfl,I.hok.fresh (aV _),rfl,λl hl=>by rw[I.qx hl hqx];exact hx,λl hl=>by rw[I.qx hl hqy];exact hy⟩,⟨z'',?_,⟨u,u2,?_⟩,?_,?_⟩,λc hcm=>?_⟩
  ·exact(sb.2 _ D.TIz).trans (hk _ _ D.TIz D.TITO D.TIi1 D.TIi2 WM)
  ·exact(sb.2 _ D.TOz).trans TO'
  ·exact WN.at λo q=>(sb.2 _ D.i1z).trans q
  ·exact h2'.at λo q=>(sb.2 _ D.i2z).trans q
  ·have hlt:c<s.heap.objs.size:=by
    have e':c=z\/c=TI\/c=TO\/c=i1\/c=i2:=by simpa using hcm
    rcases e' with q|q|q|q|q
    ·rw[q];exact hzl
    ·rw[q];exact ba WM
    ·rw[q];exact ba Xh
    ·rw[q];obtain⟨_,e1,_⟩:=h1;exact ba e1
    ·rw[q];obtain⟨_,e2,_⟩:=h2;exact ba e2
   rw[aN (bS hlt)]
   exact(hf c hcm).1
 done:=by
  intro X hP hw hK hc i pins s σ H E I hf st hg
  subst hP hw hK
  obtain⟨hz,WM,⟨x0,y0,Xh⟩,h1,h2⟩:=st
  obtain⟨xs,ys,hqx,hqy,akQ⟩:=hg
  obtain⟨its,rv,p,_⟩:=I.list hqx
  obtain⟨nW,rv2,p2,_⟩:=I.list hqy
  have l1:=rv.length
  have l2:=rv2.length
  have he:its.toArray[i]?=none\/nW.toArray[i]?=none:=by
   rcases akQ with q|q
   ·exact .inl (by simp;omega)
   ·exact .inr (by simp;omega)
  exact wpAny_pyNext_zip_end (I.ok.hd hc) D hz WM Xh h1 h2 p.isList p2.isList he λh' hk=>⟨rfl,I.XU (t':=s.toks) (ch:=[z,TI,TO,i1,i2]) (λc o hb q=>
   hk c o (λq'=>hb (by simp[q'])) (λq'=>hb (by simp[q'])) (λq'=>hb (by simp[q'])) (λq'=>hb (by simp[q'])) q) hf⟩
 self:=λA i s Q E st h=>R1 st.1 h
def aim(K:aL)(ta:TA):TI:=λσ H R=>ta σ H λvs H1=>∃a b xs ys,vs=[.ref a,.ref b]/\a_ K H1 a xs/\a_ K H1 b ys/\R (Itz K a b) H1
theorem Ai{e2:aQ}{ta:TA}(hg:Gl X "zip")(hm:X.mg "zip"=none)(ha:PA X [e,e2] ta)(hs:aU [e,e2] X.env=(false,eval e X.env)::aU [e2] X.env:=by rfl)(mY:(b9 pos (aU [e2] X.env)).any (·.1)=false:=by rfl):
  PI X (.Tuple elts kk ZA) (.Call (.Name "zip" p) [e,e2] [] pos) (aim X.K ta):=by
 intro pins s σ H R I h
 refine Call_ (kj I hg hm Ot (nc (fg (ha pos pins s σ H _ I h) λus s1⟨vs,H1,I1,r1,q1⟩=>?_) hs mY))
 obtain⟨a,b,xs,ys,ex,hqx,hqy,q⟩:=q1
 subst ex
 cases r1 with
 |cons r rr=>
  cases rr with
  |cons r' rr=>
   cases rr
   cases r
   cases r'
   obtain⟨its,rv,p1,_⟩:=I1.list hqx
   obtain⟨nW,rv2,p2,_⟩:=I1.list hqy
   have la:a<s1.heap.objs.size:=p1.lt
   have lb:b<s1.heap.objs.size:=p2.lt
   refine call_zip_2 p1.isList p2.isList λh' hz WM Xh h1 h2 hsz hk=>R1 hz ?_
   have I2:Inv X pins σ H1 {s1 with heap:=h'}:=I1.kept (t':=s1.toks) hk
   refine⟨s1.heap.objs.size+4,[s1.heap.objs.size+4,s1.heap.objs.size+2,s1.heap.objs.size+3,s1.heap.objs.size,s1.heap.objs.size+1],_,_,H1,rfl,I2,R0 (PySem.W.ktu_apart s1.heap.objs.size a b la lb),⟨hz,WM,⟨_,_,Xh⟩,h1,h2⟩,λc hcm=>?_,q⟩
   have e':c=s1.heap.objs.size+4\/c=s1.heap.objs.size+2\/c=s1.heap.objs.size+3\/c=s1.heap.objs.size\/c=s1.heap.objs.size+1:=by simpa using hcm
   have hle:s1.heap.objs.size<=c:=by
    rcases e' with z|z|z|z|z
    ·rw[z];exact vi _ _
    ·rw[z];exact vi _ _
    ·rw[z];exact vi _ _
    ·rw[z];exact aV _
    ·rw[z];exact vi _ _
   exact I1.Kt hle (I1.hok.fresh hle)
end L2
namespace ain
open PySem PyProof.Rows
end ain
namespace TL
open PySem PySem.Builtin PySem.Builtin.Str PySem.StrLaws
abbrev tl(x:ag):List Nat:=x.cps.toList
def pre(S l:List Nat):Bool:=l.take S.length==S
def par(S:List Nat):List Nat->List Nat->Option (List Nat×List Nat)
 |_,[]=>none
 |acc,c::r=>if pre S (c::r)=true then some (acc,(c::r).drop S.length)else par S (acc++[c]) r
end TL
namespace L2
open PySem PySem.Spec PyProof.Rows
variable{H:Hp}{X:Cx}{pins:List (aa×aG)}{s:aj}{σ:St}
section
variable{Q:VK}
end
variable{e:aQ}{te:TE}
section
variable{o:aQ}{to:TE}
end
end L2
namespace Att
open PySem PySem.W PySem.Calls PyProof.Rows
variable{A:dr}{E:af->aj->Prop}{prog:cQ}{s:aj}{w:bC}
section
variable{K:Frag}
end
end Att
namespace L2
open PySem PySem.Spec PyProof.Rows
def inClass(s:bj)(j:Nat):bj:=match s with
 | .ClassDef _ _ _ body _ _ _ _ _ _ _=>body.getD j (.Pass ⟨0,0,0,0⟩)
 |_=>.Pass ⟨0,0,0,0⟩
def pB(s:bj):Arguments:=match s with
 | .FunctionDef _ a _ _ _ _ _ _ _ _=>a
 |_=>{posonlyargs:=[],args:=[],vararg:=none,kwonlyargs:=[],kw_defaults:=[],kwarg:=none,defaults:=[]}
def nr(s:bj):List bj:=match s with
 | .FunctionDef _ _ b _ _ _ _ _ _ _=>b
 |_=>[]
def aB(s:bj):gF:=match s with
 | .FunctionDef _ _ _ _ _ _ sc _ _ _=>sc
 |_=>{kind:=.function,names:=[],isGenerator:=false,isCoroutine:=false}
abbrev hC:CXT:=λ_ _ _ _ _ _=>False
abbrev E0:XK:=λ_ _ _=>False
variable{C a dx f l:aa}{H H' H1 H2:Hp}{K:aL}{N ps:List ag}{P:cQ}{X:Cx}{an od:Option aa}{base:aH}{ct oc pm:af}{fd:ox}{j:Nat}{mg:ag->Option af}{pos:cK}{qual x:ag}{sp:Sp}{st:bj}{w:bC}{xs:List V}
theorem Dn:Passes hC X E0:=λ_ _ _ _ _ _ _ h=>h.elim
structure il (K:aL) (x qual:ag) (st:bj) (f:aa) (fd:ox):Prop where
 ex:∃(oc:af)(od:Option aa)(kV doc pm:af)(an:Option aa)(fF ct:af)(ZC:Array (Option af)),fd=kP x qual (pB st) (nr st) (aB st) .none kV doc pm an fF ct/\K.lookup f=some ⟨oc,od,.func fd,ZC⟩/\uS K fF qual=true
 kp:kM K (.ref f)=true
theorem il.ok{k:Nat}(F:il K x qual st f fd)(S:a0 N ps (aB st))(WG:∀(fF:af)(A:dr)(outer:List dh)(s:aj)(H:Hp)(vs:List V)(Q:VK)(E:XK),g9 k (A.deeper (i5 qual (aB st) s.heap.objs.size f fF))->sp vs H Q E->∃t,FG (Of hC P w K mg base N qual (aB st) f fF A outer s H E).ZW (nr st) t/\t {nx:=λ_ H'=>Q .non H',rt:=Q} (start N vs) H)(len:∀vs H Q E,sp vs H Q E->vs.length=ps.length:=by intro vs H Q E h;repeat(first|(obtain⟨rfl,_⟩:=h;rfl)|(obtain⟨_,h⟩:=h))):cz P w K mg base hC (k+1) f fd ps sp:=by
 obtain⟨oc,od,kV,doc,pm,an,fF,ct,ZC,rfl,lk,PU⟩:=F.ex
 refine aed lk PU S len λA outer s H vs Q E hr CF=>?_
 obtain⟨t,h,q⟩:=WG fF A outer s H vs Q E hr CF
 exact⟨t,h.ZW,q⟩
theorem il.binds(F:il K x qual st f fd)(h:∀(kV doc pm:af)(an:Option aa)(fF ct:af)(us:List af),us.length=ps.length->bindArgs (kP x qual (pB st) (nr st) (aB st) .none kV doc pm an fF ct) ⟨us,[]⟩=pure (ps.zip us)):Binds K fd ps []:=by
 obtain⟨oc,od,kV,doc,pm,an,fF,ct,ZC,rfl,lk,PU⟩:=F.ex
 exact .all (h kV doc pm an fF ct)
theorem R3{ZC:Array (Option af)}{kV doc fF:af}(l:K.lookup f=some ⟨oc,od,.func (kP x qual (pB st) (nr st) (aB st) .none kV doc pm an fF ct),ZC⟩)(c:uS K fF qual=true)(k:kM K (.ref f)=true):il K x qual st f (kP x qual (pB st) (nr st) (aB st) .none kV doc pm an fF ct):=⟨⟨oc,od,kV,doc,pm,an,fF,ct,ZC,rfl,l,c⟩,k⟩
theorem pv(i:Nat)(hN:X.N[i]?=some x:=by rfl)(hv:Vis X.env.scope x:=by first|exact md rfl|exact fN (md rfl)|exact fN (fN rfl))(hd:(x==("__debug__":ag))=false:=by decide)(PU:(x==("__classdict__":ag))=false:=by decide):PE X (.Name x pos) (cE i):=aaO hN hv hd PU
def aP(H H':Hp):Prop:=∀b o,H b=some o->H' b=some o
theorem aP.refl(H:Hp):aP H H:=λ_ _ h=>h
theorem aP.trans(a:aP H H1)(b:aP H1 H2):aP H H2:=λc o h=>b c o (a c o h)
theorem aP.free(e:aP H H')(h:H' l=Aj):H l=Aj:=by
 cases q:H l with
 |none=>rfl
 |some o=>
  rw[e l o q]at h
  cases h
theorem aP.seq(e:aP H H')(h:a_ K H a xs):a_ K H' a xs:=by
 rcases h with(h|⟨o,h⟩)|h
 ·exact .inl (.inl (e _ _ h))
 ·exact .inl (.inr ⟨o,e _ _ h⟩)
 ·exact .inr h
section
variable{κ:Type} [DecidableEq κ]
theorem R4{bG:List (κ×V)}{k:κ}(h:iI bG k=none):¬k∈bG.map (·.1):=by
 intro m
 obtain⟨p,hp,e⟩:=aM.mp m
 have q:(bG.any λkv=>decide (kv.1=k))=true:=kZ.mpr ⟨p,hp,qr e⟩
 rw[oI,h]at q
 exact absurd q (by simp)
end
theorem at_of{z:Int}{v:V}(e:z=(j:Int))(h:xs[j]?=some v):W4 xs z=some v:=by
 rw[e]
 exact MG h
theorem aP.made{x:aa}(nx:H x=Aj)(nd:H dx=Aj)(k:∀b o,(upd (upd H dx (.own x)) x (.ins C dx [])) b=some o->b≠x->H1 b=some o):aP H H1:=λb o e=>
 k b o (by rw[aN (aF e nx),aN (aF e nd)];exact e) (aF e nx)
end L2
namespace Bt
open Sw63
def cA:Nat->Word->List Nat
 |_,[]=>[]
 |i,x::w=>if x.vowel=true then i::cA (i+1) w else cA (i+1) w
abbrev vp(w:Word):List Nat:=cA 0 w
theorem cY:∀(w:Word)(i:Nat),(cA i w).length=vowels w
 |[],_=>rfl
 |x::w,i=>by
  unfold cA vowels
  by_cases h:x.vowel=true
  ·rw[ax h,eK h,aS,aS,cY w (i+1)];rfl
  ·rw[aq h,fC h,cY w (i+1)];rfl
theorem lL:∀(w:Word)(i:Nat),∀v∈cA i w,i<=v/\v<i+w.length
 |[],_,v,h=>by simp[cA]at h
 |x::w,i,v,h=>by
  unfold cA at h
  have ih:=lL w (i+1) v
  split at h
  ·rcases aY.mp h with h|h
   ·subst h;simp
   ·have:=ih h;simp only[aS];omega
  ·have:=ih h;simp only[aS];omega
theorem nO:∀(u w:Word)(i:Nat),cA i (u++w)=cA i u++cA (i+u.length) w
 |[],w,i=>rfl
 |x::u,w,i=>by
  have ih:=nO u w (i+1)
  have e:i+(x::u).length=i+1+u.length:=by simp only[aS];omega
  rw[e,i9]
  simp only[cA]
  split
  ·rw[ih,i9]
  ·rw[ih]
def Dq:List Nat->Nat->List Nat
 |[],_=>[]
 |[v],e=>[e-1-v]
 |v::v'::r,e=>(v'-v-1)::Dq (v'::r) e
theorem qU:∀(w:Word)(i k:Nat),gM k w=match cA i w with
  |[]=>[k+w.length]
  |v::vs=>(k+(v-i))::Dq (v::vs) (i+w.length)
 |[],i,k=>rfl
 |x::w,i,k=>by
  unfold gM cA
  by_cases h:x.vowel=true
  ·rw[ax h,ax h,qU w (i+1) 0]
   cases e:cA (i+1) w with
   |nil=>simp only[Dq,aS,vj,oN,dE];congr 2;omega
   |cons v vs=>
    have:=(lL w (i+1) v (by rw[e];exact bp)).1
    simp only[Dq,aS,vj,oN,dE]
    have e2:i+1+w.length=i+(w.length+1):=by omega
    rw[e2,Nat.sub_add_eq]
  ·rw[aq h,aq h,qU w (i+1) (k+1)]
   cases e:cA (i+1) w with
   |nil=>simp;omega
   |cons v vs=>
    have:=(lL w (i+1) v (by rw[e];exact bp)).1
    have e2:i+1+w.length=i+(w.length+1):=by omega
    have e3:k+1+(v-(i+1))=k+(v-i):=by omega
    simp only[aS,e2,e3]
def flat(s:List Syll):List Nat:=s.flatMap λs=>[s.1,s.2]
def between(rows:List (List Nat))(c:Nat):List (List Nat):=rows.flatMap λrow=>(shares c).map λb=>row++[b,c-b]
theorem CJ(gs:List Nat):∀R:List (List Nat),gs.foldl between R=R.flatMap λr=>gs.foldl between [r]:=by
 induction gs with
 |nil=>intro R;simp
 |cons g gs ih=>
  intro R
  simp only[fK]
  rw[ih]
  conv=>rhs;arg 1;intro r;rw[ih]
  simp only[between,R5,eS,Ak,cW]
theorem G9(o:Nat){k:Nat}(hk:k<=SIDE):parted o [k]=[[(o,k)]]:=by
 unfold parted;rw[ax hk]
theorem js(o k a:Nat)(l:List Nat):parted o (k::a::l)=(shares k).flatMap λj=>(parted (k-j) (a::l)).map λr=>(o,j)::r:=by
 rw[parted];intro h;cases h
theorem tX{k:Nat}(hk:¬k<=SIDE):∀(gs:List Nat)(o:Nat),parted o (gs++[k])=[]
 |[],o=>by show parted o [k]=[];unfold parted;rw[aq hk]
 |[g],o=>by
  show parted o [g,k]=[]
  rw[js]
  have h:∀j,parted j [k]=[]:=λj=>tX hk [] j
  simp[h]
 |g::g'::gs,o=>by
  show parted o (g::g'::(gs++[k]))=[]
  rw[js]
  have h:∀j,parted j (g'::(gs++[k]))=[]:=λj=>tX hk (g'::gs) j
  simp[h]
theorem yb{k:Nat}(hk:k<=SIDE):∀(gs:List Nat)(o:Nat)(p:List Nat),(gs.foldl between [p++[o]]).map (·++[k])=(parted o (gs++[k])).map λs=>p++flat s
 |[],o,p=>by
  show[p++[o]++[k]]=(parted o [k]).map _
  rw[G9 o hk];simp[flat]
 |g::gs,o,p=>by
  have step:∃a l,gs++[k]=a::l:=by cases gs with
   |nil=>exact⟨k,[],rfl⟩
   |cons a l=>exact⟨a,l++[k],rfl⟩
  obtain⟨a,l,e⟩:=step
  show(gs.foldl between (between [p++[o]] g)).map _=(parted o (g::(gs++[k]))).map _
  rw[e,js,CJ,<-e]
  simp only[between,eS,Ak,cW,vk,G',cg]
  congr 1
  funext j
  have ih:=yb hk gs (g-j) (p++[o,j])
  simp only[gz,i9,jM]at ih
  simp only[gz,i9,jM]
  rw[ih]
  congr 1
def dk(w:Word):List (List Nat):=(dw w).map flat
def mW:List Nat->List Nat
 |v::v'::r=>(v'-v-1)::mW (v'::r)
 |_=>[]
theorem G_:∀(v:Nat)(vs:List Nat)(e:Nat),Dq (v::vs) e=mW (v::vs)++[e-1-(v::vs).getLastD 0]
 |v,[],e=>rfl
 |v,v'::r,e=>by
  show(v'-v-1)::Dq (v'::r) e=(v'-v-1)::mW (v'::r)++_
  rw[G_ v' r e]
  cases r<;>rfl
theorem pC{w:Word}{v:Nat}{vs:List Nat}(h:vp w=v::vs):
  dk w=if v<=SIDE/\w.length-1-(v::vs).getLastD 0<=SIDE then((mW (v::vs)).foldl between [[v]]).map (·++[w.length-1-(v::vs).getLastD 0])else[]:=by
 unfold dk dw
 rw[qU w 0 0]
 have h':cA 0 w=v::vs:=h
 rw[h']
 simp only[dE,Al]
 rw[G_]
 by_cases h1:v<=SIDE
 ·by_cases h2:w.length-1-(v::vs).getLastD 0<=SIDE
  ·rw[ax h1,ax ⟨h1,h2⟩]
   have:=yb h2 (mW (v::vs)) v []
   simp only[jM]at this
   rw[this]
  ·rw[ax h1,aq (λh=>h2 h.2),tX h2];rfl
 ·rw[aq h1,aq (λh=>h1 h.1)];rfl
theorem nu:∀a:List Nat,less a a=false
 |[]=>rfl
 |x::l=>by simp[less,nu l]
theorem me:∀{a b c:List Nat},less a b=true->less b c=true->less a c=true
 |[],_,_,h,_=>by simp[less]at h
 |_::_,[],_,h,_=>by simp[less]at h
 |_::_,_::_,[],_,h=>by simp[less]at h
 |x::a,y::b,z::c,h1,h2=>by
  simp only[less,oG,bN,eJ,bX]at h1 h2⊢
  rcases h1 with h1|⟨h1,WN⟩
  ·rcases h2 with h2|⟨h2,h2'⟩
   ·left;omega
   ·left;omega
  ·rcases h2 with h2|⟨h2,h2'⟩
   ·left;omega
   ·right;exact⟨by omega,me WN h2'⟩
theorem mh:∀{a b:List Nat},a.length=b.length->less a b=false->less b a=false->a=b
 |[],[],_,_,_=>rfl
 |[],_::_,h,_,_=>by simp at h
 |_::_,[],h,_,_=>by simp at h
 |x::a,y::b,hl,h1,h2=>by
  simp only[less,Bool.or_eq_false_iff,fz,vm,fA]at h1 h2
  have e:x=y:=by omega
  subst e
  have t1:less a b=false:=by rcases h1.2 with h|h;exact absurd rfl h;exact h
  have t2:less b a=false:=by rcases h2.2 with h|h;exact absurd rfl h;exact h
  rw[mh (by simpa using hl) t1 t2]
theorem pD{a b:List Nat}(h:less a b=true):less b a=false:=by
 cases h2:less b a with
 |false=>rfl
 |true=>have:=me h h2;rw[nu]at this;cases this
theorem yc:∀(p a b:List Nat),less (p++a) (p++b)=less a b
 |[],_,_=>rfl
 |x::p,a,b=>by simp[less,yc p a b]
theorem oO:∀{a b:List Nat}(c d:List Nat),less a b=true->less (a++c) (b++d)=true
 |[],_,_,_,h=>by simp[less]at h
 |_::_,[],_,_,h=>by simp[less]at h
 |x::a,y::b,c,d,h=>by
  simp only[less,oG,bN,eJ,bX,i9]at h⊢
  rcases h with h|⟨h,h'⟩
  ·exact .inl h
  ·exact .inr ⟨h,oO c d h'⟩
def xZ(y:List Nat):List (List Nat)->List (List Nat)
 |[]=>[y]
 |z::l=>if less y z=true then y::z::l else z::xZ y l
def MR(n:Nat):List (List Nat):=((feet n).flatMap mains).foldl (λm y=>xZ y m) []
def El:Nat->List (List Nat)->List (List Nat)->List (List Nat)
 |0,_,rows=>rows
 |k+1,N4,rows=>El k rows (rows.map (·++[0])++(rows.map (·++[1])++(N4.map (·++[2,3])++N4.map (·++[4,5]))))
def dC(n:Nat):List (List Nat):=El n [] [[]]
def pE:List (List Nat)->Bool
 |a::b::l=>less a b&&pE (b::l)
 |_=>true
theorem iR:∀{l:List (List Nat)},pE l=true->l.Pairwise λa b=>less a b=true
 |[],_=>.nil
 |[a],_=>by simp
 |a::b::l,h=>by
  simp only[pE,eJ]at h
  have ih:=iR h.2
  refine jP.mpr ⟨λc hc=>?_,ih⟩
  rcases aY.mp hc with rfl|hc
  ·exact h.1
  ·exact me h.1 ((jP.mp ih).1 c hc)
set_option maxRecDepth 100000 in
theorem Dr:∀n,n<=5->pE (MR n)=true:=by
 intro n hn
 have:n=0\/n=1\/n=2\/n=3\/n=4\/n=5:=by omega
 rcases this with rfl|rfl|rfl|rfl|rfl|rfl<;>decide+kernel
set_option maxRecDepth 100000 in
theorem Ds:∀n,n<=5->((MR n).all λm=>m.length==n)=true:=by
 intro n hn
 have:n=0\/n=1\/n=2\/n=3\/n=4\/n=5:=by omega
 rcases this with rfl|rfl|rfl|rfl|rfl|rfl<;>decide+kernel
set_option maxRecDepth 100000 in
theorem Ha:∀n,n<=5->((dC n).flatMap mains).isPerm (MR n)=true:=by
 intro n hn
 have:n=0\/n=1\/n=2\/n=3\/n=4\/n=5:=by omega
 rcases this with rfl|rfl|rfl|rfl|rfl|rfl<;>decide+kernel
theorem yd(y:List Nat):∀l:List (List Nat),(xZ y l).Perm (y::l)
 |[]=>.refl _
 |z::l=>by
  unfold xZ
  split
  ·exact .refl _
  ·exact((yd y l).cons z).trans (Am y z l)
theorem nv:∀(l m:List (List Nat)),(l.foldl (λm y=>xZ y m) m).Perm (l++m)
 |[],m=>.refl _
 |y::l,m=>by
  refine(nv l (xZ y m)).trans ?_
  refine((yd y m).append_left l).trans ?_
  exact R6
theorem XW(n:Nat):(MR n).Perm ((feet n).flatMap mains):=by
 have:=nv ((feet n).flatMap mains) []
 rw[cW]at this
 exact this
variable{codas:Bool}{d:Told}{i j n:Nat}{ks m q:List Nat}{y:Way}{α:Type}
theorem Ou(hn:n<=5){L:List (List Nat)}(hp:L.Perm ((dC n).flatMap mains))(hs:L.Pairwise λa b=>less b a=false):L=MR n:=by
 have p2:=hp.trans (R7.mp (Ha n hn))
 have hlen:∀m∈MR n,m.length=n:=λm hm=>by simpa using c_.mp (Ds n hn) m hm
 refine R8 (le:=λa b=>less b a=false) (λa b ha hb h1 h2=>?_) hs ((iR (Dr n hn)).imp λh=>pD h) p2
 exact mh (by rw[hlen a (p2.mem_iff.mp ha),hlen b hb]) h2 h1
theorem tH(k:Nat):(shares k).Pairwise (·<·):=(Hb).filter _
theorem ff(s:Syll)(l:List Syll):flat (s::l)=s.1::s.2::flat l:=by simp[flat]
theorem An:∀(l:List Nat)(o:Nat),∀s∈parted o l,s.length=l.length
 |[],o,s,h=>by simp[parted]at h
 |[k],o,s,h=>by
  unfold parted at h
  split at h
  ·simp at h;subst h;rfl
  ·simp at h
 |k::a::l,o,s,h=>by
  rw[js]at h
  obtain⟨j,_,h⟩:=fO.mp h
  obtain⟨r,hr,rfl⟩:=aM.mp h
  simp[An (a::l) _ r hr]
theorem tJ:∀(l:List Nat)(o:Nat),(parted o l).Pairwise λa b=>less (flat a) (flat b)=true
 |[],o=>by simp[parted]
 |[k],o=>by unfold parted;split<;>simp
 |k::a::l,o=>by
  rw[js,R9]
  refine⟨λj _=>?_,(tH k).imp λ{j j'}hj=>?_⟩
  ·rw[jQ]
   refine(tJ (a::l) (k-j)).imp λ{r r'}h=>?_
   simp only[ff,less,h];simp
  ·intro x hx y hy
   obtain⟨r,_,rfl⟩:=aM.mp hx
   obtain⟨r',_,rfl⟩:=aM.mp hy
   simp[ff,less,hj]
theorem xj(w:Word):(dw w).Pairwise λa b=>less (flat a) (flat b)=true:=by
 unfold dw
 split
 ·split
  ·exact tJ _ _
  ·exact .nil
 ·exact .nil
theorem lI:∀(w:Word)(k:Nat),(gM k w).length=vowels w+1
 |[],k=>rfl
 |x::w,k=>by
  unfold gM vowels
  by_cases h:x.vowel=true
  ·rw[ax h,eK h,aS,aS,lI w 0];rfl
  ·rw[aq h,fC h,lI w (k+1)];rfl
theorem fc{w:Word}{s:List Syll}(h:s∈dw w):s.length=vowels w:=by
 unfold dw at h
 have hc:=lI w 0
 split at h
 ·rename_i o l e
  rw[e]at hc
  split at h
  ·rw[An l o s h];simpa using hc
  ·simp at h
 ·simp at h
theorem ip(s:List Syll):(flat s).length=2*s.length:=by
 induction s with
 |nil=>rfl
 |cons a l ih=>rw[ff];simp[ih];omega
theorem Ao:∀{s t:List Syll},flat s=flat t->s=t
 |[],[],_=>rfl
 |[],b::t,h=>by simp[ff]at h;simp[flat]at h
 |a::s,[],h=>by simp[ff]at h;simp[flat]at h
 |(a,b)::s,(c,d)::t,h=>by
  rw[ff,ff]at h
  simp only[oP]at h
  obtain⟨h1,h2,h3⟩:=h
  rw[Ao h3,h1,h2]
def ow(w:Word):List Way:=(dw w).flatMap λs=>(MR (vowels w)).map λm=>⟨s,m⟩
theorem pF(y:Way):y.row=flat y.sylls++y.marks:=rfl
theorem XX(w:Word):ways w=(dw w).flatMap λs=>((feet (vowels w)).flatMap mains).map λm=>⟨s,m⟩:=by
 unfold ways
 have go:∀l:List (List Syll),(∀s∈l,s.length=vowels w)->(l.flatMap λs=>((feet s.length).flatMap mains).map λm=>(⟨s,m⟩:Way))=l.flatMap λs=>((feet (vowels w)).flatMap mains).map λm=>⟨s,m⟩:=by
  intro l hl
  induction l with
  |nil=>rfl
  |cons a l ih=>
   simp only[eS]
   rw[hl a bp,ih λs hs=>hl s (bg _ hs)]
 exact go _ λs hs=>fc hs
theorem mi{α β:Type}{f g:α->List β}:∀(l:List α),(∀a∈l,(f a).Perm (g a))->(l.flatMap f).Perm (l.flatMap g)
 |[],_=>.refl _
 |a::l,h=>by
  simp only[eS]
  exact(h a bp).append (mi l λb hb=>h b (bg _ hb))
theorem iJ(w:Word):(ow w).Perm (ways w):=by
 rw[XX]
 exact mi _ λs _=>(XW _).map _
theorem nQ{w:Word}(h:y∈ow w):y.sylls∈dw w/\y.marks∈MR (vowels w):=by
 obtain⟨s,hs,h⟩:=fO.mp h
 obtain⟨m,hm,rfl⟩:=aM.mp h
 exact⟨hs,hm⟩
theorem Ap(hn:n<=5)(h:m∈MR n):m.length=n:=by simpa using c_.mp (Ds n hn) m h
theorem oQ{w:Word}(hv:vowels w<=5)(h:y∈ow w):y.row.length=3*vowels w:=by
 obtain⟨h1,h2⟩:=nQ h
 rw[pF,bZ,ip,fc h1,Ap hv h2];omega
theorem XY{w:Word}{z:Way}(hy:y∈ow w)(hz:z∈ow w)(e:y.row=z.row):y=z:=by
 obtain⟨h1,_⟩:=nQ hy
 obtain⟨h2,_⟩:=nQ hz
 rw[pF,pF]at e
 obtain⟨e1,e2⟩:=List.append_inj e (by rw[ip,ip,fc h1,fc h2])
 have:=Ao e1
 cases y;cases z;simp_all
theorem Ov{w:Word}(hv:vowels w<=5):(ow w).Pairwise λa b=>less a.row b.row=true:=by
 unfold ow
 rw[R9]
 refine⟨λs _=>?_,(xj w).imp λ{s t}h=>?_⟩
 ·rw[jQ]
  refine(iR (Dr _ hv)).imp λ{m m'}h=>?_
  rw[pF,pF,yc];exact h
 ·intro x hx y hy
  obtain⟨m,_,rfl⟩:=aM.mp hx
  obtain⟨m',_,rfl⟩:=aM.mp hy
  exact oO _ _ h
theorem ny(y:Way):∀l:List Way,(mj y l).Perm (y::l)
 |[]=>.refl _
 |z::l=>by
  unfold mj
  split
  ·exact .refl _
  ·exact((ny y l).cons z).trans (Am y z l)
theorem nA:∀(l m:List Way),(l.foldl (λm y=>mj y m) m).Perm (l++m)
 |[],m=>.refl _
 |y::l,m=>by
  refine(nA l (mj y m)).trans ?_
  refine((ny y m).append_left l).trans ?_
  exact R6
theorem Em(l:List Way):(inOrder l).Perm l:=by
 have:=nA l []
 rw[cW]at this
 exact this
theorem tK{n:Nat}(y:Way)(hy:y.row.length=n):∀l:List Way,(∀z∈l,z.row.length=n)->(l.Pairwise λa b=>less b.row a.row=false)->(mj y l).Pairwise λa b=>less b.row a.row=false
 |[],_,_=>by simp[mj]
 |z::l,hl,hs=>by
  unfold mj
  have hs':=jP.mp hs
  split
  ·rename_i h
   refine jP.mpr ⟨λc hc=>?_,hs⟩
   rcases aY.mp hc with rfl|hc
   ·exact pD h
   ·cases q:less c.row y.row with
    |false=>rfl
    |true=>have:=me q h;rw[hs'.1 c hc]at this;cases this
  ·rename_i h
   have h:less y.row z.row=false:=by simpa using h
   refine jP.mpr ⟨λc hc=>?_,tK y hy l (λc hc=>hl c (bg _ hc)) hs'.2⟩
   rcases aY.mp ((ny y l).mem_iff.mp hc)with rfl|hc
   ·exact h
   ·exact hs'.1 c hc
theorem lF{n:Nat}:∀(l m:List Way),(∀z∈l,z.row.length=n)->(∀z∈m,z.row.length=n)->(m.Pairwise λa b=>less b.row a.row=false)->(l.foldl (λm y=>mj y m) m).Pairwise λa b=>less b.row a.row=false
 |[],m,_,_,h=>h
 |y::l,m,h1,h2,h=>by
  refine lF l _ (λz hz=>h1 z (bg _ hz)) (λz hz=>?_) (tK y (h1 y bp) m h2 h)
  rcases aY.mp ((ny y m).mem_iff.mp hz)with rfl|hz
  ·exact h1 _ bp
  ·exact h2 z hz
theorem mm{w:Word}(hv:vowels w<=5)(p:Way->Bool):inOrder ((ways w).filter p)=(ow w).filter p:=by
 have hp:(inOrder ((ways w).filter p)).Perm ((ow w).filter p):=(Em _).trans ((iJ w).symm.filter p)
 have hm:∀z,z∈(ways w).filter p->z∈ow w:=λz hz=>(iJ w).mem_iff.mpr (bH.mp hz).1
 refine R8 (le:=λa b=>less b.row a.row=false) (λa b ha hb h1 h2=>?_) (lF (n:=3*vowels w) _ _ (λz hz=>oQ hv (hm z hz)) (by simp) .nil) ?_ hp
 ·have ha':=(bH.mp (hp.mem_iff.mp ha)).1
  have Ec:=(bH.mp hb).1
  exact XY ha' Ec (mh (by rw[oQ hv ha',oQ hv Ec]) h2 h1)
 ·exact((Ov hv).filter _).imp λh=>pD h
inductive Kk:Word->List Syll->Prop
 |nil:Kk [] []
 |cons {on co rest:Word} {v:Sound} {l:List Syll}:(∀x∈on,x.vowel=false)->v.vowel=true->(∀x∈co,x.vowel=false)->on.length<=3->co.length<=3->Kk rest l->Kk (on++v::(co++rest)) ((on.length,co.length)::l)
theorem CK(k:Nat)(x:Sound)(w:Word):gM k (x::w)=if x.vowel=true then k::gM 0 w else gM (k+1) w:=rfl
theorem Aq(w:Word)(s:Syll)(l:List Syll):fulls w (s::l)=match w.drop s.1 with
  |[]=>[]
  |v::r=>⟨w.take s.1,v,r.take s.2⟩::fulls (r.drop s.2) l:=rfl
theorem qV:∀(w:Word)(k:Nat),((∀x∈w,x.vowel=false)/\gM k w=[k+w.length])\/∃cs v w',w=cs++v::w'/\(∀x∈cs,x.vowel=false)/\v.vowel=true/\gM k w=(k+cs.length)::gM 0 w'/\w'.length<w.length
 |[],k=>.inl ⟨by simp,rfl⟩
 |x::w,k=>by
  rw[CK]
  by_cases h:x.vowel=true
  ·rw[ax h]
   exact .inr ⟨[],x,w,rfl,by simp,h,by simp,by simp⟩
  ·rw[aq h]
   have h:x.vowel=false:=by simpa using h
   rcases qV w (k+1)with⟨h1,h2⟩|⟨cs,v,w',rfl,h1,h2,h3,h4⟩
   ·refine .inl ⟨λy hy=>?_,by rw[h2,aS];congr 1;omega⟩
    rcases aY.mp hy with rfl|hy
    ·exact h
    ·exact h1 y hy
   ·refine .inr ⟨x::cs,v,w',rfl,λy hy=>?_,h2,by rw[h3,aS];congr 1;omega,by simp only[aS];omega⟩
    rcases aY.mp hy with rfl|hy
    ·exact h
    ·exact h1 y hy
theorem Ar{k:Nat}(h:j∈shares k):j<=k/\j<=3/\k-j<=3:=by
 unfold shares at h
 obtain⟨h1,h2⟩:=bH.mp h
 have h2:=Hc.mp h2
 have h3:j<=3:=of_decide_eq_true h2.1
 have h4:k-j<=3:=of_decide_eq_true h2.2
 have:=bY.mp h1
 omega
theorem As:∀(n:Nat)(w':Word),w'.length<=n->∀(on:Word)(v:Sound)(s:List Syll),(∀x∈on,x.vowel=false)->v.vowel=true->on.length<=3->s∈parted on.length (gM 0 w')->Kk (on++v::w') s
 |n,w',hn,on,v,s,h1,h2,h3,hs=>by
  rcases qV w' 0 with⟨hc,e⟩|⟨cs,v',w2,rfl,hc,tE,e,hl⟩
  ·rw[e]at hs
   unfold parted at hs
   split at hs
   ·rename_i hk
    simp only[dE,bA,SIDE]at hs hk
    subst hs
    have:=Kk.cons (rest:=[]) (l:=[]) h1 h2 hc h3 hk .nil
    rw[cW]at this
    exact this
   ·simp at hs
  ·rw[e]at hs
   have ne:∃a l,gM 0 w2=a::l:=by
    cases q:gM 0 w2 with
    |nil=>have:=lI w2 0;rw[q]at this;simp at this
    |cons a l=>exact⟨a,l,rfl⟩
   obtain⟨a,l,q⟩:=ne
   rw[q,js,<-q]at hs
   obtain⟨j,hj,hs⟩:=fO.mp hs
   obtain⟨r,hr,rfl⟩:=aM.mp hs
   obtain⟨j1,j2,j3⟩:=Ar hj
   rw[dE]at j1 j3 hr
   have hd:(cs.drop j).length=cs.length-j:=gG
   cases n with
   |zero=>simp at hn
   |succ n=>
    have ih:=As n w2 oo (cs.drop j) v' r (λx hx=>hc x (R_ hx)) tE oo (by rw[hd];exact hr)
    have:=Kk.cons (co:=cs.take j) h1 h2 (λx hx=>hc x (Au hx)) h3 (by rw[d8];omega) ih
    rw[d8,oR j1,<-gz (cs.take j),oS]at this
    exact this
theorem En{w:Word}{s:List Syll}(h:s∈dw w):Kk w s:=by
 unfold dw at h
 rcases qV w 0 with⟨hc,e⟩|⟨cs,v,w',rfl,hc,hv,e,hl⟩
 ·rw[e]at h
  simp only[parted]at h
  split at h<;>simp at h
 ·rw[e]at h
  simp only[dE]at h
  split at h
  ·rename_i hk
   exact As _ w' (aV _) cs v s hc hv hk h
  ·simp at h
theorem pG:∀(cs:Word)(i:Nat),(∀x∈cs,x.vowel=false)->cA i cs=[]
 |[],_,_=>rfl
 |x::cs,i,h=>by
  unfold cA
  rw[h x bp]
  simp only[dO,cn]
  exact pG cs (i+1) λy hy=>h y (bg _ hy)
theorem km:∀{w:Word}{s:List Syll},Kk w s->∀i:Nat,(fulls w s).length=s.length/\(cA i w).length=s.length/\(fulls w s).map (λf=>(f.onset.length,f.coda.length))=s/\∀(t:Nat)(f:Full),(fulls w s)[t]?=some f->∃v,(cA i w)[t]?=some (i+v)/\f.onset.length<=v/\(w.drop (v-f.onset.length)).take (f.onset.length+1)=f.onset++[f.vowel]/\(w.drop v).take (f.coda.length+1)=f.vowel::f.coda/\w[v]?=some f.vowel/\v+f.coda.length<w.length
 |_,_,.nil,i=>by simp[fulls,cA]
 |_,_,@Kk.cons on co rest v l h1 h2 h3 h4 h5 hr,i=>by
  have ef:fulls (on++v::(co++rest)) ((on.length,co.length)::l)=⟨on,v,co⟩::fulls rest l:=by
   rw[Aq]
   simp
  have ev:cA i (on++v::(co++rest))=(i+on.length)::cA (i+on.length+1+co.length) rest:=by
   rw[nO,pG on i h1,jM]
   simp only[cA,h2,de]
   rw[nO,pG co _ h3,jM]
  obtain⟨i1,i2,i3,i4⟩:=km hr (i+on.length+1+co.length)
  refine⟨by rw[ef];simp[i1],by rw[ev];simp[i2],by rw[ef];simp[i3],λt f hf=>?_⟩
  rw[ef]at hf
  cases t with
  |zero=>
   simp only[G8,gL]at hf
   subst hf
   refine⟨on.length,by rw[ev];simp,aV _,?_,?_,?_,?_⟩
   ·rw[vj,qW,List.take_append,l7 (by show on.length<=on.length+1;omega),Hd];rfl
   ·simp
   ·simp
   ·simp;omega
  |succ t=>
   simp only[oM]at hf
   obtain⟨u,q1,q2,q3,q4,q5,q6⟩:=i4 t f hf
   refine⟨on.length+1+co.length+u,by rw[ev];simp only[oM];rw[q1];congr 1;omega,by omega,?_,?_,?_,?_⟩
   ·have e:on.length+1+co.length+u-f.onset.length=(on++v::co).length+(u-f.onset.length):=by simp;omega
    have e2:on++v::(co++rest)=(on++v::co)++rest:=by simp
    rw[e,e2,Sa];exact q3
   ·have e:on.length+1+co.length+u=(on++v::co).length+u:=by simp;omega
    have e2:on++v::(co++rest)=(on++v::co)++rest:=by simp
    rw[e,e2,Sa];exact q4
   ·have e:on.length+1+co.length+u=(on++v::co).length+u:=by simp;omega
    have e2:on++v::(co++rest)=(on++v::co)++rest:=by simp
    rw[e,e2,Gu oo,Hd];exact q5
   ·simp;omega
def p8:List Nat->List Nat
 |a::_::l=>a::p8 l
 |[a]=>[a]
 |[]=>[]
def tY:List Nat->List Nat
 |_::b::l=>b::tY l
 |_=>[]
theorem Av:∀s:List Syll,p8 (flat s)=s.map (·.1)
 |[]=>rfl
 |a::s=>by rw[ff];simp[p8,Av s]
theorem Dt:∀s:List Syll,tY (flat s)=s.map (·.2)
 |[]=>rfl
 |a::s=>by rw[ff];simp[tY,Dt s]
def snl(row:List Nat):Nat:=((row.zip row.tail).filter λp=>decide (p.2<=p.1)).length
theorem KJ:∀l:Word,snl (l.map (·.loud))=eN l
 |[]=>rfl
 |[a]=>rfl
 |a::b::l=>by
  have ih:=KJ (b::l)
  unfold eN
  rw[<-ih]
  simp only[snl,bb,List.tail_cons,ja,i_,bN]
  by_cases h:a.loud<b.loud
  ·rw[aq oo,ax h];simp
  ·rw[ax oo,aq h];simp;omega
theorem count_map{A B:Type}(p:B->Bool)(f:A->B)(l:List A):count p (l.map f)=count (λx=>p (f x)) l:=by
 unfold count;rw[iq,aA];rfl
def Aw(fs:List Full):Nat:=(fs.map λx=>eN (x.onset++[x.vowel])+eN (x.coda.reverse++[x.vowel])).sum
theorem Du(l:List Nat):total l=l.sum:=by
 unfold total
 have:∀(l:List Nat)(a:Nat),l.foldl (λa b=>a+b) a=a+l.sum:=by
  intro l
  induction l with
  |nil=>simp
  |cons x l ih=>intro a;simp only[fK,fP];rw[ih];omega
 rw[this];simp
def d6(w:Word)(s:List Syll):List Nat:=
 [(p8 (flat s)).count 0,(tY (flat s)).length-(tY (flat s)).count 0,((flat s).filter λx=>decide (2<=x)).length,Aw (fulls w s)]
theorem KL(l:List Nat):l.count 0=count (λx=>x==0) l:=by
 rw[List.count_eq_length_filter];rfl
theorem k4(l:List α):l.isEmpty=(l.length==0):=by cases l<;>rfl
theorem Ow(l:List Nat):l.length-l.count 0=count (λx=>!(x==0)) l:=by
 induction l with
 |nil=>rfl
 |cons a l ih=>
  have h1:l.count 0<=l.length:=Sb
  simp only[aS,Se,count,i_]
  by_cases h:a=0
  ·subst h;simp;exact ih
  ·simp[h];unfold count at ih;omega
theorem Ox(s:List Syll):((flat s).filter λx=>decide (2<=x)).length=count (λx:Syll=>decide (1<x.1)) s+count (λx:Syll=>decide (1<x.2)) s:=by
 induction s with
 |nil=>rfl
 |cons a s ih=>
  rw[ff]
  have t1:(2<=a.1)=(1<a.1):=rfl
  have t2:(2<=a.2)=(1<a.2):=rfl
  simp only[i_,count,bN,t1,t2]at ih⊢
  by_cases h1:1<a.1<;>by_cases h2:1<a.2<;>simp only[h1,h2,de,cn,aS]<;>omega
theorem Eo{w:Word}{s:List Syll}(h:Kk w s)(codas:Bool)(m:List Nat):d6 w s=[faults codas w ⟨s,m⟩ 0,faults codas w ⟨s,m⟩ 1,faults codas w ⟨s,m⟩ 2,faults codas w ⟨s,m⟩ 3]:=by
 obtain⟨_,_,e,_⟩:=km h 0
 have e1:s.map (·.1)=(fulls w s).map λf=>f.onset.length:=by
  conv=>lhs;rw[<-e,cg]
  rfl
 have e2:s.map (·.2)=(fulls w s).map λf=>f.coda.length:=by
  conv=>lhs;rw[<-e,cg]
  rfl
 unfold d6 faults
 rw[Av,Dt,Ox]
 simp only[oP,and_true]
 refine⟨?_,?_,?_,?_⟩
 ·rw[KL,e1,count_map]
  simp only[k4]
 ·rw[Ow,e2,count_map]
  simp only[k4]
 ·have a1:=count_map (λn=>decide (1<n)) (λx:Syll=>x.1) s
  have a2:=count_map (λn=>decide (1<n)) (λx:Syll=>x.2) s
  have b1:=count_map (λn=>decide (1<n)) (λf:Full=>f.onset.length) (fulls w s)
  have b2:=count_map (λn=>decide (1<n)) (λf:Full=>f.coda.length) (fulls w s)
  rw[<-a1,<-a2,e1,e2,b1,b2]
 ·rw[Du];rfl
def bB(m:List Nat):List Nat:=m.map (·%10)
def cO(m:List Nat):List Bool:=(bB m).map isHead
def alike(want:Bool)(l:List Bool):Nat:=((l.zip l.tail).filter λp=>p.1==want&&p.2==want).length
def maxOf(m:List Nat):Nat:=m.foldl Nat.max 0
def gA(m:List Nat):Nat:=if maxOf m=15 then m.idxOf (maxOf m)-1 else m.idxOf (maxOf m)
def gB(m:List Nat):Nat:=if maxOf m=12 then m.length-1-m.idxOf (maxOf m)-1 else m.length-1-m.idxOf (maxOf m)
def oT(k:Nat):Bool:=k==1||(k==2||k==4)
def vn(k:Nat):Bool:=k==1||(k==3||k==5)
def sN(m:List Nat):Nat:=(((bB m).zipIdx.filter λx=>oT x.1).map (·.2)).sum
def yS(m:List Nat):Nat:=(((bB m).zipIdx.filter λx=>vn x.1).map λx=>m.length-1-x.2).sum
def ir(m:List Nat)(hv:List Bool):Nat:=(((bB m).zip hv).filter λx=>x.1==1&&!x.2).length
def gu(m:List Nat)(hv:List Bool):Nat:=(((cO m).zip hv).filter λx=>x.2&&!x.1).length
def du(m:List Nat)(hv:List Bool):List Nat:=
 [(bB m).count 5,(bB m).count 2,ir m hv,(bB m).count 0,sN m,yS m,gA m,gB m,if(cO m).getD (m.length-1) false=true then 1 else 0,gu m hv,alike true (cO m),alike false (cO m)]
def lM(m:List Nat):List Nat:=
 [count (λm=>m %10==5) m,count (λm=>m %10==2) m,count (λm=>m==0) m,total (begins m),total ((begins m).map λi=>m.length-(i+size m i)),mainAt m,m.length-(mainAt m+size m (mainAt m)),if(m.getLast?).any head=true then 1 else 0,pairs (λa b=>head a&&head b) m,pairs (λa b=>!head a&&!head b) m]
def oU(m:List Nat):List Nat:=
 [(bB m).count 5,(bB m).count 2,(bB m).count 0,sN m,yS m,gA m,gB m,if(cO m).getD (m.length-1) false=true then 1 else 0,alike true (cO m),alike false (cO m)]
def ML(n:Nat)(m:List Nat):Bool:=
 oU m==lM m&&((lM m).all (λk=>decide (k<64))&&(m.contains (maxOf m)&&(m.all (λk=>decide (k<=maxOf m))&&(m.all (λk=>decide (k<20))&&((maxOf m !=15||decide (1<=m.idxOf (maxOf m)))&&(maxOf m !=12||decide (m.idxOf (maxOf m)+2<=n)))))))
set_option maxRecDepth 100000 in
theorem Sf:∀n,n<=5->((MR n).all (ML n))=true:=by
 intro n hn
 have:n=0\/n=1\/n=2\/n=3\/n=4\/n=5:=by omega
 rcases this with rfl|rfl|rfl|rfl|rfl|rfl<;>decide+kernel
structure MOk (n:Nat) (m:List Nat):Prop where
 same:oU m=lM m
 small:∀k∈lM m,k<64
 mem:maxOf m∈m
 le:∀k∈m,k<=maxOf m
 lt:∀k∈m,k<20
 a15:maxOf m=15->1<=m.idxOf (maxOf m)
 a12:maxOf m=12->m.idxOf (maxOf m)+2<=n
theorem mok(hn:n<=5)(h:m∈MR n):MOk n m:=by
 have:=c_.mp (Sf n hn) m h
 simp only[ML,eJ,bX,c_,bN,jR,oG,fH]at this
 obtain⟨h1,h2,h3,h4,h5,h6,h7⟩:=this
 exact⟨h1,h2,h3,h4,h5,λe=>h6.elim (λq=>absurd e q) id,λe=>h7.elim (λq=>absurd e q) id⟩
theorem p9(codas:Bool):∀(fs:List Full)(m:List Nat),ir m (fs.map (heavy codas))=count (λx=>x.2 %10==1&&!heavy codas x.1) (fs.zip m)
 |[],m=>by simp[ir,count]
 |f::fs,[]=>by simp[ir,count,bB]
 |f::fs,k::m=>by
  have ih:=p9 codas fs m
  simp only[ir,count,bB,bb,ja,i_]at ih⊢
  split<;>simp_all
theorem p_(codas:Bool):∀(fs:List Full)(m:List Nat),gu m (fs.map (heavy codas))=count (λx=>heavy codas x.1&&!head x.2) (fs.zip m)
 |[],m=>by simp[gu,count]
 |f::fs,[]=>by simp[gu,count,cO,bB]
 |f::fs,k::m=>by
  have ih:=p_ codas fs m
  simp only[gu,count,cO,bB,bb,ja,i_,head]at ih⊢
  split<;>simp_all
theorem CL(codas:Bool)(w:Word)(s:List Syll)(hn:n<=5)(h:m∈MR n):
  du m ((fulls w s).map (heavy codas))=[faults codas w ⟨s,m⟩ 4,faults codas w ⟨s,m⟩ 5,faults codas w ⟨s,m⟩ 6,faults codas w ⟨s,m⟩ 7,faults codas w ⟨s,m⟩ 8,faults codas w ⟨s,m⟩ 9,faults codas w ⟨s,m⟩ 10,faults codas w ⟨s,m⟩ 11,faults codas w ⟨s,m⟩ 12,faults codas w ⟨s,m⟩ 13,faults codas w ⟨s,m⟩ 14,faults codas w ⟨s,m⟩ 15]:=by
 have e:=(mok hn h).same
 unfold oU lM at e
 simp only[oP,and_true]at e
 obtain⟨e1,e2,e3,e4,e5,e6,e7,e8,e9,e10⟩:=e
 unfold du
 rw[p9,p_,e1,e2,e3,e4,e5,e6,e7,e8,e9,e10]
 rfl
def counts(codas:Bool)(w:Word)(y:Way):List Nat:=d6 w y.sylls++du y.marks ((fulls w y.sylls).map (heavy codas))
theorem xk(codas:Bool){w:Word}(hv:vowels w<=5)(h:y∈ow w):counts codas w y=(aE 16).map (faults codas w y):=by
 obtain⟨h1,h2⟩:=nQ h
 obtain⟨s,m⟩:=y
 unfold counts
 show d6 w s++du m ((fulls w s).map (heavy codas))=_
 rw[Eo (En h1) codas m,CL codas w s hv h2]
 rfl
theorem count_le{A:Type}(p:A->Bool)(l:List A):count p l<=l.length:=dX _ _
theorem pH:∀l:Word,eN l<=l.length-1
 |[]=>by simp[eN]
 |[a]=>by simp[eN]
 |a::b::l=>by
  have:=pH (b::l)
  unfold eN
  simp only[aS]at this⊢
  split<;>omega
theorem Sg{A:Type}(f:A->Nat)(c:Nat):∀l:List A,(∀x∈l,f x<=c)->(l.map f).sum<=c*l.length
 |[],_=>by simp
 |a::l,h=>by
  have:=Sg f c l λx hx=>h x (bg _ hx)
  have:=h a bp
  simp only[bb,fP,aS,iu];omega
theorem Dv:∀{w:Word}{s:List Syll},Kk w s->∀f∈fulls w s,f.onset.length<=3/\f.coda.length<=3
 |_,_,.nil,f,h=>by simp[fulls]at h
 |_,_,@Kk.cons on co rest v l h1 h2 h3 h4 h5 hr,f,h=>by
  have ef:fulls (on++v::(co++rest)) ((on.length,co.length)::l)=⟨on,v,co⟩::fulls rest l:=by
   rw[Aq];simp
  rw[ef]at h
  rcases aY.mp h with rfl|h
  ·exact⟨h4,h5⟩
  ·exact Dv hr f h
theorem vo(codas:Bool){w:Word}(hv:vowels w<=5)(h:y∈ow w)(k:Nat):faults codas w y k<64:=by
 obtain⟨h1,h2⟩:=nQ h
 obtain⟨s,m⟩:=y
 have hf:=En h1
 have hl:(fulls w s).length<=5:=by rw[(km hf 0).1,fc h1];exact hv
 have hm:=mok hv h2
 have hs:=hm.small
 unfold lM at hs
 simp only[aY,iw,gE,zz,forall_eq]at hs
 obtain⟨s1,s2,s3,s4,s5,s6,s7,s8,s9,XM⟩:=hs
 have hz:((fulls w s).zip m).length<=5:=by rw[Ax];omega
 unfold faults
 split
 ·exact mr (count_le _ _) (by show(fulls w s).length<64;omega)
 ·exact mr (count_le _ _) (by show(fulls w s).length<64;omega)
 ·have a:=count_le (λx:Full=>decide (1<x.onset.length)) (fulls w s)
  have b:=count_le (λx:Full=>decide (1<x.coda.length)) (fulls w s)
  show count (λx:Full=>decide (1<x.onset.length)) (fulls w s)+count (λx:Full=>decide (1<x.coda.length)) (fulls w s)<64
  omega
 ·rw[Du]
  have:=Sg (λx:Full=>eN (x.onset++[x.vowel])+eN (x.coda.reverse++[x.vowel])) 6 (fulls w s) λf hf'=>by
   obtain⟨a,b⟩:=Dv hf f hf'
   have c:=pH (f.onset++[f.vowel])
   have d:=pH (f.coda.reverse++[f.vowel])
   simp only[bZ,He,jL,Nat.add_sub_cancel]at c d
   omega
  show((fulls w s).map λx:Full=>eN (x.onset++[x.vowel])+eN (x.coda.reverse++[x.vowel])).sum<64
  omega
 ·exact s1
 ·exact s2
 ·exact mr (count_le _ _) (by show((fulls w s).zip m).length<64;omega)
 ·exact s3
 ·exact s4
 ·exact s5
 ·exact s6
 ·exact s7
 ·exact s8
 ·exact mr (count_le _ _) (by show((fulls w s).zip m).length<64;omega)
 ·exact s9
 ·exact XM
def val:List Nat->Nat
 |[]=>0
 |d::l=>d*128^l.length+val l
theorem Sh(k:Nat):128^k=2^(7*k):=by rw[Nat.pow_mul]
theorem Ay:∀{l:List Nat},(∀d∈l,d<128)->val l<128^l.length
 |[],_=>by simp[val]
 |d::l,h=>by
  have h1:=Ay (l:=l) λx hx=>h x (bg _ hx)
  have h2:=h d bp
  unfold val
  rw[aS,eO]
  have:d*128^l.length<=127*128^l.length:=jk _ oo
  omega
theorem vt:∀{p q:List Nat},p.length=q.length->(∀d∈p,d<128)->(∀d∈q,d<128)->(val p<val q↔less p q=true)
 |[],[],_,_,_=>by simp[val,less]
 |[],_::_,h,_,_=>by simp at h
 |_::_,[],h,_,_=>by simp at h
 |a::p,b::q,hl,hp,hq=>by
  have PR:p.length=q.length:=by simpa using hl
  have ih:=vt PR (λx hx=>hp x (bg _ hx)) (λx hx=>hq x (bg _ hx))
  have vp:=Ay (l:=p) λx hx=>hp x (bg _ hx)
  have vq:=Ay (l:=q) λx hx=>hq x (bg _ hx)
  unfold val less
  rw[PR]at vp⊢
  simp only[oG,bN,eJ,bX,<-ih]
  generalize 128^q.length=M at*
  constructor
  ·intro h
   by_cases yL:a<b
   ·exact .inl yL
   ·by_cases e:a=b
    ·subst e;right;exact⟨rfl,by omega⟩
    ·exfalso
     have:(b+1)*M<=a*M:=jk _ oo
     rw[jb]at this;omega
  ·rintro(h|⟨rfl,h⟩)
   ·have:(a+1)*M<=b*M:=jk _ oo
    rw[jb]at this;omega
   ·omega
theorem val_inj{p:List Nat}(hl:p.length=q.length)(hp:∀d∈p,d<128)(hq:∀d∈q,d<128)(e:val p=val q):p=q:=by
 refine mh hl ?_ ?_
 ·cases h:less p q with
  |false=>rfl
  |true=>have:=(vt hl hp hq).mpr h;omega
 ·cases h:less q p with
  |false=>rfl
  |true=>have:=(vt hl.symm hq hp).mpr h;omega
theorem Az(m:Nat){x y:Nat}(d e:Nat)(hx:x<2^m)(hy:y<2^m):(d*2^m+x)|||(e*2^m+y)=(d|||e)*2^m+(x|||y):=by
 apply Si
 intro i
 have hxy:x|||y<2^m:=Sj hx hy
 rw[eY d,eY e,eY (d|||e),Sk,qX _ hx,qX _ hy,qX _ hxy]
 split<;>simp[Sk]
theorem Dx(m:Nat){x y:Nat}(d e:Nat)(hx:x<2^m)(hy:y<2^m):(d*2^m+x)&&&(e*2^m+y)=(d&&&e)*2^m+(x&&&y):=by
 apply Si
 intro i
 have hxy:x&&&y<2^m:=Nat.and_lt_two_pow _ hy
 rw[eY d,eY e,eY (d&&&e),Sl,qX _ hx,qX _ hy,qX _ hxy]
 split<;>simp[Sl]
def dg(b:Bool):Nat:=if b=true then 64 else 0
theorem Sn(b:Bool):dg b<128:=by cases b<;>decide
def mZ(bs:List Bool):Nat:=val (bs.map dg)
theorem dY(b:Bool)(l:List Bool):mZ (b::l)=dg b*128^l.length+mZ l:=by
 unfold mZ;simp[val]
theorem abh(l:List Bool):mZ l<128^l.length:=by
 have:=Ay (l:=l.map dg) λd hd=>by obtain⟨b,_,rfl⟩:=aM.mp hd;exact Sn b
 rwa[aA]at this
theorem vw(l:List Bool):mZ l<2^(7*l.length):=by rw[<-Sh];exact abh l
theorem So:∀{a b:List Bool},a.length=b.length->mZ a|||mZ b=mZ (qY (λx y=>x||y) a b)
 |[],[],_=>rfl
 |[],_::_,h=>by simp at h
 |_::_,[],h=>by simp at h
 |x::a,y::b,h=>by
  have h':a.length=b.length:=by simpa using h
  rw[dY,dY,vx,dY,<-So h',qZ,h',vy,Sh,Az _ _ _ (by rw[<-h'];exact vw a) (vw b)]
  congr 2
  cases x<;>cases y<;>rfl
theorem MM:∀{a b:List Bool},a.length=b.length->mZ a&&&mZ b=mZ (qY (λx y=>x&&y) a b)
 |[],[],_=>rfl
 |[],_::_,h=>by simp at h
 |_::_,[],h=>by simp at h
 |x::a,y::b,h=>by
  have h':a.length=b.length:=by simpa using h
  rw[dY,dY,vx,dY,<-MM h',qZ,h',vy,Sh,Dx _ _ _ (by rw[<-h'];exact vw a) (vw b)]
  congr 2
  cases x<;>cases y<;>rfl
theorem vz:∀{a:List Bool},mZ a=0↔∀b∈a,b=false
 |[]=>by simp[mZ,val]
 |x::a=>by
  rw[dY]
  have ih:=vz (a:=a)
  have hp:0<128^a.length:=Sq dd
  cases x with
  |true=>
   simp only[dg,de]
   constructor
   ·intro h;have:1*128^a.length<=64*128^a.length:=jk _ dd;omega
   ·intro h;exact absurd (h true bp) dd
  |false=>
   simp only[dg,dO,cn,Hf,dE,ih]
   constructor
   ·intro h b hb
    rcases aY.mp hb with rfl|hb
    ·rfl
    ·exact h b hb
   ·intro h b hb;exact h b (bg _ hb)
theorem XZ{a b:List Bool}(hl:a.length=b.length)(e:mZ a=mZ b):a=b:=by
 have:=val_inj (p:=a.map dg) (q:=b.map dg) (by simpa using hl) (λd hd=>by obtain⟨b,_,rfl⟩:=aM.mp hd;exact Sn b) (λd hd=>by obtain⟨b,_,rfl⟩:=aM.mp hd;exact Sn b) e
 have inj:∀{x y:List Bool},x.map dg=y.map dg->x=y:=by
  intro x
  induction x with
  |nil=>intro y h;cases y with
   |nil=>rfl
   |cons _ _=>simp at h
  |cons c x ih=>
   intro y h
   cases y with
   |nil=>simp at h
   |cons d y=>
    simp only[bb,oP]at h
    rw[ih h.2]
    have:c=d:=by cases c<;>cases d<;>first|rfl|(exact absurd h.1 dd)
    rw[this]
 exact inj this
def spare(n:Nat):Nat:=mZ (dW n true)
theorem AA(n:Nat):spare (n+1)=64*128^n+spare n:=by
 unfold spare;rw[oA,dY,Gx];rfl
theorem Sr(n:Nat):spare n<2^(7*n):=by
 have:=vw (dW n true);rwa[Gx]at this
def more(n p q:Nat):Nat:=spare n-(((q|||spare n)-p)&&&spare n)
theorem aip{b:Nat}(h:b<64):b|||64=b+64:=by
 have:=Az 6 0 1 (x:=b) (y:=0) h dd
 simp at this
 omega
theorem aez:∀x,x<128->x&&&64=if 64<=x then 64 else 0:=by decide
theorem sO:∀{p q:List Nat},p.length=q.length->(∀d∈p,d<64)->(∀d∈q,d<64)->val p<=(val q|||spare q.length)/\more q.length (val p) (val q)=mZ (qY (λa b=>decide (b<a)) p q)
 |[],[],_,_,_=>by decide
 |[],_::_,h,_,_=>by simp at h
 |_::_,[],h,_,_=>by simp at h
 |a::p,b::q,hl,hp,hq=>by
  have PR:p.length=q.length:=by simpa using hl
  obtain⟨i1,i2⟩:=sO PR (λx hx=>hp x (bg _ hx)) (λx hx=>hq x (bg _ hx))
  have ha:=hp a bp
  have hb:=hq b bp
  have vq:val q<2^(7*q.length):=by rw[<-Sh];exact Ay λx hx=>dS (hq x (bg _ hx)) dd
  have vs:=Sr q.length
  have vor:=Sj vq vs
  unfold more at i2⊢
  unfold val
  rw[vx,dY,<-i2,qZ,PR,vy,aS,AA,Sh,Az _ _ _ vq vs,aip hb]
  generalize hX:(val q|||spare q.length)=X at*
  generalize hM:2^(7*q.length)=M at*
  have e1:(b+64)*M+X-(a*M+val p)=(b+64-a)*M+(X-val p):=by
   have:(b+64-a)*M=(b+64)*M-a*M:=Nat.sub_mul _ _ _
   have:a*M<=(b+64)*M:=jk _ oo
   omega
  refine⟨?_,?_⟩
  ·have:a*M<=(b+64)*M:=jk _ oo
   omega
  ·rw[e1]
   have e2:(b+64-a)*M+(X-val p)&&&64*M+spare q.length=((b+64-a)&&&64)*M+((X-val p)&&&spare q.length):=by
    rw[<-hM];exact Dx _ _ _ (by rw[hM];omega) (by rw[hM];exact vs)
   rw[e2,aez _ oo]
   have hle:(X-val p)&&&spare q.length<=spare q.length:=Ss
   by_cases yL:b<a
   ·rw[aq oo,qr yL]
    simp only[dg,de]
    omega
   ·rw[ax oo,fG yL]
    simp only[dg,dO,cn]
    omega
def pl:List Nat->Nat->Nat
 |[],_=>0
 |r::rs,k=>if k=r then 128^rs.length else pl rs k
theorem Su:∀{ks:List Nat}{k:Nat},k∉ks->pl ks k=0
 |[],_,_=>rfl
 |r::rs,k,h=>by
  unfold pl
  rw[aq (λe=>h (by rw[e];exact bp)),Su λq=>h (bg _ q)]
theorem KN(n:Nat)(f:Nat->Nat)(r:Nat)(hr:r<n):((aE n).map λk=>if k=r then f k else 0).sum=f r:=by
 induction n with
 |zero=>omega
 |succ n ih=>
  rw[iy,eU,Hg]
  by_cases h:r=n
  ·subst h
   have:((aE r).map λk=>if k=r then f k else 0)=(aE r).map λ_=>0:=by
    apply mv;intro k hk;rw[aq];have:=bY.mp hk;omega
   rw[this]
   have z:∀l:List Nat,(l.map λ_=>0).sum=0:=by intro l;induction l with
    |nil=>rfl
    |cons a l ih=>simp only[bb,fP,ih]
   rw[z];simp
  ·rw[ih oo];simp;intro h2;omega
theorem sum_add(l:List Nat)(f g:Nat->Nat):(l.map λk=>f k+g k).sum=(l.map f).sum+(l.map g).sum:=by
 induction l with
 |nil=>rfl
 |cons a l ih=>simp only[bb,fP,ih];omega
theorem Dy(c:Nat->Nat):∀{ks:List Nat},ks.Nodup->(∀k∈ks,k<16)->((aE 16).map λk=>c k*pl ks k).sum=val (ks.map c)
 |[],_,_=>by
  have z:∀l:List Nat,(l.map λ_=>0).sum=0:=by
   intro l
   induction l with
   |nil=>rfl
   |cons a l ih=>simp only[bb,fP,ih]
  simp only[pl,AB,gH,val];exact z _
 |r::rs,hn,hk=>by
  have Zy:=iZ.mp hn
  have ih:=Dy c Zy.2 λk h=>hk k (bg _ h)
  have e:((aE 16).map λk=>c k*pl (r::rs) k)=(aE 16).map λk=>(if k=r then c k*128^rs.length else 0)+c k*pl rs k:=by
   apply mv
   intro k _
   have ec:pl (r::rs) k=if k=r then 128^rs.length else pl rs k:=rfl
   rw[ec]
   by_cases h:k=r
   ·subst h;rw[ax rfl,ax rfl,Su Zy.1];simp
   ·rw[aq h,aq h];simp
  rw[e,sum_add,KN 16 (λk=>c k*128^rs.length) r (hk r bp),ih]
  simp[val]
theorem Z1:∀{ks:List Nat}{i k:Nat},ks.Nodup->ks[i]?=some k->pl ks k=128^(ks.length-1-i)
 |[],i,k,_,h=>by simp at h
 |r::rs,0,k,_,h=>by
  simp at h;subst h;unfold pl;rw[ax rfl];simp
 |r::rs,i+1,k,hn,h=>by
  simp only[oM]at h
  have Zy:=iZ.mp hn
  have hm:k∈rs:=cC h
  unfold pl
  rw[aq (λe=>Zy.1 (by rw[<-e];exact hm)),Z1 Zy.2 h]
  congr 1;simp;omega
theorem MN:∀{n i:Nat},i<n->128^(n-1-i)*64=mZ ((aE n).map λj=>j==i)
 |0,i,h=>by omega
 |n+1,0,h=>by
  rw[qI,bb,dY,aA,aA,e_]
  have z:mZ (((aE n).map vA).map λj=>j==0)=0:=by
   rw[vz];intro b hb;simp at hb;obtain⟨_,_,rfl⟩:=hb;rfl
  rw[z];simp[dg,eY]
 |n+1,i+1,h=>by
  rw[qI,bb,dY,aA,aA,e_,cg]
  have e:((λj=>j==i+1)∘vA)=λj=>j==i:=by funext j;simp
  rw[e,<-MN (n:=n) (i:=i) oo]
  have e2:n+1-1-(i+1)=n-1-i:=by omega
  rw[e2];simp[dg]
section
variable{w:Word}
abbrev sc(codas:Bool)(ks:List Nat)(w:Word)(y:Way):Nat:=val (profile codas w ks y)
theorem cG(y:Way):(profile codas w ks y).length=ks.length:=by simp[profile]
theorem fq(hv:vowels w<=5)(h:y∈ow w):∀d∈profile codas w ks y,d<64:=by
 intro d hd
 obtain⟨k,_,rfl⟩:=aM.mp hd
 exact vo codas hv h k
theorem sP(hv:vowels w<=5)(h:y∈ow w):∀d∈profile codas w ks y,d<128:=λd hd=>l9 (fq hv h d hd) dd
theorem abi(hv:vowels w<=5){z:Way}(hy:y∈ow w)(hz:z∈ow w):sc codas ks w y=sc codas ks w z↔profile codas w ks y=profile codas w ks z:=
 ⟨λe=>val_inj (by rw[cG,cG]) (sP hv hy) (sP hv hz) e,λe=>by unfold sc;rw[e]⟩
theorem AD{n:Nat}:∀{L:List (List Nat)},L≠[]->(∀a∈L,a.length=n)->least L∈L/\∀a∈L,less a (least L)=false
 |[],h,_=>absurd rfl h
 |[a],_,_=>by
  have e:least [a]=a:=rfl
  rw[e]
  exact⟨bp,λb hb=>by rw[bA.mp hb];exact nu a⟩
 |a::b::l,_,hl=>by
  obtain⟨i1,i2⟩:=AD (L:=b::l) (by simp) λx hx=>hl x (bg _ hx)
  have e:least (a::b::l)=if less (least (b::l)) a=true then least (b::l)else a:=rfl
  rw[e]
  split
  ·rename_i h
   refine⟨bg _ i1,λx hx=>?_⟩
   rcases aY.mp hx with rfl|hx
   ·exact pD h
   ·exact i2 x hx
  ·rename_i h
   have h:less (least (b::l)) a=false:=by simpa using h
   refine⟨bp,λx hx=>?_⟩
   rcases aY.mp hx with rfl|hx
   ·exact nu _
   ·cases q:less x a with
    |false=>rfl
    |true=>
     exfalso
     cases q2:less a (least (b::l))with
     |true=>have:=me q q2;rw[i2 x hx]at this;cases this
     |false=>
      have:a=least (b::l):=mh (by rw[hl a bp,hl _ (bg _ i1)]) q2 h
      rw[this,i2 x hx]at q;cases q
theorem X0(hv:vowels w<=5){mn:Nat}(h:ow w=[]\/((∃y∈ow w,sc codas ks w y=mn)/\∀y∈ow w,mn<=sc codas ks w y)):
  (ow w).filter (λy=>sc codas ks w y==mn)=Hh codas ks w:=by
 unfold Hh
 rw[mm hv]
 rcases h with h|⟨⟨y0,Qg,e0⟩,akR⟩
 ·rw[h];rfl
 ·apply iz
  intro y hy
  have qh:(ways w).map (profile codas w ks)≠[]:=by
   intro e
   have:y∈ways w:=(iJ w).mem_iff.mp hy
   rw[Hi]at e;rw[e]at this;simp at this
  obtain⟨l1,l2⟩:=AD (n:=ks.length) qh λa ha=>by obtain⟨z,_,rfl⟩:=aM.mp ha;exact cG z
  obtain⟨z,hz,ez⟩:=aM.mp l1
  have Mg:z∈ow w:=(iJ w).mem_iff.mpr hz
  have emin:sc codas ks w z=mn:=by
   have a:=akR z Mg
   have b:=l2 _ (aM.mpr ⟨y0,(iJ w).mem_iff.mp Qg,rfl⟩)
   rw[<-ez]at b
   have:¬(sc codas ks w y0<sc codas ks w z):=λq=>by
    have:=(vt (by rw[cG,cG]) (sP hv Qg) (sP hv Mg)).mp q
    rw[b]at this;cases this
   omega
  have t:(sc codas ks w y=mn)↔(profile codas w ks y=least ((ways w).map (profile codas w ks))):=by
   rw[<-emin,<-ez];exact abi hv hy Mg
  rw[cV,bX,bX]
  exact t
def dom(n p q:Nat):Bool:=more n p q==0
theorem tL:∀{p q:List Nat},p.length=q.length->((∀b∈qY (λa b=>decide (b<a)) p q,b=false)↔((p.zip q).all λx=>decide (x.1<=x.2))=true)
 |[],[],_=>by simp
 |[],_::_,h=>by simp at h
 |_::_,[],h=>by simp at h
 |a::p,b::q,h=>by
  have ih:=tL (p:=p) (q:=q) (by simpa using h)
  simp only[vx,aY,zz,ja,l4,eJ,ih,fz,bN,Nat.not_lt]
theorem Sv{p:List Nat}(hl:p.length=q.length)(hp:∀d∈p,d<64)(hq:∀d∈q,d<64):dom q.length (val p) (val q)=(p.zip q).all λx=>decide (x.1<=x.2):=by
 unfold dom
 rw[(sO hl hp hq).2,cV,bX,vz]
 exact tL hl
theorem Sw:∀{p q:List Nat},p.length=q.length->((p.zip q).all λx=>decide (x.1<=x.2))=true->(((p.zip q).any λx=>decide (x.1<x.2))=true↔p≠q)
 |[],[],_,_=>by simp
 |[],_::_,h,_=>by simp at h
 |_::_,[],h,_=>by simp at h
 |a::p,b::q,h,ha=>by
  simp only[ja,l4,eJ,bN]at ha
  have ih:=Sw (p:=p) (q:=q) (by simpa using h) ha.2
  simp only[ja,kU,oG,bN,ih,ne_eq,oP,not_and]
  constructor
  ·rintro(h1|h1) e
   ·omega
   ·exact h1
  ·intro h1
   by_cases e:a=b
   ·exact .inr (h1 e)
   ·left;omega
theorem xl{p:List Nat}(hl:p.length=q.length)(hp:∀d∈p,d<64)(hq:∀d∈q,d<64):bounds p q=(!(val p==val q)&&dom q.length (val p) (val q)):=by
 have Xi:∀d∈p,d<128:=λd h=>l9 (hp d h) dd
 have Cw:∀d∈q,d<128:=λd h=>l9 (hq d h) dd
 unfold bounds
 rw[Sv hl hp hq]
 cases h:(p.zip q).all λx=>decide (x.1<=x.2)with
 |false=>simp
 |true=>
  have:=Sw hl h
  rw[fv,Sy,cV,this]
  simp only[d_,fA,ne_eq]
  exact⟨λa b=>a (val_inj hl Xi Cw b),λa b=>a (by rw[b])⟩
theorem Hj(hv:vowels w<=5)(hy:y∈ow w):
  (ow w).filter (λz=>!(sc codas ks w z==sc codas ks w y)&&dom ks.length (sc codas ks w z) (sc codas ks w y))=Hk codas ks w y:=by
 unfold Hk
 rw[mm hv]
 apply iz
 intro z hz
 have:=xl (p:=profile codas w ks z) (q:=profile codas w ks y) (by rw[cG,cG]) (fq hv hz) (fq hv hy)
 rw[cG]at this
 exact this.symm
def ye(D:Nat->Nat->Bool)(L:List Nat):List Nat:=L.foldl (λfree s=>if free.any (λo=>D o s)=true then free else free++[s]) []
theorem AE{D:Nat->Nat->Bool}(U:List Nat)(hr:∀s∈U,D s s=true)(ht:∀a∈U,∀b∈U,∀c∈U,D a b=true->D b c=true->D a c=true)(hle:∀a∈U,∀b∈U,D a b=true->a<=b):
  ∀(L P free:List Nat),(∀s∈P++L,s∈U)->(P++L).Pairwise (·<=·)->(∀f∈free,f∈P)->(∀s∈P,∃f∈free,D f s=true)->(∀f∈free,∀t∈P++L,D t f=true->t=f)->∀s,s∈L.foldl (λfree s=>if free.any (λo=>D o s)=true then free else free++[s]) free↔(s∈free\/(s∈L/\∀t∈P++L,D t s=true->t=s))
 |[],P,free,_,_,_,_,_,s=>by simp
 |x::L,P,free,hU,hs,h1,h2,h3,s=>by
  rw[fK]
  have e:P++x::L=(P++[x])++L:=by simp
  have hxU:x∈U:=hU x (by simp)
  by_cases h:free.any (λo=>D o x)=true
  ·rw[ax h]
   obtain⟨f,hf,hfx⟩:=kZ.mp h
   rw[AE U hr ht hle L (P++[x]) free (by rw[<-e];exact hU) (by rw[<-e];exact hs) (λf hf=>jB _ (h1 f hf)) (λs hs'=>?_) (by rw[<-e];exact h3) s,<-e]
   ·constructor
    ·rintro(q|⟨q1,q2⟩)
     ·exact .inl q
     ·exact .inr ⟨bg _ q1,q2⟩
    ·rintro(q|⟨q1,q2⟩)
     ·exact .inl q
     ·rcases aY.mp q1 with rfl|q1
      ·left
       have:=q2 f (jB _ (h1 f hf)) hfx
       rw[<-this];exact hf
      ·exact .inr ⟨q1,q2⟩
   ·rcases d7.mp hs' with q|q
    ·exact h2 s q
    ·rw[bA.mp q];exact⟨f,hf,hfx⟩
  ·rw[aq h]
   have jx:∀f∈free,D f x=false:=λf hf=>by
    cases q:D f x with
    |false=>rfl
    |true=>exact absurd (kZ.mpr ⟨f,hf,q⟩) h
   have hx:∀t∈P++x::L,D t x=true->t=x:=λt htm hd=>by
    have ags:=hle t (hU t htm) x hxU hd
    rcases d7.mp htm with q|q
    ·obtain⟨f,hf,hft⟩:=h2 t q
     have:=ht f (hU f (jB _ (h1 f hf))) t (hU t htm) x hxU hft hd
     rw[jx f hf]at this;cases this
    ·rcases aY.mp q with q|q
     ·exact q
     ·have:=(jP.mp (Hl.mp hs).2.1).1 t q
      omega
   rw[AE U hr ht hle L (P++[x]) (free++[x]) (by rw[<-e];exact hU) (by rw[<-e];exact hs) (λf hf=>?_) (λs hs'=>?_) (λf hf=>?_) s,<-e]
   ·constructor
    ·rintro(q|⟨q1,q2⟩)
     ·rcases d7.mp q with q|q
      ·exact .inl q
      ·rw[bA.mp q];exact .inr ⟨bp,hx⟩
     ·exact .inr ⟨bg _ q1,q2⟩
    ·rintro(q|⟨q1,q2⟩)
     ·exact .inl (jB _ q)
     ·rcases aY.mp q1 with rfl|q1
      ·exact .inl (iG _ (bA.mpr rfl))
      ·exact .inr ⟨q1,q2⟩
   ·rcases d7.mp hf with q|q
    ·exact jB _ (h1 f q)
    ·exact iG _ q
   ·rcases d7.mp hs' with q|q
    ·obtain⟨f,hf,hd⟩:=h2 s q;exact⟨f,jB _ hf,hd⟩
    ·rw[bA.mp q];exact⟨x,iG _ (bA.mpr rfl),hr x hxU⟩
   ·rw[<-e]
    rcases d7.mp hf with q|q
    ·exact h3 f q
    ·rw[bA.mp q];exact hx
theorem X1{D:Nat->Nat->Bool}{L:List Nat}(hr:∀s∈L,D s s=true)(ht:∀a∈L,∀b∈L,∀c∈L,D a b=true->D b c=true->D a c=true)(hle:∀a∈L,∀b∈L,D a b=true->a<=b)(hs:L.Pairwise (·<=·))(s:Nat):
  s∈ye D L↔s∈L/\∀t∈L,D t s=true->t=s:=by
 unfold ye
 rw[AE L hr ht hle L [] [] (by simp) (by simpa using hs) (by simp) (by simp) (by simp) s]
 simp
theorem yf:∀p:List Nat,((p.zip p).all λx=>decide (x.1<=x.2))=true
 |[]=>rfl
 |a::p=>by simp[yf p]
theorem vB:∀{p q r:List Nat},p.length=q.length->q.length=r.length->((p.zip q).all λx=>decide (x.1<=x.2))=true->((q.zip r).all λx=>decide (x.1<=x.2))=true->((p.zip r).all λx=>decide (x.1<=x.2))=true
 |[],_,_,_,_,_,_=>by simp
 |_::_,[],_,h,_,_,_=>by simp at h
 |_::_,_::_,[],_,h,_,_=>by simp at h
 |a::p,b::q,c::r,h1,h2,h3,h4=>by
  simp only[ja,l4,eJ,bN]at h3 h4⊢
  exact⟨by omega,vB (by simpa using h1) (by simpa using h2) h3.2 h4.2⟩
theorem AF:∀{p q:List Nat},p.length=q.length->((p.zip q).all λx=>decide (x.1<=x.2))=true->val p<=val q
 |[],[],_,_=>by simp[val]
 |[],_::_,h,_=>by simp at h
 |_::_,[],h,_=>by simp at h
 |a::p,b::q,h,ha=>by
  simp only[ja,l4,eJ,bN]at ha
  have h':p.length=q.length:=by simpa using h
  have ih:=AF h' ha.2
  unfold val
  rw[h']
  exact Nat.add_le_add (jk _ ha.1) ih
theorem pI{p:List Nat}:p∈profiles codas ks w↔∃y∈ways w,profile codas w ks y=p:=by
 unfold profiles
 have go:∀(l m:List (List Nat)),p∈l.foldl (λl p=>if l.contains p=true then l else p::l) m↔p∈l\/p∈m:=by
  intro l
  induction l with
  |nil=>intro m;simp
  |cons a l ih=>
   intro m
   rw[fK,ih]
   by_cases h:m.contains a=true
   ·rw[ax h]
    have:a∈m:=by simpa using h
    constructor
    ·rintro(q|q)
     ·exact .inl (bg _ q)
     ·exact .inr q
    ·rintro(q|q)
     ·rcases aY.mp q with rfl|q
      ·exact .inr this
      ·exact .inl q
     ·exact .inr q
   ·rw[aq h]
    simp only[aY]
    constructor
    ·rintro(q|q|q)
     ·exact .inl (.inr q)
     ·exact .inl (.inl q)
     ·exact .inr q
    ·rintro((q|q)|q)
     ·exact .inr (.inl q)
     ·exact .inl q
     ·exact .inr (.inr q)
 rw[go];simp
theorem CM(hv:vowels w<=5){L:List Nat}(hL:∀s,s∈L↔∃y∈ow w,sc codas ks w y=s)(hs:L.Pairwise (·<=·)){free:List Nat}(tT:∀s,s∈free↔s∈ye (dom ks.length) L):
  (ow w).filter (λy=>free.contains (sc codas ks w y))=Hm codas ks w:=by
 have dm:∀y∈ow w,∀z∈ow w,dom ks.length (sc codas ks w y) (sc codas ks w z)=((profile codas w ks y).zip (profile codas w ks z)).all λx=>decide (x.1<=x.2):=λy hy z hz=>by
  have:=Sv (p:=profile codas w ks y) (q:=profile codas w ks z) (by rw[cG,cG]) (fq hv hy) (fq hv hz)
  rw[cG]at this
  exact this
 have um:∀s,s∈ye (dom ks.length) L↔s∈L/\∀t∈L,dom ks.length t s=true->t=s:=X1
  (λs h=>by obtain⟨y,hy,rfl⟩:=(hL s).mp h;rw[dm y hy y hy];exact yf _)
  (λa ha b hb c hc h1 h2=>by
   obtain⟨x,hx,rfl⟩:=(hL a).mp ha
   obtain⟨y,hy,rfl⟩:=(hL b).mp hb
   obtain⟨z,hz,rfl⟩:=(hL c).mp hc
   rw[dm x hx y hy]at h1
   rw[dm y hy z hz]at h2
   rw[dm x hx z hz]
   exact vB (by rw[cG,cG]) (by rw[cG,cG]) h1 h2)
  (λa ha b hb h1=>by
   obtain⟨x,hx,rfl⟩:=(hL a).mp ha
   obtain⟨y,hy,rfl⟩:=(hL b).mp hb
   rw[dm x hx y hy]at h1
   exact AF (by rw[cG,cG]) h1) hs
 unfold Hm
 rw[mm hv]
 apply iz
 intro y hy
 rw[cV,jR,jR,tT,um,bH]
 have hpy:profile codas w ks y∈profiles codas ks w:=pI.mpr ⟨y,(iJ w).mem_iff.mp hy,rfl⟩
 constructor
 ·rintro⟨_,h2⟩
  refine⟨hpy,?_⟩
  rw[d_,<-Hn,kZ]
  rintro⟨q,hq,hb⟩
  obtain⟨z,hz,rfl⟩:=pI.mp hq
  have Mg:=(iJ w).mem_iff.mpr hz
  rw[xl (by rw[cG,cG]) (fq hv Mg) (fq hv hy),eJ,cG]at hb
  have:=h2 _ ((hL _).mpr ⟨z,Mg,rfl⟩) hb.2
  have h1:=hb.1
  have e:(val (profile codas w ks z)==val (profile codas w ks y))=true:=by rw[bX];exact this
  rw[e]at h1;cases h1
 ·rintro⟨_,h2⟩
  refine⟨(hL _).mpr ⟨y,hy,rfl⟩,λt ht hd=>?_⟩
  obtain⟨z,hz,rfl⟩:=(hL t).mp ht
  by_cases e:sc codas ks w z=sc codas ks w y
  ·exact e
  ·exfalso
   rw[d_,<-Hn,kZ]at h2
   refine h2 ⟨profile codas w ks z,pI.mpr ⟨z,(iJ w).mem_iff.mp hz,rfl⟩,?_⟩
   rw[xl (by rw[cG,cG]) (fq hv hz) (fq hv hy),eJ,cG]
   exact⟨by rw[d_,fA];exact e,hd⟩
end
def mf(n:Nat)(f:Nat->Bool):Nat:=mZ ((aE n).map f)
theorem aeA(n:Nat)(f g:Nat->Bool):mf n f|||mf n g=mf n λi=>f i||g i:=by
 unfold mf;rw[So (by simp),Ho,Hq]
theorem Sz(n:Nat)(f g:Nat->Bool):mf n f&&&mf n g=mf n λi=>f i&&g i:=by
 unfold mf;rw[MM (by simp),Ho,Hq]
theorem yT{f:Nat->Bool}:mf n f=0↔∀i,i<n->f i=false:=by
 unfold mf;rw[vz]
 constructor
 ·intro h i hi;exact h _ (aM.mpr ⟨i,bY.mpr hi,rfl⟩)
 ·intro h b hb;obtain⟨i,hi,rfl⟩:=aM.mp hb;exact h i (bY.mp hi)
theorem AG{f g:Nat->Bool}(h:∀i,i<n->f i=g i):mf n f=mf n g:=by
 unfold mf;congr 1;apply mv;intro i hi;exact h i (bY.mp hi)
theorem Hr(n:Nat):mf n (λ_=>false)=0:=yT.mpr λ_ _=>rfl
theorem MO:∀{a b:List Bool},a.length=b.length->(∀x∈a.zip b,¬(x.1=true/\x.2=true))->mZ a+mZ b=mZ (qY (λx y=>x||y) a b)
 |[],[],_,_=>rfl
 |[],_::_,h,_=>by simp at h
 |_::_,[],h,_=>by simp at h
 |x::a,y::b,h,hd=>by
  have h':a.length=b.length:=by simpa using h
  have ih:=MO h' λz hz=>hd z (by rw[ja];exact bg _ hz)
  have h0:=hd (x,y) (by rw[ja];exact bp)
  rw[vx,dY,dY,dY,<-ih,qZ,h',vy]
  have:dg (x||y)=dg x+dg y:=by revert h0;cases x<;>cases y<;>decide
  rw[this,jb];omega
theorem abj{f g:Nat->Bool}(h:∀i,i<n->¬(f i=true/\g i=true)):mf n f+mf n g=mf n λi=>f i||g i:=by
 unfold mf
 rw[MO (by simp),Ho,Hq]
 intro x hx
 rw[AH,aM]at hx
 obtain⟨i,hi,rfl⟩:=hx
 exact h i (bY.mp hi)
theorem KO(h:i<n):128^(n-1-i)*64=mf n λj=>j==i:=MN h
def enc(n:Nat)(p:Pair):Nat×Nat:=(mf n λi=>p.getD i 0==1,mf n λi=>p.getD i 0==2)
theorem yg{a b:List Nat}(h:a.length=b.length):(against a b).length=a.length:=by
 unfold against;rw[aA,Ax,h,vy]
theorem AI{a b:List Nat}(ha:i<a.length)(hb:i<b.length):(against a b).getD i 0=if a.getD i 0<b.getD i 0 then 1 else if b.getD i 0<a.getD i 0 then 2 else 0:=by
 unfold against
 simp only[bM,bz,bT ha,bT hb,AJ]
 have:(a.zip b)[i]?=some (a[i],b[i]):=by
  rw[vC];exact⟨bT ha,bT hb⟩
 rw[this];rfl
theorem AK{p:List Nat}(hl:p.length=q.length):mZ (qY (λa b=>decide (b<a)) p q)=mf q.length λi=>decide (q.getD i 0<p.getD i 0):=by
 unfold mf
 congr 1
 apply jc
 intro i
 by_cases h:i<q.length
 ·have hp:i<p.length:=by omega
  rw[bz,mw h,List.getElem?_zipWith,bT h,bT hp]
  simp[h,hp]
 ·rw[eR (by rw[qZ];omega),eR (by simp;omega)]
theorem Hs{p:List Nat}(hl:p.length=q.length)(hp:∀d∈p,d<64)(hq:∀d∈q,d<64):enc q.length (against p q)=(more q.length (val q) (val p),more q.length (val p) (val q)):=by
 have m1:=(sO hl hp hq).2
 have m2:=(sO hl.symm hq hp).2
 rw[hl]at m2
 unfold enc
 rw[m1,m2,AK hl,AK hl.symm,hl]
 congr 1
 ·apply AG
  intro i hi
  rw[AI oo hi]
  generalize p.getD i 0=x
  generalize q.getD i 0=y
  by_cases h:x<y
  ·simp[h]
  ·rw[aq h];by_cases h2:y<x<;>simp[h,h2]
 ·apply AG
  intro i hi
  rw[AI oo hi]
  generalize p.getD i 0=x
  generalize q.getD i 0=y
  by_cases h:x<y
  ·have h2:¬y<x:=by omega
   simp[h,h2]
  ·rw[aq h];by_cases h2:y<x<;>simp[h2]
theorem Ep{p:Pair}(hl:p.length=n):(enc n p).2≠0↔p.contains 2=true:=by
 have:¬((enc n p).2=0)↔∃i,i<n/\p.getD i 0=2:=by
  unfold enc
  rw[yT]
  constructor
  ·intro h
   rw[Classical.not_forall]at h
   obtain⟨i,h⟩:=h
   rw[Classical.not_imp]at h
   exact⟨i,h.1,by simpa using h.2⟩
  ·rintro⟨i,hi,e⟩ h
   have:=h i hi
   rw[e]at this;simp at this
 rw[ne_eq,this,jR,Ht]
 constructor
 ·rintro⟨i,hi,e⟩
  refine⟨i,?_⟩
  rw[bM]at e
  cases q:p[i]?with
  |none=>rw[q]at e;simp at e
  |some x=>rw[q]at e;simp at e;rw[e]
 ·rintro⟨i,e⟩
  have:i<p.length:=(gx.mp e).1
  exact⟨i,by omega,by rw[bM,e];rfl⟩
def dG(ps:List (Nat×Nat)):Nat:=ps.foldl (λb p=>b|||p.2) 0
def lG(ps:List (Nat×Nat))(bits:Nat):List (Nat×Nat):=ps.filter λp=>p.1&&&bits==0
def jS(bit:Nat->Nat):Nat->List Nat->List (Nat×Nat)->Option (List (List Nat))
 |0,rules,_=>if rules.isEmpty=true then some []else none
 |f+1,rules,ps=>if rules.isEmpty=true then some []else
  let rank:=rules.filter λr=>bit r&&&dG ps==0
  if rank.isEmpty=true then none else(jS bit f (rules.filter λr=>!rank.contains r) (lG ps (rank.map bit).sum)).map λl=>rank::l
def Enc(n:Nat)(ps:List (Nat×Nat))(P:List Pair):Prop:=∀x,x∈ps↔∃p∈P,x=enc n p
theorem SA(n:Nat):∀(ps:List (Nat×Nat))(P:List Pair),(∀x∈ps,∃p∈P,x=enc n p)->∃f:Nat->Bool,dG ps=mf n f/\∀i,i<n->(f i=true↔∃x∈ps,∃p∈P,x=enc n p/\p.getD i 0=2):=by
 intro ps P
 unfold dG
 have go:∀(ps:List (Nat×Nat))(b:Nat)(g:Nat->Bool),b=mf n g->(∀x∈ps,∃p∈P,x=enc n p)->∃f:Nat->Bool,ps.foldl (λb p=>b|||p.2) b=mf n f/\∀i,i<n->(f i=true↔(g i=true\/∃x∈ps,∃p∈P,x=enc n p/\p.getD i 0=2)):=by
  intro ps
  induction ps with
  |nil=>intro b g hb _;exact⟨g,hb,λi _=>by simp⟩
  |cons x ps ih=>
   intro b g hb h
   obtain⟨p,hp,rfl⟩:=h x bp
   obtain⟨f,e,hf⟩:=ih (b|||(enc n p).2) (λi=>g i||p.getD i 0==2) (by rw[hb];exact aeA n g _) λy hy=>h y (bg _ hy)
   refine⟨f,e,λi hi=>?_⟩
   rw[hf i hi]
   simp only[oG,bX]
   constructor
   ·rintro((q|q)|⟨x,hx,q⟩)
    ·exact .inl q
    ·exact .inr ⟨_,bp,p,hp,rfl,q⟩
    ·exact .inr ⟨x,bg _ hx,q⟩
   ·rintro(q|⟨x,hx,p',Xi,e',q⟩)
    ·exact .inl (.inl q)
    ·rcases aY.mp hx with rfl|hx
     ·
      have e2:mf n (λi=>p.getD i 0==2)=mf n (λi=>p'.getD i 0==2):=congrArg (·.2) e'
      left;right
      unfold mf at e2
      have:=XZ (by simp) e2
      have:=congrArg (λl=>l[i]?) this
      simp[hi]at this
      rw[cV]at this
      simpa using this.mpr (by simpa using q)
     ·exact .inr ⟨x,hx,p',Xi,e',q⟩
 intro h
 obtain⟨f,e,hf⟩:=go ps 0 (λ_=>false) (Hr n).symm h
 exact⟨f,e,λi hi=>by rw[hf i hi];simp⟩
theorem Hu{ps:List (Nat×Nat)}{P:List Pair}(E:Enc n ps P)(hi:i<n):((128^(n-1-i)*64)&&&dG ps==0)=P.all λp=>p.getD i 0 !=2:=by
 obtain⟨f,e,hf⟩:=SA n ps P λx hx=>(E x).mp hx
 rw[e,KO hi,Sz,cV,bX,yT,c_]
 constructor
 ·intro h p hp
  have:=h i hi
  simp only[f9,fv]at this
  rw[fH]
  intro e2
  have:=(hf i hi).mpr ⟨enc n p,(E _).mpr ⟨p,hp,rfl⟩,p,hp,rfl,e2⟩
  simp_all
 ·intro h j hj
  by_cases hji:j=i
  ·subst hji
   simp only[f9,fv]
   cases q:f j with
   |false=>rfl
   |true=>
    obtain⟨x,_,p,hp,_,e2⟩:=(hf j hj).mp q
    have:=h p hp
    rw[fH]at this
    exact absurd e2 this
  ·simp[hji]
theorem Hv{ps:List (Nat×Nat)}{P:List Pair}(E:Enc n ps P){g:Nat->Bool}{bits:Nat}(hb:bits=mf n g):Enc n (lG ps bits) (P.filter λp=>(aE n).all λi=>!(g i&&p.getD i 0==1)):=by
 intro x
 unfold lG
 rw[bH,E x,hb]
 have key:∀p:Pair,((enc n p).1&&&mf n g==0)=(aE n).all λi=>!(g i&&p.getD i 0==1):=by
  intro p
  unfold enc
  rw[Sz,cV,bX,yT,c_]
  constructor
  ·intro h i hi
   have:=h i (bY.mp hi)
   rw[Hw]at this
   rw[this];rfl
  ·intro h i hi
   have:=h i (bY.mpr hi)
   rw[Hw]
   exact d_ _|>.mp this
 constructor
 ·rintro⟨⟨p,hp,rfl⟩,h⟩
  exact⟨p,bH.mpr ⟨hp,by rw[<-key];exact h⟩,rfl⟩
 ·rintro⟨p,hp,rfl⟩
  obtain⟨h1,h2⟩:=bH.mp hp
  exact⟨⟨p,h1,rfl⟩,by rw[key];exact h2⟩
abbrev qa(ks:List Nat)(i:Nat):Nat:=ks.getD i 0
abbrev di(ks:List Nat)(k:Nat):Nat:=pl ks k*64
theorem AL(hn:ks.Nodup)(hi:i<ks.length):di ks (qa ks i)=128^(ks.length-1-i)*64:=by
 unfold di qa
 rw[Z1 hn (i:=i) (by rw[bM,bT hi];rfl)]
theorem MP(hn:ks.Nodup)(hi:i<ks.length)(hj:j<ks.length)(e:qa ks i=qa ks j):i=j:=by
 unfold qa at e
 rw[bM,bM,bT hi,bT hj]at e
 exact(QA hn).mp e
theorem Dz:(aE ks.length).map (qa ks)=ks:=by
 apply jc
 intro i
 by_cases h:i<ks.length
 ·simp[h]
 ·rw[eR (by simp;omega),eR oo]
theorem Hx(hn:ks.Nodup):∀{r:List Nat},r.Nodup->(∀i∈r,i<ks.length)->((r.map (qa ks)).map (di ks)).sum=mf ks.length λi=>r.contains i
 |[],_,_=>by simp[Hr]
 |a::r,hr,hl=>by
  have Kd:=iZ.mp hr
  simp only[bb,fP]
  rw[Hx hn Kd.2 λi hi=>hl i (bg _ hi),AL hn (hl a bp),KO (hl a bp),abj]
  ·apply AG;intro i _;rw[Hy]
  ·rintro i _ ⟨h1,h2⟩
   simp only[bX]at h1
   subst h1
   exact Kd.1 (by simpa using h2)
theorem Oy(hn:ks.Nodup):∀(f:Nat)(left:List Nat)(ps:List (Nat×Nat))(P:List Pair),left.length<=f->left.Nodup->(∀i∈left,i<ks.length)->Enc ks.length ps P->(∀p∈P,∃i∈left,p.getD i 0=2)->jS (di ks) f (left.map (qa ks)) ps=(ranks (f+1) left P).map λl=>l.map λr=>r.map (qa ks):=by
 intro f
 induction f with
 |zero=>
  intro left ps P hf _ _ _ hP
  have:left=[]:=my.mp oo
  subst this
  have:P=[]:=by
   cases P with
   |nil=>rfl
   |cons p P=>obtain⟨i,hi,_⟩:=hP p bp;simp at hi
  subst this
  rfl
 |succ f ih=>
  intro left ps P hf hnd hlt E hP
  by_cases he:left=[]
  ·subst he
   have:P=[]:=by
    cases P with
    |nil=>rfl
    |cons p P=>obtain⟨i,hi,_⟩:=hP p bp;simp at hi
   subst this
   rfl
  ·have hb:left.isEmpty=false:=by cases left with
    |nil=>exact absurd rfl he
    |cons=>rfl
   have hb2:(left.map (qa ks)).isEmpty=false:=by cases left with
    |nil=>exact absurd rfl he
    |cons=>rfl
   have er:(left.map (qa ks)).filter (λr=>di ks r&&&dG ps==0)=(left.filter λi=>P.all λp=>p.getD i 0 !=2).map (qa ks):=by
    rw[iq]
    congr 1
    apply iz
    intro i hi
    show(di ks (qa ks i)&&&dG ps==0)=_
    rw[AL hn (hlt i hi),Hu E (hlt i hi)]
   have s1:jS (di ks) (f+1) (left.map (qa ks)) ps=if((left.filter λi=>P.all λp=>p.getD i 0 !=2).map (qa ks)).isEmpty=true then none else
     (jS (di ks) f ((left.map (qa ks)).filter λr=>!((left.filter λi=>P.all λp=>p.getD i 0 !=2).map (qa ks)).contains r) (lG ps (((left.filter λi=>P.all λp=>p.getD i 0 !=2).map (qa ks)).map (di ks)).sum)).map
      λl=>(left.filter λi=>P.all λp=>p.getD i 0 !=2).map (qa ks)::l:=by
    show(if(left.map (qa ks)).isEmpty=true then some []else _)=_
    rw[hb2,aq dd,er]
   have s2:ranks (f+1+1) left P=if(left.filter λi=>P.all λp=>p.getD i 0 !=2).isEmpty=true then none else
     (ranks (f+1) (left.filter λi=>!(left.filter λi=>P.all λp=>p.getD i 0 !=2).contains i) (P.filter λp=>(left.filter λi=>P.all λp=>p.getD i 0 !=2).all λi=>p.getD i 0 !=1)).map
      λl=>(left.filter λi=>P.all λp=>p.getD i 0 !=2)::l:=by
    show(if left.isEmpty=true then _ else _)=_
    rw[hb,aq dd]
   rw[s1,s2]
   generalize hr:(left.filter λi=>P.all λp=>p.getD i 0 !=2)=r
   have hrn:r.Nodup:=by rw[<-hr];exact hnd.filter _
   have sI:∀i∈r,i∈left:=λi hi=>by rw[<-hr]at hi;exact(bH.mp hi).1
   have WO:∀i∈left,(i∈r↔∀p∈P,p.getD i 0≠2):=λi hi=>by
    rw[<-hr,bH];simp[hi]
   have em:(r.map (qa ks)).isEmpty=r.isEmpty:=by cases r<;>rfl
   rw[em]
   by_cases hre:r.isEmpty=true
   ·rw[ax hre,ax hre];rfl
   ·rw[aq hre,aq hre]
    have e3:(left.map (qa ks)).filter (λk=>!(r.map (qa ks)).contains k)=(left.filter λi=>!r.contains i).map (qa ks):=by
     rw[iq]
     congr 1
     apply iz
     intro i hi
     show(!(r.map (qa ks)).contains (qa ks i))= !r.contains i
     congr 1
     rw[cV,jR,jR,aM]
     constructor
     ·rintro⟨j,hj,e⟩
      rw[<-MP hn (hlt j (sI j hj)) (hlt i hi) e];exact hj
     ·intro h;exact⟨i,h,rfl⟩
    have e4:Enc ks.length (lG ps ((r.map (qa ks)).map (di ks)).sum) (P.filter λp=>r.all λi=>p.getD i 0 !=1):=by
     have:=Hv E (Hx hn hrn λi hi=>hlt i (sI i hi))
     have e:(P.filter λp=>r.all λi=>p.getD i 0 !=1)=P.filter λp=>(aE ks.length).all λi=>!(r.contains i&&p.getD i 0==1):=by
      apply iz
      intro p _
      rw[cV,c_,c_]
      constructor
      ·intro h i _
       by_cases hi:i∈r
       ·have:=h i hi
        rw[fH]at this
        simp only[d_,vm,fA]
        exact .inr this
       ·simp[hi]
      ·intro h i hi
       have:=h i (bY.mpr (hlt i (sI i hi)))
       simp only[d_,vm,fA]at this
       rw[fH]
       rcases this with q|q
       ·have:r.contains i=true:=by simpa using hi
        rw[this]at q;cases q
       ·exact q
     rw[e];exact this
    have hlen:(left.filter λi=>!r.contains i).length<=f:=by
     obtain⟨j,hj⟩:∃j,j∈r:=by cases r with
      |nil=>exact absurd rfl hre
      |cons j r=>exact⟨j,bp⟩
     have h1:(left.filter λi=>!r.contains i).length<left.length:=by
      exact SE.mpr ⟨j,sI j hj,by simpa using hj⟩
     omega
    rw[e3,ih _ _ _ hlen (hnd.filter _) (λi hi=>hlt i (bH.mp hi).1) e4 (λp hp=>?_)]
    ·cases ranks (f+1) (left.filter λi=>!r.contains i) (P.filter λp=>r.all λi=>p.getD i 0 !=1)<;>rfl
    ·obtain⟨qo,_⟩:=bH.mp hp
     obtain⟨i,hi,e⟩:=hP p qo
     refine⟨i,bH.mpr ⟨hi,?_⟩,e⟩
     have:¬i∈r:=λq=>(WO i hi).mp q p qo e
     simpa using this
def steps(ks:List Nat)(x:List Nat×List (Nat×Nat)):List (List Nat×List (Nat×Nat)):=
 (ks.filter λr=>!x.1.contains r&&(di ks r&&&dG x.2==0)).map λr=>(x.1++[r],lG x.2 (di ks r))
def X2(ks:List Nat):Nat->List (List Nat×List (Nat×Nat))->List (List Nat×List (Nat×Nat))
 |0,b=>b
 |k+1,b=>X2 ks k (b.flatMap (steps ks))
def fo(ks:List Nat):Nat->List Nat->List (Nat×Nat)->List (List Nat)
 |0,_,_=>[[]]
 |k+1,l,ps=>(l.filter λr=>di ks r&&&dG ps==0).flatMap λr=>(fo ks k (l.filter λy=>y !=r) (lG ps (di ks r))).map λo=>r::o
theorem SG:∀(k:Nat)(b:List (List Nat×List (Nat×Nat))),(X2 ks k b).map (·.1)=b.flatMap λx=>(fo ks k (ks.filter λr=>!x.1.contains r) x.2).map λo=>x.1++o
 |0,b=>by
  simp only[X2,fo,bb,gH,cW]
  induction b with
  |nil=>rfl
  |cons a b ih=>simp[ih]
 |k+1,b=>by
  rw[X2,SG k,R5]
  congr 1
  funext x
  unfold steps
  rw[G']
  show _=((((ks.filter λr=>!x.1.contains r).filter λr=>di ks r&&&dG x.2==0).flatMap λr=>(fo ks k ((ks.filter λr=>!x.1.contains r).filter λy=>y !=r) (lG x.2 (di ks r))).map λo=>r::o)).map λo=>x.1++o
  rw[Hz,vk]
  have e:(ks.filter λa=>(di ks a&&&dG x.2==0)&&!x.1.contains a)=ks.filter λr=>!x.1.contains r&&(di ks r&&&dG x.2==0):=by
   apply iz;intro a _;exact Hw _ _
  rw[e]
  congr 1
  funext r
  rw[Hz,cg]
  have e2:(ks.filter λa=>!(x.1++[r]).contains a)=ks.filter λa=>(a !=r)&&!x.1.contains a:=by
   apply iz
   intro a _
   rw[cV]
   simp only[d_,<-Hn,jR,d7,bA,iS,eJ,fH,ne_eq]
   exact And.comm
  rw[e2]
  congr 1
  funext o
  simp
theorem xm(x:Nat)(r:List Nat)(p:Pair):wins (x::r) p=if p.getD x 0 !=0 then p.getD x 0==1 else wins r p:=by
 unfold wins
 rw[oH]
 cases h:p.getD x 0 !=0 with
 |true=>simp
 |false=>simp
theorem mz{α β:Type}(p:α->Bool)(f:α->List β):∀l:List α,(l.filter p).flatMap f=l.flatMap λx=>if p x=true then f x else[]
 |[]=>rfl
 |a::l=>by
  rw[i_,eS]
  by_cases h:p a=true
  ·rw[ax h,ax h,eS,mz p f l]
  ·rw[aq h,aq h,mz p f l];rfl
theorem q_{α β:Type}{f g:α->List β}:∀{l:List α},(∀x∈l,f x=g x)->l.flatMap f=l.flatMap g
 |[],_=>rfl
 |a::l,h=>by
  rw[eS,eS,h a bp,q_ λx hx=>h x (bg _ hx)]
def aeC(P:List Pair):Prop:=∀p∈P,∀i,p.getD i 0=0\/p.getD i 0=1\/p.getD i 0=2
theorem Z2(hn:ks.Nodup):∀(k:Nat)(l:List Nat)(ps:List (Nat×Nat))(P:List Pair),(∀i∈l,i<ks.length)->Enc ks.length ps P->aeC P->fo ks k (l.map (qa ks)) ps=((orders k l).filter λo=>P.all (wins o)).map λo=>o.map (qa ks)
 |0,l,ps,P,_,_,_=>by
  have:(orders 0 l).filter (λo=>P.all (wins o))=[[]]:=by
   show([[]]:List (List Nat)).filter _=_
   rw[i_,ax (by rw[c_];intro p _;rfl)];rfl
  rw[this];rfl
 |k+1,l,ps,P,hl,E,abk=>by
  show(((l.map (qa ks)).filter λr=>di ks r&&&dG ps==0).flatMap λr=>(fo ks k ((l.map (qa ks)).filter λy=>y !=r) (lG ps (di ks r))).map λo=>r::o)=
   (((l.flatMap λx=>(orders k (l.filter λy=>y !=x)).map λr=>x::r).filter λo=>P.all (wins o)).map λo=>o.map (qa ks))
  rw[mz,G',List.filter_flatMap,vk]
  apply q_
  intro x hx
  have hxl:=hl x hx
  rw[AL hn hxl,Hu E hxl]
  have ef:(l.map (qa ks)).filter (λy=>y !=qa ks x)=(l.filter λy=>y !=x).map (qa ks):=by
   rw[iq]
   congr 1
   apply iz
   intro j hj
   show(qa ks j !=qa ks x)=(j !=x)
   rw[cV,fH,fH]
   exact⟨λa b=>a (by rw[b]),λa b=>a (MP hn (hl j hj) hxl b)⟩
  rw[ef,iq,cg]
  by_cases hok:(P.all λp=>p.getD x 0 !=2)=true
  ·rw[ax hok]
   have E2:Enc ks.length (lG ps (128^(ks.length-1-x)*64)) (P.filter λp=>p.getD x 0 !=1):=by
    have:=Hv E (KO hxl)
    have e:(P.filter λp=>p.getD x 0 !=1)=P.filter λp=>(aE ks.length).all λi=>!(i==x&&p.getD i 0==1):=by
     apply iz
     intro p _
     rw[cV,c_]
     constructor
     ·intro h i _
      by_cases hi:i=x
      ·subst hi
       rw[fH]at h
       simp only[d_,vm,fA]
       exact .inr h
      ·simp[hi]
     ·intro h
      have:=h x (bY.mpr hxl)
      simp only[d_,vm,fA,f9]at this
      rw[fH]
      rcases this with q|q
      ·cases q
      ·exact q
    rw[e];exact this
   rw[Z2 hn k _ _ _ (λi hi=>hl i (bH.mp hi).1) E2 (λp hp=>abk p (bH.mp hp).1),cg]
   have ew:(orders k (l.filter λy=>y !=x)).filter (λo=>(P.filter λp=>p.getD x 0 !=1).all (wins o))=(orders k (l.filter λy=>y !=x)).filter ((λo=>P.all (wins o))∘λr=>x::r):=by
    apply iz
    intro o _
    show _=P.all (wins (x::o))
    rw[cV,c_,c_]
    rw[c_]at hok
    constructor
    ·intro h p hp
     rw[xm]
     have h2:=hok p hp
     rw[fH]at h2
     rcases abk p hp x with q|q|q
     ·rw[q,aq dd]
      exact h p (bH.mpr ⟨hp,by rw[q];rfl⟩)
     ·rw[q];rfl
     ·exact absurd q h2
    ·intro h p hp
     obtain⟨qo,w6⟩:=bH.mp hp
     have:=h p qo
     rw[xm]at this
     have h2:=hok p qo
     rw[fH]at h2 w6
     rcases abk p qo x with q|q|q
     ·rw[q,aq dd]at this;exact this
     ·exact absurd q w6
     ·exact absurd q h2
   rw[ew]
   rfl
  ·rw[aq hok]
   have ew:(orders k (l.filter λy=>y !=x)).filter ((λo=>P.all (wins o))∘λr=>x::r)=[]:=by
    rw[List.filter_eq_nil_iff]
    intro o _ h
    apply hok
    have h:P.all (wins (x::o))=true:=h
    rw[c_]at h⊢
    intro p hp
    have:=h p hp
    rw[xm]at this
    rw[fH]
    intro q
    rw[q]at this
    simp at this
   rw[ew];rfl
theorem SH{p:Pair}(h:p∈said codas ks d):p.length=ks.length:=by
 obtain⟨h1,_⟩:=bH.mp h
 obtain⟨x,_,h2⟩:=fO.mp h1
 obtain⟨z,_,rfl⟩:=aM.mp h2
 rw[yg (by rw[cG,cG]),cG]
theorem SI{p:Pair}(h:p∈said codas ks d):∃i∈aE ks.length,p.getD i 0=2:=by
 have hl:=SH h
 obtain⟨_,h2⟩:=bH.mp h
 rw[jR,Ht]at h2
 obtain⟨i,e⟩:=h2
 have:i<p.length:=(gx.mp e).1
 exact⟨i,bY.mpr oo,by rw[bM,e];rfl⟩
theorem HA{a b:List Nat}:∀i,(against a b).getD i 0=0\/(against a b).getD i 0=1\/(against a b).getD i 0=2:=by
 intro i
 unfold against
 rw[bM,bz]
 cases(a.zip b)[i]?with
 |none=>simp
 |some x=>
  simp only[gJ,AJ]
  split
  ·simp
  ·split<;>simp
theorem SJ:aeC (said codas ks d):=by
 intro p h i
 obtain⟨h1,_⟩:=bH.mp h
 obtain⟨x,_,h2⟩:=fO.mp h1
 obtain⟨z,_,rfl⟩:=aM.mp h2
 exact HA i
theorem Oz(hn:ks.Nodup){ps:List (Nat×Nat)}(E:Enc ks.length ps (said codas ks d)):jS (di ks) ks.length ks ps=learnt codas ks d:=by
 have:=Oy hn ks.length (aE ks.length) ps _ (by simp) AM (λi hi=>bY.mp hi) E λp hp=>SI hp
 rw[Dz]at this
 exact this
theorem KP(hn:ks.Nodup){ps:List (Nat×Nat)}(E:Enc ks.length ps (said codas ks d)):(X2 ks ks.length [([],ps)]).map (·.1)=HB codas ks d:=by
 rw[SG]
 have e:(ks.filter λr=>!([]:List Nat).contains r)=(aE ks.length).map (qa ks):=by
  rw[Dz,AN];intro a _;rfl
 show(fo ks ks.length (ks.filter λr=>!([]:List Nat).contains r) ps).map (λo=>[]++o)++[]=_
 rw[e,Z2 hn _ _ _ _ (λi hi=>bY.mp hi) E SJ,cW,cg]
 rfl
theorem HC{w:Word}(hv:vowels w<=5)(hy:y∈ow w)(x:Nat×Nat):
  (∃p∈said codas ks [(w,y)],x=enc ks.length p)↔∃z∈ow w,more ks.length (sc codas ks w y) (sc codas ks w z)≠0/\x=(more ks.length (sc codas ks w z) (sc codas ks w y),more ks.length (sc codas ks w y) (sc codas ks w z)):=by
 have key:∀z∈ow w,enc ks.length (against (profile codas w ks y) (profile codas w ks z))=(more ks.length (sc codas ks w z) (sc codas ks w y),more ks.length (sc codas ks w y) (sc codas ks w z)):=λz hz=>by
  have:=Hs (p:=profile codas w ks y) (q:=profile codas w ks z) (by rw[cG,cG]) (fq hv hy) (fq hv hz)
  rw[cG]at this
  exact this
 have two:∀z∈ow w,(more ks.length (sc codas ks w y) (sc codas ks w z)≠0↔(against (profile codas w ks y) (profile codas w ks z)).contains 2=true):=λz hz=>by
  rw[<-Ep (n:=ks.length) (by rw[yg (by rw[cG,cG]),cG]),key z hz]
 unfold said
 simp only[eS,Ak,cW]
 constructor
 ·rintro⟨p,hp,rfl⟩
  obtain⟨h1,h2⟩:=bH.mp hp
  obtain⟨z,hz,rfl⟩:=aM.mp h1
  have Mg:=(iJ w).mem_iff.mpr hz
  exact⟨z,Mg,(two z Mg).mpr h2,key z Mg⟩
 ·rintro⟨z,hz,h1,rfl⟩
  exact⟨_,bH.mpr ⟨aM.mpr ⟨z,(iJ w).mem_iff.mp hz,rfl⟩,(two z hz).mp h1⟩,(key z hz).symm⟩
theorem HD(p:Pair):p∈said codas ks d↔∃x∈d,p∈said codas ks [x]:=by
 unfold said
 simp only[bH,fO,bA]
 constructor
 ·rintro⟨⟨x,hx,h⟩,h2⟩;exact⟨x,hx,⟨x,rfl,h⟩,h2⟩
 ·rintro⟨x,hx,⟨x',rfl,h⟩,h2⟩;exact⟨⟨x',hx,h⟩,h2⟩
end Bt
namespace Bt
open Sw63 Sw63Neutral
abbrev m8(l:List Nat):List Int:=l.map λ(n:Nat)=>(n:Int)
variable{d:Told}{l':List Int}{n:Nat}{r:List Nat}{y:Way}
theorem pJ{l:List Int}(h:natIn l=some (n,l')):l=(n:Int)::l'/\n<2^32:=by
 cases l with
 |nil=>simp[natIn]at h
 |cons a l=>
  have h:(if 0<=a/\a<2^32 then some (a.toNat,l)else none)=some (n,l'):=h
  split at h
  ·rename_i hc
   simp only[gL,mB]at h
   obtain⟨h1,h2⟩:=h
   subst h2
   exact⟨by congr 1;omega,by omega⟩
  ·simp at h
theorem DA{A:Type}{p:List Int->Option (A×List Int)}{k:Nat}{l:List Int}{xs:List A}(h:many_ p (k+1) l=some (xs,l')):∃x m ys,p l=some (x,m)/\many_ p k m=some (ys,l')/\xs=x::ys:=by
 unfold many_ at h
 cases hp:p l with
 |none=>rw[hp]at h;simp at h
 |some x=>
  rw[hp]at h
  simp only[rb]at h
  cases hm:many_ p k x.2 with
  |none=>rw[hm]at h;simp at h
  |some y=>
   rw[hm]at h
   simp only[gJ,gL,mB]at h
   obtain⟨h1,h2⟩:=h
   exact⟨x.1,x.2,y.1,rfl,by rw[hm,<-h2],h1.symm⟩
theorem xn{A:Type}{p:List Int->Option (A×List Int)}{e:A->List Int}(hp:∀l x l',p l=some (x,l')->l=e x++l'):∀{k:Nat}{l l':List Int}{xs:List A},many_ p k l=some (xs,l')->l=xs.flatMap e++l'/\xs.length=k
 |0,l,l',xs,h=>by
  simp only[many_,gL,mB]at h
  obtain⟨rfl,rfl⟩:=h
  simp
 |k+1,l,l',xs,h=>by
  obtain⟨x,m,ys,h1,h2,rfl⟩:=DA h
  obtain⟨e1,e2⟩:=xn hp h2
  have e3:=hp _ _ _ h1
  rw[e3,e1]
  simp[e2]
theorem yh{A B:Type}{p:List Int->Option (A×List Int)}{e:B->List Int}{g:B->A}{C:B->Prop}(hp:∀l x l',p l=some (x,l')->∃b,x=g b/\l=e b++l'/\C b):∀{k:Nat}{l l':List Int}{xs:List A},many_ p k l=some (xs,l')->∃bs:List B,xs=bs.map g/\l=bs.flatMap e++l'/\bs.length=k/\∀b∈bs,C b
 |0,l,l',xs,h=>by
  simp only[many_,gL,mB]at h
  obtain⟨rfl,rfl⟩:=h
  exact⟨[],rfl,rfl,rfl,by simp⟩
 |k+1,l,l',xs,h=>by
  obtain⟨x,m,ys,h1,h2,rfl⟩:=DA h
  obtain⟨bs,e1,e2,e3,c⟩:=yh hp h2
  obtain⟨b,q1,q2,q3⟩:=hp _ _ _ h1
  refine⟨b::bs,by rw[bb,<-q1,<-e1],by rw[q2,e2];simp,by simp[e3],λc' hc=>?_⟩
  rcases aY.mp hc with rfl|hc
  ·exact q3
  ·exact c c' hc
theorem rg{A:Type}{p:List Int->Option (A×List Int)}{l:List Int}{xs:List A}(h:listIn p l=some (xs,l')):∃n m,l=n::m/\0<=n/\n<=60/\many_ p n.toNat m=some (xs,l'):=by
 cases l with
 |nil=>simp[listIn]at h
 |cons n m=>
  have h:(if 0<=n/\n<=60 then many_ p n.toNat m else none)=some (xs,l'):=h
  split at h
  ·rename_i hc;exact⟨n,m,rfl,hc.1,hc.2,h⟩
  ·simp at h
theorem AO{l:List Int}{xs:List Nat}(h:listIn natIn l=some (xs,l')):l=(xs.length:Int)::(m8 xs++l')/\xs.length<=60:=by
 obtain⟨n,m,rfl,h1,h2,h3⟩:=rg h
 obtain⟨e1,e2⟩:=xn (e:=λ(n:Nat)=>[(n:Int)]) (λl x l' q=>(pJ q).1) h3
 have e4:∀xs:List Nat,xs.flatMap (λ(n:Nat)=>[(n:Int)])=m8 xs:=by
  intro xs
  induction xs with
  |nil=>rfl
  |cons a l ih=>rw[eS,ih];rfl
 rw[e1,e4]
 exact⟨by congr 1;omega,by omega⟩
abbrev Er(x:Sound):List Int:=[(x.kind:Int),(x.loud:Int)]
theorem Es{l:List Int}{x:Sound}(h:soundIn l=some (x,l')):l=Er x++l':=by
 unfold soundIn at h
 cases h1:natIn l with
 |none=>rw[h1]at h;simp at h
 |some k=>
  rw[h1]at h
  simp only[rb]at h
  cases h2:natIn k.2 with
  |none=>rw[h2]at h;simp at h
  |some j=>
   rw[h2]at h
   simp only[gJ,gL,mB]at h
   obtain⟨rfl,rfl⟩:=h
   rw[(pJ h1).1,(pJ h2).1]
   rfl
abbrev tZ(w:Word):List Int:=(w.length:Int)::w.flatMap Er
theorem nB{l:List Int}{w:Word}(h:wordIn l=some (w,l')):l=tZ w++l'/\w.length<=60:=by
 obtain⟨n,m,rfl,h1,h2,h3⟩:=rg h
 obtain⟨e1,e2⟩:=xn (e:=Er) (λl x l' q=>Es q) h3
 rw[e1]
 exact⟨by show _=(f_ w:Int)::_;congr 1;omega,by show f_ w<=60;omega⟩
abbrev CN(r:List Nat):List Int:=(r.length:Int)::m8 r
theorem KQ{l:List Int}(h:wayIn l=some (y,l')):∃r:List Nat,y=wayOf r/\l=CN r++l'/\r.length<=60:=by
 unfold wayIn at h
 cases h1:listIn natIn l with
 |none=>rw[h1]at h;simp at h
 |some x=>
  rw[h1]at h
  simp only[gJ,gL,mB]at h
  obtain⟨rfl,rfl⟩:=h
  obtain⟨e1,e2⟩:=AO h1
  exact⟨x.1,rfl,by rw[e1];rfl,e2⟩
abbrev nT(x:Word×List Nat):List Int:=tZ x.1++CN x.2
theorem rh{l:List Int}{x:Word×Way}(h:toldIn l=some (x,l')):∃b:Word×List Nat,x=(b.1,wayOf b.2)/\l=nT b++l'/\(b.1.length<=60/\b.2.length<=60):=by
 unfold toldIn at h
 cases h1:wordIn l with
 |none=>rw[h1]at h;simp at h
 |some w=>
  rw[h1]at h
  simp only[rb]at h
  cases h2:wayIn w.2 with
  |none=>rw[h2]at h;simp at h
  |some y=>
   rw[h2]at h
   simp only[gJ,gL,mB]at h
   obtain⟨rfl,rfl⟩:=h
   obtain⟨r,e1,e2,e3⟩:=KQ h2
   obtain⟨e4,e5⟩:=nB h1
   refine⟨(w.1,r),by rw[e1],?_,e5,e3⟩
   rw[e4,e2];simp
theorem vE{l:List Int}(h:listIn toldIn l=some (d,l')):∃bs:List (Word×List Nat),d=bs.map (λb=>(b.1,wayOf b.2))/\l=(bs.length:Int)::(bs.flatMap nT++l')/\bs.length<=60/\∀b∈bs,b.1.length<=60/\b.2.length<=60:=by
 obtain⟨n,m,rfl,h1,h2,h3⟩:=rg h
 obtain⟨bs,e1,e2,e3,e4⟩:=yh (e:=nT) (g:=λb=>(b.1,wayOf b.2)) (C:=λb=>b.1.length<=60/\b.2.length<=60) (λl x l' q=>rh q) h3
 exact⟨bs,e1,by rw[e2];congr 1;omega,by omega,e4⟩
theorem all_some{A:Type}{x:Option (A×List Int)}{a:A}(h:all_ x=some a):x=some (a,[]):=by
 unfold all_ at h
 cases x with
 |none=>simp at h
 |some y=>
  simp only[rb]at h
  split at h
  ·rename_i he
   obtain⟨y1,y2⟩:=y
   simp only[List.isEmpty_iff]at he
   subst he
   simp at h;rw[h]
  ·simp at h
inductive jT:List Int->mC->Prop
 |begins:jT [0] .begins
 |codas (z:Nat):jT [1,(z:Int)] (.codas z)
 |rules (r:List Nat):r.length<=60->jT (2::CN r) (.rules r)
 |many (w:Word):w.length<=60->jT (3::tZ w) (.many w)
 |best (w:Word):w.length<=60->jT (4::tZ w) (.best w)
 |profile (w:Word) (r:List Nat):w.length<=60->r.length<=60->jT (5::nT (w,r)) (.profile w (wayOf r))
 |bounding (w:Word) (r:List Nat):w.length<=60->r.length<=60->jT (6::nT (w,r)) (.bounding w (wayOf r))
 |contenders (w:Word):w.length<=60->jT (7::tZ w) (.contenders w)
 |learn (bs:List (Word×List Nat)):bs.length<=60->(∀b∈bs,b.1.length<=60/\b.2.length<=60)->jT (8::(bs.length:Int)::bs.flatMap nT) (.learn (bs.map λb=>(b.1,wayOf b.2)))
 |fitting (bs:List (Word×List Nat)):bs.length<=60->(∀b∈bs,b.1.length<=60/\b.2.length<=60)->jT (9::(bs.length:Int)::bs.flatMap nT) (.fitting (bs.map λb=>(b.1,wayOf b.2)))
theorem iK{A B:Type}{f:A->B}{o:Option A}{b:B}(h:o.map f=some b):∃a,o=some a/\b=f a:=by
 cases o with
 |none=>simp at h
 |some a=>simp at h;exact⟨a,rfl,h.symm⟩
theorem OA{c:List Int}{x:mC}(h:callOf c=some x):jT c x:=by
 unfold callOf at h
 split at h
 ·simp at h;subst h;exact .begins
 ·obtain⟨a,h1,rfl⟩:=iK h
  have:=(pJ (all_some h1)).1
  rw[this];exact .codas a
 ·obtain⟨a,h1,rfl⟩:=iK h
  obtain⟨e,hl⟩:=AO (all_some h1)
  rw[e,cW];exact .rules a hl
 ·obtain⟨a,h1,rfl⟩:=iK h
  obtain⟨e,hl⟩:=nB (all_some h1)
  rw[e,cW];exact .many a hl
 ·obtain⟨a,h1,rfl⟩:=iK h
  obtain⟨e,hl⟩:=nB (all_some h1)
  rw[e,cW];exact .best a hl
 ·obtain⟨a,h1,rfl⟩:=iK h
  obtain⟨b,e1,e2,h3,h4⟩:=rh (all_some h1)
  rw[e2,cW,e1];exact .profile b.1 b.2 h3 h4
 ·obtain⟨a,h1,rfl⟩:=iK h
  obtain⟨b,e1,e2,h3,h4⟩:=rh (all_some h1)
  rw[e2,cW,e1];exact .bounding b.1 b.2 h3 h4
 ·obtain⟨a,h1,rfl⟩:=iK h
  obtain⟨e,hl⟩:=nB (all_some h1)
  rw[e,cW];exact .contenders a hl
 ·obtain⟨a,h1,rfl⟩:=iK h
  obtain⟨bs,e1,e2,h3,h4⟩:=vE (all_some h1)
  rw[e2,cW,e1];exact .learn bs h3 h4
 ·obtain⟨a,h1,rfl⟩:=iK h
  obtain⟨bs,e1,e2,h3,h4⟩:=vE (all_some h1)
  rw[e2,cW,e1];exact .fitting bs h3 h4
 ·simp at h
theorem DB:∀s:List Syll,twos (flat s)=s
 |[]=>rfl
 |a::s=>by rw[ff];simp[twos,DB s]
theorem DC:∀(k:Nat)(l:List Nat),l.length=2*k->flat (twos l)=l/\(twos l).length=k
 |0,l,h=>by
  have:l=[]:=my.mp oo
  subst this;exact⟨rfl,rfl⟩
 |k+1,[],h=>by simp at h
 |k+1,[a],h=>by simp at h;omega
 |k+1,a::b::l,h=>by
  obtain⟨h1,h2⟩:=DC k l (by simp at h;omega)
  simp only[twos,ff,h1,aS,h2,and_self]
theorem DD{w:Word}(hv:vowels w<=5)(hy:y∈ow w):wayOf y.row=y:=by
 obtain⟨h1,h2⟩:=nQ hy
 have hl:=oQ hv hy
 have e:y.row.length/3=vowels w:=by omega
 unfold wayOf
 rw[e,pF]
 have hf:(flat y.sylls).length=2*vowels w:=by rw[ip,fc h1]
 rw[<-hf,List.take_left,List.drop_left,DB]
theorem Et{w:Word}(hv:vowels w<=5)(r:List Nat):wayOf r∈ow w↔r.take (2*vowels w)∈dk w/\r.drop (2*vowels w)∈MR (vowels w):=by
 constructor
 ·intro h
  obtain⟨h1,h2⟩:=nQ h
  have hs:=fc h1
  have ht:=DC (r.length/3) (r.take (2*(r.length/3))) (by rw[d8];omega)
  have e:r.length/3=vowels w:=by rw[<-hs,<-ht.2];rfl
  unfold wayOf at h1 h2
  rw[e]at h1 h2 ht
  refine⟨aM.mpr ⟨_,h1,ht.1⟩,h2⟩
 ·rintro⟨h1,h2⟩
  obtain⟨s,hs,e⟩:=aM.mp h1
  have hm:(⟨s,r.drop (2*vowels w)⟩:Way)∈ow w:=fO.mpr ⟨s,hs,aM.mpr ⟨_,h2,rfl⟩⟩
  have er:r=(⟨s,r.drop (2*vowels w)⟩:Way).row:=by
   rw[pF,e,oS]
  rw[er,DD hv hm];exact hm
theorem HE{w:Word}(hv:vowels w<=5)(h:wayOf r∈ow w):(wayOf r).row=r/\flat (wayOf r).sylls=r.take (2*vowels w)/\(wayOf r).marks=r.drop (2*vowels w):=by
 obtain⟨h1,h2⟩:=(Et hv r).mp h
 obtain⟨s,hs,e⟩:=aM.mp h1
 have hm:(⟨s,r.drop (2*vowels w)⟩:Way)∈ow w:=fO.mpr ⟨s,hs,aM.mpr ⟨_,h2,rfl⟩⟩
 have er:r=(⟨s,r.drop (2*vowels w)⟩:Way).row:=by
  rw[pF,e,oS]
 have ew:wayOf r=⟨s,r.drop (2*vowels w)⟩:=by
  conv=>lhs;rw[er]
  exact DD hv hm
 rw[ew];exact⟨er.symm,e,rfl⟩
theorem AQ{f:Nat}{l:List Int}{cs:List (List (List Int))}(h:jU k7 f l=some cs):(l=[]/\cs=[])\/∃(n:Int)(r:List Int)(cs':List (List (List Int))),l=0::n::r/\0<=n/\n.toNat<=r.length/\cs=[[0],r.take n.toNat]::cs'/\∃f',jU k7 f' (r.drop n.toNat)=some cs':=by
 cases l with
 |nil=>
  left
  cases f<;>(simp[jU]at h;exact⟨rfl,h⟩)
 |cons p r=>
  right
  cases f with
  |zero=>simp[jU]at h
  |succ f=>
   unfold jU at h
   cases hc:SK k7 (p::r)with
   |none=>rw[hc]at h;simp at h
   |some x=>
    obtain⟨c,t⟩:=x
    rw[hc]at h
    simp only at h
    cases hr:jU k7 f t with
    |none=>rw[hr]at h;simp at h
    |some ds=>
     rw[hr]at h
     simp only[gL]at h
     unfold SK k7 at hc
     simp only at hc
     by_cases hp:p=0
     ·subst hp
      simp only[de,jV,cn,qW,List.take_zero]at hc
      cases r with
      |nil=>simp[SM,SN]at hc
      |cons n r=>
       simp only[SM,SN]at hc
       by_cases hq:0<=n/\n.toNat<=r.length
       ·rw[ax hq]at hc
        simp only[gL,mB]at hc
        obtain⟨h1,h2⟩:=hc
        exact⟨n,r,ds,rfl,hq.1,hq.2,by rw[<-h,<-h1],f,by rw[h2];exact hr⟩
       ·rw[aq hq]at hc;simp at hc
     ·rw[aq hp]at hc;simp at hc
def Mj(s:St)(cs:List (List (List Int))):List Int:=rj (vF (λs c=>mD s (c.headD [])) s (cs.map rm))
theorem SO(s:St):Mj s []=[]:=rfl
theorem OB(s:St)(c:List Int)(cs:List (List (List Int))){x:mC}(h:callOf c=some x):Mj s ([[0],c]::cs)=(((out (bD s x).2).length:Int)::out (bD s x).2)++Mj (bD s x).1 cs:=by
 have e:mD s c=((bD s x).1,out (bD s x).2):=by unfold mD;rw[h]
 unfold Mj
 show rj ((mD s c).2::vF _ (mD s c).1 (cs.map rm))=_
 rw[e]
 simp[rj]
theorem OC{l:List Int}(h:HF l=true):∃f cs,jU k7 f l=some cs/\rn l=Mj rA cs/\(∀n r,[[n],r]∈cs->n=0->(callOf r).isSome=true)/\cs.length<=40/\(rn l).length<=1000040:=by
 unfold HF SQ at h
 unfold rn SQ
 cases hc:jU k7 l.length l with
 |none=>rw[hc]at h;simp at h
 |some cs=>
  rw[hc]at h
  simp only[eJ]at h
  obtain⟨h1,h2⟩:=h
  unfold Sw63Neutral.asked at h2
  simp only[eJ,bN,c_]at h2
  obtain⟨h3,h4,h5,h6⟩:=h2
  refine⟨l.length,cs,hc,rfl,λn r hm hn=>?_,by simpa using h5,?_⟩
  ·have:=h3 r (by simp only[aM];exact⟨rm [[n],r],⟨[[n],r],hm,rfl⟩,by subst hn;rfl⟩)
   exact this
  ·
   have len:∀(cs:List (List (List Int)))(s:St),(rj (vF (λs c=>mD s (c.headD [])) s cs)).length=SR s (cs.map λc=>c.headD [])+cs.length:=by
    intro cs
    induction cs with
    |nil=>intro s;rfl
    |cons c cs ih=>
     intro s
     have:=ih (mD s (c.headD [])).1
     simp only[vF,rj,eS,bZ,aS,bb,SR]at this⊢
     omega
   have:=len (cs.map rm) SS
   have h5':(cs.map rm).length<=40:=by simpa using h5
   show(rj (vF (λs c=>mD s (c.headD [])) SS (cs.map rm))).length<=1000040
   omega
end Bt
namespace Bt
def Cz(m:Nat):Nat->Nat->Nat
 |0,i=>i
 |k+1,i=>Cz m k ((i*5+1)%m)
theorem MQ(m:Nat):∀(a b i:Nat),Cz m (a+b) i=Cz m b (Cz m a i)
 |0,b,i=>by rw[dE];rfl
 |a+1,b,i=>by
  have e:a+1+b=(a+b)+1:=by omega
  rw[e];show Cz m (a+b) _=Cz m b (Cz m a _);exact MQ m a b _
theorem SU{m:Nat}(hm:0<m):∀(k i:Nat),i<m->Cz m k i<m
 |0,i,h=>h
 |k+1,i,_=>SU hm k _ (eB _ hm)
def ca:Nat->Nat
 |0=>1
 |k+1=>5*ca k
def cb:Nat->Nat
 |0=>0
 |k+1=>cb k+ca k
theorem AR(m:Nat):∀(k i:Nat),Cz m k i %m=(ca k*i+cb k)%m
 |0,i=>by simp[Cz,ca,cb]
 |k+1,i=>by
  show Cz m k ((i*5+1)%m)%m=_
  rw[AR m k]
  show(ca k*((i*5+1)%m)+cb k)%m=(5*ca k*i+(cb k+ca k))%m
  rw[vG,oV,SV,<-oV,<-vG]
  congr 1
  rw[iu,iA,eY 5 (ca k),eZ,eY i 5]
  omega
theorem Eu(a b:Nat):ca (a+b)=ca a*ca b:=by
 induction a with
 |zero=>simp[ca]
 |succ a ih=>rw[Nat.succ_add];show 5*ca (a+b)=5*ca a*ca b;rw[ih,eZ]
theorem KR(a b:Nat):cb (a+b)=cb a+ca a*cb b:=by
 induction b with
 |zero=>simp[cb]
 |succ b ih=>show cb (a+b)+ca (a+b)=cb a+ca a*(cb b+ca b);rw[ih,Eu,iu];omega
theorem HG(k:Nat):ca (2^k)%2^(k+1)=1 %2^(k+1)/\cb (2^k)%2^(k+1)=2^k:=by
 induction k with
 |zero=>decide
 |succ k ih=>
  obtain⟨h1,h2⟩:=ih
  have e:2^(k+1)=2^k+2^k:=by rw[eO];omega
  have hp:0<2^k:=AS k
  have one:1 %2^(k+1)=1:=iB oo
  rw[one]at h1
  obtain⟨u,hu⟩:∃u,ca (2^k)=1+2^(k+1)*u:=⟨ca (2^k)/2^(k+1),by have:=SW (ca (2^k)) (2^(k+1));rw[h1]at this;exact this.symm⟩
  obtain⟨v,hv⟩:∃v,cb (2^k)=2^k+2^(k+1)*v:=⟨cb (2^k)/2^(k+1),by have:=SW (cb (2^k)) (2^(k+1));rw[h2]at this;exact this.symm⟩
  have e2:2^(k+1+1)=2*2^(k+1):=by rw[eO];omega
  generalize hM:2^(k+1)=M at*
  generalize hK:2^k=K at*
  have a1:ca (K+K)=(1+M*u)*(1+M*u):=by rw[Eu,hu]
  have b1:cb (K+K)=(K+M*v)+(1+M*u)*(K+M*v):=by rw[KR,hu,hv]
  rw[e,a1,b1,e2]
  constructor
  ·have:(1+M*u)*(1+M*u)=1+2*M*(u+K*u*u):=by
    have hMK:M=2*K:=by omega
    subst hMK
    simp only[jb,iu,jW,iA]
    have:2*K*u*(2*K*u)=2*(2*K)*(K*u*u):=by
     simp only[eZ,rB,eY]
    rw[this]
    have t:2*(2*K)*u=2*K*u+2*K*u:=by rw[eZ 2 (2*K) u];omega
    rw[t];omega
   rw[this,HH]
  ·have:K+M*v+(1+M*u)*(K+M*v)=K+K+2*M*(v+(K*u*v))+M*(u*K):=by
    have hMK:M=2*K:=by omega
    subst hMK
    simp only[jb,iu,jW]
    have t1:2*K*u*(2*K*v)=2*(2*K)*(K*u*v):=by simp only[eZ,rB,eY]
    have t2:2*(2*K)*v=2*K*v+2*K*v:=by rw[eZ 2 (2*K) v];omega
    have t3:2*K*u*K=2*K*(u*K):=by rw[eZ]
    rw[t1,t2,t3];omega
   rw[this]
   by_cases hk0:k=0
   ·subst hk0
    have:K=1:=hK.symm
    subst this
    have hM2:M=2:=by omega
    subst hM2
    have:u=2:=by have h5:ca 1=5:=rfl;omega
    subst this
    have:cb 1=1:=rfl
    omega
   ·obtain⟨K',hK'⟩:∃K',K=2*K':=by
     cases k with
     |zero=>exact absurd rfl hk0
     |succ k=>exact⟨2^k,by rw[<-hK,eO];omega⟩
    have t:M*(u*K)=2*M*(u*K'):=by
     rw[hK',rB u 2 K',rB M 2,eZ 2 M]
    rw[t,AU,<-iu,HH]
    rw[iB oo]
theorem HI(k:Nat):∀d:Nat,ca ((2*d+1)*2^k)%2^(k+1)=1 %2^(k+1)/\cb ((2*d+1)*2^k)%2^(k+1)=2^k
 |0=>by rw[AB,dE,jW];exact HG k
 |d+1=>by
  obtain⟨h1,h2⟩:=HI k d
  obtain⟨p1,p2⟩:=HG k
  have e:(2*(d+1)+1)*2^k=(2*d+1)*2^k+(2^k+2^k):=by
   rw[show 2*(d+1)+1=(2*d+1)+2 by omega,jb];omega
  have hp:0<2^k:=AS k
  have e2:2^(k+1)=2^k+2^k:=by rw[eO];omega
  have one:1 %2^(k+1)=1:=iB oo
  rw[one]at h1 p1⊢
  have q1:ca (2^k+2^k)%2^(k+1)=1:=by rw[Eu,oV,p1,iA,one]
  have q2:cb (2^k+2^k)%2^(k+1)=0:=by
   rw[KR,vG,oV,p1,p2,jW,iB (show 2^k<2^(k+1) by omega),<-e2,Nat.mod_self]
  rw[e]
  constructor
  ·rw[Eu,oV,h1,q1,iA,one]
  ·rw[KR,vG,oV,h1,h2,q2,AB,Nat.zero_mod,oN,iB oo]
theorem HJ:∀d:Nat,0<d->∃j c,d=(2*c+1)*2^j
 |d,h=>by
  by_cases ho:d %2=1
  ·exact⟨0,d/2,by rw[Nat.pow_zero];omega⟩
  ·obtain⟨j,c,e⟩:=HJ (d/2) oo
   exact⟨j+1,c,by rw[eO,<-eZ,<-e];omega⟩
 termination_by d=>d
variable{i:Nat}
theorem Ew{k d:Nat}(hd:0<d)(hk:d<2^k)(hi:i<2^k):Cz (2^k) d i≠i:=by
 intro e
 obtain⟨j,c,rfl⟩:=HJ d hd
 have hjk:j<k:=by
  rcases mE j k with h|h
  ·exact h
  ·exfalso
   have:2^k<=2^j:=jX dd h
   have:1*2^j<=(2*c+1)*2^j:=jk _ oo
   omega
 have h:=AR (2^k) ((2*c+1)*2^j) i
 rw[e]at h
 have akS:2^(j+1)∣2^k:=Nat.pow_dvd_pow 2 hjk
 have h':=congrArg (·%2^(j+1)) h
 simp only[Nat.mod_mod_of_dvd _ akS]at h'
 obtain⟨s1,s2⟩:=HI j c
 have hp:0<2^j:=AS j
 have e2:2^(j+1)=2^j+2^j:=by rw[eO];omega
 have one:1 %2^(j+1)=1:=iB oo
 rw[one]at s1
 rw[vG,oV,s1,s2,jW,SV]at h'
 have hlt:i %2^(j+1)<2^(j+1):=eB _ oo
 generalize i %2^(j+1)=r at h' hlt
 rw[e2]at h' hlt
 generalize 2^j=J at*
 by_cases hq:r+J<J+J
 ·rw[iB hq]at h';omega
 ·rw[SX oo,iB oo]at h';omega
theorem MS{k a b:Nat}(yL:a<b)(hb:b<2^k)(hi:i<2^k):Cz (2^k) a i≠Cz (2^k) b i:=by
 intro e
 have:b=a+(b-a):=by omega
 rw[this,MQ]at e
 exact Ew oo oo (SU (AS k) a i hi) e.symm
theorem SY{k:Nat}(taken:List Nat)(hlen:taken.length<2^k)(hi:i<2^k):∃a,a<=taken.length/\Cz (2^k) a i∉taken:=by
 refine AV λjx=>?_
 have sJ:∀a,a<=taken.length->Cz (2^k) a i∈taken:=λa ha=>by
  refine AV λh=>jx ⟨a,ha,h⟩
 have nd:((aE (taken.length+1)).map λa=>Cz (2^k) a i).Nodup:=by
  rw[List.nodup_iff_pairwise_ne,jQ]
  refine(Hb).imp_of_mem λ{a b}ha hb yL=>?_
  have:=bY.mp hb
  exact MS yL oo hi
 have sub:∀x∈(aE (taken.length+1)).map (λa=>Cz (2^k) a i),x∈taken:=λx hx=>by
  obtain⟨a,ha,rfl⟩:=aM.mp hx
  exact sJ a (by have:=bY.mp ha;omega)
 have:=nd.length_le_of_subset sub
 simp at this
 omega
end Bt
namespace Bt
open PySem
def lA(xs:Array Nat):Prop:=xs.toList.Pairwise (·<·)
variable{L:List (Nat×Nat)}{es:Array (Int×af)}{hs:List Int}{i j kk mask n:Nat}{owner:Array (Option Nat)}{α β:Type}
theorem lN{xs:Array Nat}(h:lA xs)(hi:i<j)(hj:j<xs.size):xs[i]'oo<xs[j]:=by
 have:=AW.mp h i j (by simpa using(by omega:i<xs.size)) (by simpa using hj) hi
 simpa using this
theorem AX{xs:Array Nat}(h:lA xs)(j:Nat):∀(f lo hi:Nat),lo<=hi->hi<=xs.size->hi-lo<=f->(∀i(q:i<xs.size),i<lo->xs[i]<j)->(∀i(q:i<xs.size),hi<=i->j<=xs[i])->AY xs j f lo hi<=xs.size/\(∀i(q:i<xs.size),i<AY xs j f lo hi->xs[i]<j)/\∀i(q:i<xs.size),AY xs j f lo hi<=i->j<=xs[i]
 |0,lo,hi,h1,h2,h3,h4,h5=>by
  have e:lo=hi:=by omega
  subst e
  exact⟨h2,h4,h5⟩
 |f+1,lo,hi,h1,h2,h3,h4,h5=>by
  unfold AY
  split
  ·rename_i hlt
   have hm:(lo+hi)/2<xs.size:=by omega
   have hg:xs.getD ((lo+hi)/2) j=xs[(lo+hi)/2]:=by simp[AZ,hm]
   simp only[hg]
   split
   ·rename_i hj
    refine AX h j f _ _ oo h2 oo (λi q FD=>?_) h5
    by_cases e:i=(lo+hi)/2
    ·subst e;exact hj
    ·exact l9 (lN h oo hm) hj
   ·rename_i hj
    refine AX h j f _ _ oo oo oo h4 (λi q FD=>?_)
    by_cases e:i=(lo+hi)/2
    ·subst e;omega
    ·have:=lN h (show(lo+hi)/2<i by omega) q;omega
  ·have e:lo=hi:=by omega
   subst e
   exact⟨h2,h4,h5⟩
theorem pK{xs:Array Nat}(h:lA xs)(j:Nat):fb xs j<=xs.size/\(∀i(q:i<xs.size),i<fb xs j->xs[i]<j)/\∀i(q:i<xs.size),fb xs j<=i->j<=xs[i]:=by
 unfold fb
 exact AX h j _ _ _ (bI _) (aV _) oo (λ_ _ q=>absurd q (jV _)) (λi q hi=>absurd hi oo)
theorem below_at{xs:Array Nat}(h:lA xs)(hi:i<xs.size):fb xs xs[i]=i:=by
 obtain⟨h1,h2,h3⟩:=pK h xs[i]
 rcases vH (fb xs xs[i]) i with q|q|q
 ·have:=h3 (fb xs xs[i]) oo (aV _)
  have:=lN h q hi
  omega
 ·exact q
 ·have:=h2 i hi q;omega
theorem KS{xs:Array Nat}(h:lA xs)(hi:i<xs.size):fb xs (xs[i]+1)=i+1:=by
 obtain⟨h1,h2,h3⟩:=pK h (xs[i]+1)
 rcases vH (fb xs (xs[i]+1)) (i+1)with q|q|q
 ·have:=h3 i hi oo;omega
 ·exact q
 ·have:=h2 (i+1) oo q
  have:=lN h (show i<i+1 by omega) oo
  omega
theorem KU{xs:Array Nat}(h:lA xs):fb xs 0=0:=by
 obtain⟨h1,h2,h3⟩:=pK h 0
 rcases Nat.eq_zero_or_pos (fb xs 0)with q|q
 ·exact q
 ·have:=h2 0 oo q;omega
structure tM (t:aI) (n:Nat):Prop where
 pow:∃k,t.mask+1=2^k/\3<=k
 size:t.place.size=n
 rise:lA t.place
 le:∀j∈t.place,j<=t.mask
 nod:t.dummies=#[]
 load:n<=t.mask
theorem tM.fits{t:aI}{n:Nat}(h:tM t n):t.fits n=true:=by
 have:=h.load
 simp[aI.fits,S0,h.size,h.nod];omega
theorem tM.odd{t:aI}(h:tM t n):t.gaveWay=false:=by
 obtain⟨k,e,hk⟩:=h.pow
 unfold aI.gaveWay
 obtain⟨k',rfl⟩:∃k',k=k'+1:=⟨k-1,by omega⟩
 rw[eO]at e
 have:t.mask %2=1:=by omega
 rw[this];rfl
theorem yU{t:aI}(h:tM t n)(j:Nat):(∃i,t.slot j=.live i/\t.place[i]?=some j)\/(t.slot j=.empty/\j∉t.place):=by
 unfold aI.slot
 simp only
 by_cases q:(t.place[fb t.place j]?==some j)=true
 ·rw[ax q]
  exact .inl ⟨_,rfl,by simpa using q⟩
 ·rw[aq q]
  right
  have hd:S4 t.dummies j=false:=by rw[h.nod];rfl
  rw[hd]
  refine⟨by simp,λhm=>q ?_⟩
  obtain⟨i,hi,e⟩:=Array.mem_iff_getElem.mp hm
  subst e
  rw[below_at h.rise hi]
  simp[hi]
theorem lO{t:aI}(h:tM t n)(e:t.place[i]?=some j):t.slot j=.live i:=by
 rcases yU h j with⟨i',h1,h2⟩|⟨_,h2⟩
 ·rw[h1]
  obtain⟨q1,e1⟩:=mF.mp e
  obtain⟨q2,e2⟩:=mF.mp h2
  rcases vH i i' with q|q|q
  ·have:=lN h.rise q q2;omega
  ·rw[q]
  ·have:=lN h.rise q q1;omega
 ·exact absurd (A0 e) h2
abbrev Probe:=HK
def CA(t:aI):Nat->Probe->Probe
 |0,p=>p
 |k+1,p=>CA t k (t.advance p)
theorem pL(t:aI):∀(a b:Nat)(p:Probe),CA t (a+b) p=CA t b (CA t a p)
 |0,b,p=>by rw[dE];rfl
 |a+1,b,p=>by rw[show a+1+b=(a+b)+1 by omega];exact pL t a b _
def jY(t:aI)(i perturb:Nat)(d:Option Nat):Probe:={j:=i,more:=cq t.mask i-i,i,perturb,dummy:=d}
theorem yV(t:aI)(i perturb:Nat)(d:Option Nat):∀k,k<=cq t.mask i-i->CA t k (jY t i perturb d)={j:=i+k,more:=cq t.mask i-i-k,i,perturb,dummy:=d}
 |0,_=>rfl
 |k+1,h=>by
  have e:CA t (k+1) (jY t i perturb d)=t.advance (CA t k (jY t i perturb d)):=pL t k 1 _
  rw[e,yV t i perturb d k oo]
  unfold A1
  rw[ax (by show cq t.mask i-i-k>0;omega)]
  simp only[HK.mk.injEq,and_true]
  omega
theorem S5(t:aI)(i perturb:Nat)(d:Option Nat):CA t (cq t.mask i-i+1) (jY t i perturb d)=jY t (cj t.mask i perturb).1 (cj t.mask i perturb).2 d:=by
 rw[pL,yV t i perturb d _ (aV _),vj]
 rfl
theorem KW(mask i:Nat):cq mask i-i+1<=10:=by
 unfold cq;split<;>omega
theorem abl{k:Nat}(hi:i<=mask)(hk:k<=cq mask i-i):i+k<=mask:=by
 unfold cq at hk;split at hk<;>omega
def runs(t:aI):Nat->Nat->Nat->Nat×Nat×Nat
 |0,i,p=>(i,p,0)
 |r+1,i,p=>
  let x:=runs t r (cj t.mask i p).1 (cj t.mask i p).2
  (x.1,x.2.1,x.2.2+(cq t.mask i-i+1))
theorem vI(t:aI)(d:Option Nat):∀(r i p:Nat),CA t (runs t r i p).2.2 (jY t i p d)=jY t (runs t r i p).1 (runs t r i p).2.1 d
 |0,i,p=>rfl
 |r+1,i,p=>by
  show CA t ((runs t r (cj t.mask i p).1 (cj t.mask i p).2).2.2+(cq t.mask i-i+1)) _=_
  rw[qH,pL,S5]
  exact vI t d r _ _
theorem MT(t:aI):∀(r i p:Nat),(runs t r i p).2.2<=10*r
 |0,i,p=>aV _
 |r+1,i,p=>by
  have:=MT t r (cj t.mask i p).1 (cj t.mask i p).2
  have:=KW t.mask i
  show(runs t r _ _).2.2+_<=_
  omega
theorem MU(mask i p:Nat):(cj mask i p).1<=mask:=by
 show(i*5+1+p/32)%(mask+1)<=mask
 have:=eB (i*5+1+p/32) (show 0<mask+1 by omega)
 omega
theorem vJ(t:aI):∀(r i p:Nat),i<=t.mask->(runs t r i p).1<=t.mask
 |0,i,p,h=>h
 |r+1,i,p,_=>vJ t r _ _ (MU _ _ _)
theorem vK(t:aI):∀(a b i p:Nat),(runs t (a+b) i p).1=(runs t b (runs t a i p).1 (runs t a i p).2.1).1/\(runs t (a+b) i p).2.1=(runs t b (runs t a i p).1 (runs t a i p).2.1).2.1
 |0,b,i,p=>by rw[dE];exact⟨rfl,rfl⟩
 |a+1,b,i,p=>by rw[show a+1+b=(a+b)+1 by omega];exact vK t a b _ _
theorem pM(t:aI):∀(r i p:Nat),(runs t r i p).2.1=p/32^r
 |0,i,p=>by simp[runs]
 |r+1,i,p=>by
  show(runs t r _ _).2.1=_
  rw[pM t r]
  show p/32/32^r=_
  rw[Nat.div_div_eq_div_mul,eO,eY]
theorem A2(t:aI):∀(r i:Nat),(runs t r i 0).1=Cz (t.mask+1) r i
 |0,i=>rfl
 |r+1,i=>by
  show(runs t r (cj t.mask i 0).1 (cj t.mask i 0).2).1=_
  have:(cj t.mask i 0).2=0:=rfl
  rw[this,A2 t r]
  rfl
theorem MV(h:Int):aT h<2^64:=by
 unfold aT
 have h1:=Int.emod_nonneg h (show(2^64:Int)≠0 by decide)
 have h2:=Int.emod_lt_of_pos h (show(0:Int)<2^64 by decide)
 omega
abbrev walk(t:aI)(h:Int)(k:Nat):Probe:=CA t k (t.probeStart h)
theorem xo(t:aI)(h:Int):t.probeStart h=jY t (aT h %(t.mask+1)) (aT h) none:=rfl
theorem A3{k:Nat}(hp:mask+1=2^k)(t:aI)(ht:t.mask=mask)(h:Int)(taken:List Nat)(hl:taken.length<=mask):∃r,r<=taken.length+13/\(runs t r (aT h %(t.mask+1)) (aT h)).1∉taken:=by
 obtain⟨c,hc⟩:∃c,c=13:=⟨13,rfl⟩
 have hi:(runs t c (aT h %(t.mask+1)) (aT h)).1<=t.mask:=vJ t c _ _ (by have:=eB (aT h) (show 0<t.mask+1 by omega);omega)
 have h0:(runs t c (aT h %(t.mask+1)) (aT h)).2.1=0:=by
  rw[pM,hc]
  exact A4 (dS (MV h) dd)
 obtain⟨a,ha,hf⟩:=SY (k:=k) taken oo (i:=(runs t c (aT h %(t.mask+1)) (aT h)).1) oo
 refine⟨c+a,by omega,?_⟩
 rw[(vK t c a _ _).1,h0,A2]
 have el:Cz (t.mask+1) a=Cz (2^k) a:=by rw[ht,hp]
 rw[el]
 exact hf
theorem OD{t:aI}(T:tM t n)(h:Int):∃M,M<=10*(n+13)/\t.slot (walk t h M).j=.empty:=by
 obtain⟨k,e,_⟩:=T.pow
 have hl:=T.load
 obtain⟨r,hr,hf⟩:=A3 e t rfl h t.place.toList (by rw[dj,T.size];omega)
 rw[dj,T.size]at hr
 refine⟨(runs t r (aT h %(t.mask+1)) (aT h)).2.2,bV (MT t r _ _) oo,?_⟩
 show t.slot (CA t _ (t.probeStart h)).j=_
 rw[xo,vI]
 rcases yU T (runs t r (aT h %(t.mask+1)) (aT h)).1 with⟨i,_,q⟩|⟨q,_⟩
 ·exact absurd (by simpa using A0 q) hf
 ·exact q
theorem Ex{t t':aI}(e:t.mask=t'.mask)(p:Probe):t.advance p=t'.advance p:=by unfold A1;rw[e]
theorem HL{t t':aI}(e:t.mask=t'.mask):∀(k:Nat)(p:Probe),CA t k p=CA t' k p
 |0,p=>rfl
 |k+1,p=>by show CA t k _=CA t' k _;rw[Ex e,HL e k]
theorem DE{t t':aI}(e:t.mask=t'.mask)(h:Int)(k:Nat):walk t h k=walk t' h k:=by
 show CA t k (t.probeStart h)=CA t' k (t'.probeStart h)
 rw[HL e]
 unfold aI.probeStart
 rw[e]
theorem sQ(t:aI)(h:Int)(k:Nat):walk t h (k+1)=t.advance (walk t h k):=pL t k 1 _
theorem A5(t:aI)(h:Int):∀k,(walk t h k).dummy=none
 |0=>rfl
 |k+1=>by
  rw[sQ]
  have:=A5 t h k
  unfold A1
  split<;>exact this
theorem least{P:Nat->Prop}:∀{N:Nat},P N->∃M,M<=N/\P M/\∀k,k<M->¬P k:=λ{N}=>by
 induction N using Nat.strongRecOn with
 |ind N ih=>
  intro h
  by_cases q:∃k,k<N/\P k
  ·obtain⟨k,hk,pk⟩:=q
   obtain⟨M,h1,h2⟩:=ih k hk pk
   exact⟨M,by omega,h2⟩
  ·exact⟨N,aV _,h,λk hk pk=>q ⟨k,hk,pk⟩⟩
theorem KY{t:aI}(T:tM t n)(h:j∉t.place):t.slot j=.empty:=by
 rcases yU T j with⟨i,_,q⟩|⟨q,_⟩
 ·exact absurd (A0 q) h
 ·exact q
theorem slot_mem{t:aI}(T:tM t n)(h:j∈t.place):∃i,t.slot j=.live i/\t.place[i]?=some j:=by
 rcases yU T j with q|⟨_,q⟩
 ·exact q
 ·exact absurd h q
structure FF (t:aI) (n:Nat) (h:Int) (M:Nat):Prop where
 le:M<=10*(n+13)
 free:(walk t h M).j∉t.place
 bef:∀k,k<M->(walk t h k).j∈t.place
theorem aeE{t:aI}(T:tM t n)(h:Int):∃M,FF t n h M:=by
 obtain⟨N,hN,e⟩:=OD T h
 have hp:(walk t h N).j∉t.place:=by
  intro hm
  obtain⟨i,h1,_⟩:=slot_mem T hm
  rw[h1]at e;cases e
 obtain⟨M,h1,h2,h3⟩:=least (P:=λk=>(walk t h k).j∉t.place) hp
 exact⟨M,by omega,h2,λk hk=>AV (h3 k hk)⟩
theorem Ey{t:aI}(h:Int):∀k,(walk t h k).j<=t.mask/\(walk t h k).i<=t.mask/\(walk t h k).j+(walk t h k).more<=t.mask
 |0=>by
  have:=eB (aT h) (show 0<t.mask+1 by omega)
  show aT h %(t.mask+1)<=t.mask/\aT h %(t.mask+1)<=t.mask/\aT h %(t.mask+1)+(cq t.mask (aT h %(t.mask+1))-aT h %(t.mask+1))<=t.mask
  refine⟨by omega,by omega,?_⟩
  unfold cq;split<;>omega
 |k+1=>by
  obtain⟨h1,h2,h3⟩:=Ey (t:=t) h k
  rw[sQ]
  unfold A1
  split
  ·refine⟨?_,h2,?_⟩
   ·show(walk t h k).j+1<=_;omega
   ·show(walk t h k).j+1+((walk t h k).more-1)<=_;omega
  ·have:=MU t.mask (walk t h k).i (walk t h k).perturb
   refine⟨this,this,?_⟩
   show(cj t.mask (walk t h k).i (walk t h k).perturb).1+(cq t.mask (cj t.mask (walk t h k).i (walk t h k).perturb).1-(cj t.mask (walk t h k).i (walk t h k).perturb).1)<=_
   unfold cq;split<;>omega
theorem MW{t:aI}{n:Nat}(T:tM t n){h:Int}{M:Nat}(F:FF t n h M)(ha:Nat->Int):∀(f k:Nat),k<=M->M<k+f->(∃k' i,k<=k'/\k'<M/\t.place[i]?=some (walk t h k').j/\ha i=h/\oW t ha h f (walk t h k)=some (.candidate (walk t h k').j i (walk t h (k'+1)))/\∀q,k<=q->q<k'->∀i,t.place[i]?=some (walk t h q).j->ha i≠h)
  \/(oW t ha h f (walk t h k)=some (.empty (walk t h M).j none)/\∀q,k<=q->q<M->∀i,t.place[i]?=some (walk t h q).j->ha i≠h)
 |0,k,h1,h2=>by omega
 |f+1,k,h1,h2=>by
  rcases k8 h1 with hk|rfl
  ·obtain⟨i,e1,e2⟩:=slot_mem T (F.bef k hk)
   by_cases q:ha i=h
   ·refine .inl ⟨k,i,aV _,hk,e2,q,?_,λq h1 h2=>by omega⟩
    unfold oW
    rw[e1]
    dsimp only
    rw[ax (by simpa using q),sQ]
   ·have e3:oW t ha h (f+1) (walk t h k)=oW t ha h f (walk t h (k+1)):=by
     conv=>lhs;unfold oW
     rw[e1]
     dsimp only
     rw[aq (by simpa using q),sQ]
    rw[e3]
    rcases MW T F ha f (k+1) oo oo with⟨k',i',g1,g2,g3,g4,g5,g6⟩|⟨g1,g2⟩
    ·refine .inl ⟨k',i',by omega,g2,g3,g4,g5,λq hq hM i' FD=>?_⟩
     rcases k8 hq with hq|rfl
     ·exact g6 q hq hM i' FD
     ·have:i'=i:=by
       have:=lO T FD
       rw[e1]at this;cases this;rfl
      subst this;assumption
    ·refine .inr ⟨g1,λq hq hM i' FD=>?_⟩
     rcases k8 hq with hq|rfl
     ·exact g2 q hq hM i' FD
     ·have:i'=i:=by
       have:=lO T FD
       rw[e1]at this;cases this;rfl
      subst this;assumption
  ·refine .inr ⟨?_,λq h1 h2=>by omega⟩
   unfold oW
   rw[KY T F.free]
   dsimp only
   rw[A5]
theorem A6{t:aI}(T:tM t n){h:Int}{M:Nat}(F:FF t n h M)(ha:Nat->Int)(k:Nat)(hk:k<=M):
  (∃k' i,k<=k'/\k'<M/\t.place[i]?=some (walk t h k').j/\ha i=h/\t.probe ha h (walk t h k)=some (.candidate (walk t h k').j i (walk t h (k'+1)))/\∀q,k<=q->q<k'->∀i,t.place[i]?=some (walk t h q).j->ha i≠h)
  \/(t.probe ha h (walk t h k)=some (.empty (walk t h M).j none)/\∀q,k<=q->q<M->∀i,t.place[i]?=some (walk t h q).j->ha i≠h):=by
 refine MW T F ha _ k hk ?_
 have:=F.le
 have:=T.load
 unfold rC
 omega
theorem OE{t:aI}(T:tM t n){h:Int}{M:Nat}(F:FF t n h M):t.freeSlot h=some ((walk t h M).j,false):=by
 unfold aI.freeSlot
 rcases A6 T F (λ_=>h+1) 0 (bI _)with⟨k',i,_,_,_,q,_,_⟩|⟨q,_⟩
 ·exact absurd q oo
 ·have:t.probe (λ_=>h+1) h (t.probeStart h)=_:=q
  rw[this];rfl
def RI(t:aI)(hs:List Int):Prop:=∀e∈k9 t.place.toList hs,∃m,(walk t e.2 m).j=e.1/\∀k,k<m->(walk t e.2 k).j∈t.place
theorem RI.at{t:aI}(R:RI t hs){h:Int}(h1:t.place[i]?=some j)(h2:hs[i]?=some h):∃m,(walk t h m).j=j/\∀k,k<m->(walk t h k).j∈t.place:=by
 refine R (j,h) (Ht.mpr ⟨i,?_⟩)
 rw[vC]
 exact⟨by simpa using h1,h2⟩
theorem RI.before{t:aI}(R:RI t hs){h:Int}{M:Nat}(F:FF t n h M)(h1:t.place[i]?=some j)(h2:hs[i]?=some h):∃m,m<M/\(walk t h m).j=j:=by
 obtain⟨m,e,b⟩:=R.at h1 h2
 refine⟨m,?_,e⟩
 rcases mE m M with q|q
 ·exact q
 ·exfalso
  rcases k8 q with q|rfl
  ·exact F.free (b M q)
  ·exact F.free (by rw[e];exact A0 h1)
theorem kD(xs:Array α)(p:Nat)(x:α):(gY xs p x).toList=xs.toList.take p++x::xs.toList.drop p:=aI.toList_insertAt xs p x
theorem Ez{t:aI}(T:tM t n)(j:Nat):t.put j=({t with place:=gY t.place (fb t.place j) j},fb t.place j):=by
 unfold aI.put
 have hd:S4 t.dummies j=false:=by rw[T.nod];rfl
 simp only[hd]
 rfl
theorem HM{xs:Array Nat}(h:lA xs)(hj:j∉xs):lA (gY xs (fb xs j) j):=by
 obtain⟨b1,b2,b3⟩:=pK h j
 unfold lA at*
 rw[kD,Hl]
 refine⟨h.sublist (Rc _ _),?_,?_⟩
 ·rw[jP]
  refine⟨λa ha=>?_,h.sublist (List.drop_sublist _ _)⟩
  obtain⟨i,hi,rfl⟩:=mG.mp ha
  rw[S6]
  rw[gG,dj]at hi
  have:=b3 (fb xs j+i) oo oo
  have ne:xs[fb xs j+i]'oo≠j:=λe=>hj (by rw[<-e];exact Array.getElem_mem _)
  rw[A7]
  omega
 ·intro a ha b hb
  have la:a<j:=by
   obtain⟨i,hi,rfl⟩:=mG.mp ha
   rw[List.getElem_take,A7]
   rw[d8,dj]at hi
   exact b2 i oo oo
  rcases aY.mp hb with rfl|hb
  ·exact la
  ·obtain⟨i,hi,rfl⟩:=mG.mp hb
   rw[S6,A7]
   rw[gG,dj]at hi
   have:=b3 (fb xs j+i) oo oo
   omega
theorem mem_insert{xs:Array α}{p:Nat}{x y:α}:y∈gY xs p x↔y=x\/y∈xs:=by
 rw[<-uM,kD,d7,aY]
 have:y∈xs↔y∈xs.toList.take p\/y∈xs.toList.drop p:=by
  rw[<-d7,oS,uM]
 rw[this]
 constructor
 ·rintro(h|h|h)
  ·exact .inr (.inl h)
  ·exact .inl h
  ·exact .inr (.inr h)
 ·rintro(h|h|h)
  ·exact .inr (.inl h)
  ·exact .inl h
  ·exact .inr (.inr h)
theorem size_insert{xs:Array α}{p:Nat}{x:α}:(gY xs p x).size=xs.size+1:=by
 have:=congrArg f_ (kD xs p x)
 rw[dj,bZ,aS]at this
 have e:(xs.toList.take p).length+(xs.toList.drop p).length=xs.size:=by
  rw[<-bZ,oS,dj]
 omega
theorem abm{t:aI}(T:tM t n)(hj:j∉t.place)(hm:j<=t.mask)(hl:n+1<=t.mask):tM (t.put j).1 (n+1):=by
 rw[Ez T]
 refine⟨T.pow,?_,HM T.rise hj,?_,T.nod,hl⟩
 ·show(gY _ _ _).size=_
  rw[size_insert,T.size]
 ·intro a ha
  rcases mem_insert.mp ha with rfl|ha
  ·exact hm
  ·exact T.le a ha
theorem KZ{xs:List α}{ys:List β}(e:xs.length=ys.length)(p:Nat)(x:α)(y:β):k9 (xs.take p++x::xs.drop p) (ys.take p++y::ys.drop p)=(k9 xs ys).take p++(x,y)::(k9 xs ys).drop p:=by
 rw[List.zip_append (by rw[d8,d8,e]),ja]
 unfold k9
 rw[List.take_zipWith,List.drop_zipWith]
theorem abn{t:aI}(T:tM t n)(hn:es.size=n)(R:RI t (es.toList.map (·.1))){h:Int}{M:Nat}(F:FF t n h M)(x:af):
  RI (t.put (walk t h M).j).1 ((gY es (t.put (walk t h M).j).2 (h,x)).toList.map (·.1)):=by
 rw[Ez T]
 intro e he
 have em:∀k h',walk {t with place:=gY t.place (fb t.place (walk t h M).j) (walk t h M).j} h' k=walk t h' k:=λk h'=>DE (by rfl) h' k
 simp only[kD,eU,bb,mH,jd]at he
 rw[KZ (by simp[T.size,hn])]at he
 have he:e=((walk t h M).j,h)\/e∈k9 t.place.toList (es.toList.map (·.1)):=by
  rcases d7.mp he with q|q
  ·exact .inr (Au q)
  ·rcases aY.mp q with q|q
   ·exact .inl q
   ·exact .inr (R_ q)
 rcases he with rfl|he
 ·refine⟨M,by rw[em],λk hk=>?_⟩
  rw[em]
  exact mem_insert.mpr (.inr (F.bef k hk))
 ·obtain⟨m,e1,e2⟩:=R e he
  refine⟨m,by rw[em];exact e1,λk hk=>?_⟩
  rw[em]
  exact mem_insert.mpr (.inr (e2 k hk))
abbrev tm(mask:Nat):aI:={A8 0 0 true with mask:=mask}
def dy(owner:Array (Option Nat))(mask:Nat):List (Nat×Nat):=(aE (mask+1)).filterMap λj=>(owner.getD j none).map (j,·)
abbrev oX(owner:Array (Option Nat))(j:Nat):Prop:=owner.getD j none≠none
theorem DF(hj:j<=mask):oX owner j↔j∈(dy owner mask).map (·.1):=by
 unfold dy
 rw[aM]
 constructor
 ·intro h
  obtain⟨i,e⟩:=Option.ne_none_iff_exists'.mp h
  exact⟨(j,i),uK.mpr ⟨j,bY.mpr oo,by rw[e];rfl⟩,rfl⟩
 ·rintro⟨⟨a,i⟩,h1,rfl⟩
  obtain⟨b,_,h2⟩:=uK.mp h1
  intro e
  cases hb:owner.getD b none with
  |none=>rw[hb]at h2;cases h2
  |some v=>
   rw[hb]at h2
   simp at h2
   obtain⟨rfl,_⟩:=h2
   rw[hb]at e;cases e
theorem X3{e:Nat×Nat}(h:e∈dy owner mask):e.1<=mask/\owner.getD e.1 none=some e.2:=by
 obtain⟨b,hb,h2⟩:=uK.mp h
 rw[bY]at hb
 cases hv:owner.getD b none with
 |none=>rw[hv]at h2;cases h2
 |some v=>
  rw[hv]at h2
  simp at h2
  subst h2
  exact⟨by simpa using(by omega:b<=mask),hv⟩
theorem HN{α β:Type}{f g:α->Option β}:∀{l:List α},(∀x∈l,f x=g x)->l.filterMap f=l.filterMap g
 |[],_=>rfl
 |a::l,h=>by rw[jA,jA,h a (.head _),HN λx hx=>h x (.tail _ hx)]
theorem MX{β:Type}{f g:Nat->Option β}{j:Nat}{v:β}(hf:f j=none)(hg:g j=some v)(ho:∀i,i≠j->g i=f i):∀l:List Nat,l.Nodup->j∈l->(l.filterMap g).Perm (v::l.filterMap f)
 |[],_,h=>by simp at h
 |a::l,hn,h=>by
  rw[iZ]at hn
  by_cases q:a=j
  ·subst q
   have e:l.filterMap g=l.filterMap f:=HN λx hx=>ho x λe=>hn.1 (e▸hx)
   rw[jA,jA,hf,hg,e]
  ·have hj:j∈l:=by
    rcases aY.mp h with h|h
    ·exact absurd h.symm q
    ·exact h
   have ih:=MX hf hg ho l hn.2 hj
   rw[jA,jA,ho a q]
   cases f a with
   |none=>exact ih
   |some b=>exact(ih.cons b).trans (Am v b _)
structure K0 (mask:Nat) (hs:List Int) (owner:Array (Option Nat)) (k:Nat):Prop where
 size:owner.size=mask+1
 perm:((dy owner mask).map (·.2)).Perm (aE k)
 reach:∀e∈dy owner mask,∃m,(walk (tm mask) (hs.getD e.2 0) m).j=e.1/\∀q,q<m->oX owner (walk (tm mask) (hs.getD e.2 0) q).j
theorem OF(mask:Nat)(hs:List Int):K0 mask hs (k_ (mask+1) none) 0:=by
 have e:dy (k_ (mask+1) none) mask=[]:=by
  unfold dy
  rw[List.filterMap_eq_nil_iff]
  intro j hj
  rw[bY]at hj
  simp[AZ,hj]
 refine⟨by simp,by rw[e];exact vL _,?_⟩
 rw[e];intro e he;simp at he
theorem DG{mask:Nat}{owner:Array (Option Nat)}(hsz:owner.size=mask+1)(h:Int):∀(f r:Nat),(∃r',r<=r'/\r'<r+f/\¬oX owner (runs (tm mask) r' (aT h %(mask+1)) (aT h)).1)->(∀q,q<(runs (tm mask) r (aT h %(mask+1)) (aT h)).2.2->oX owner (walk (tm mask) h q).j)->∃j m,vM mask owner f (runs (tm mask) r (aT h %(mask+1)) (aT h)).1 (runs (tm mask) r (aT h %(mask+1)) (aT h)).2.1=some j/\(walk (tm mask) h m).j=j/\¬oX owner j/\j<=mask/\∀q,q<m->oX owner (walk (tm mask) h q).j
 |0,r,⟨r',h1,h2,_⟩,_=>by omega
 |f+1,r,⟨r',h1,h2,h3⟩,hb=>by
  have hi:=vJ (tm mask) r (aT h %(mask+1)) (aT h) (by have:=eB (aT h) (show 0<mask+1 by omega);show _<=mask;omega)
  have ac5:=vK (tm mask) r 1 (aT h %(mask+1)) (aT h)
  have hw:∀k,k<=cq mask (runs (tm mask) r (aT h %(mask+1)) (aT h)).1-(runs (tm mask) r (aT h %(mask+1)) (aT h)).1->(walk (tm mask) h ((runs (tm mask) r (aT h %(mask+1)) (aT h)).2.2+k)).j=(runs (tm mask) r (aT h %(mask+1)) (aT h)).1+k:=λk hk=>by
   show(CA (tm mask) _ ((tm mask).probeStart h)).j=_
   rw[pL,xo]
   have:=vI (tm mask) none r (aT h %(mask+1)) (aT h)
   show(CA (tm mask) k (CA (tm mask) _ (jY (tm mask) (aT h %(mask+1)) (aT h) none))).j=_
   rw[this,yV (tm mask) _ _ _ k hk]
  have aay:(runs (tm mask) (r+1) (aT h %(mask+1)) (aT h)).2.2=(runs (tm mask) r (aT h %(mask+1)) (aT h)).2.2+(cq mask (runs (tm mask) r (aT h %(mask+1)) (aT h)).1-(runs (tm mask) r (aT h %(mask+1)) (aT h)).1+1):=by
   clear hw ac5 hb h3 hi
   generalize aT h %(mask+1)=i0
   generalize aT h=p0
   clear h1 h2
   induction r generalizing i0 p0 with
   |zero=>show 0+_=0+_;rfl
   |succ r ih=>
    have:=ih (cj mask i0 p0).1 (cj mask i0 p0).2
    show(runs (tm mask) (r+1) (cj mask i0 p0).1 (cj mask i0 p0).2).2.2+(cq mask i0-i0+1)=(runs (tm mask) r (cj mask i0 p0).1 (cj mask i0 p0).2).2.2+(cq mask i0-i0+1)+(cq mask (runs (tm mask) r (cj mask i0 p0).1 (cj mask i0 p0).2).1-(runs (tm mask) r (cj mask i0 p0).1 (cj mask i0 p0).2).1+1)
    omega
  have agu:(runs (tm mask) (r+1) (aT h %(mask+1)) (aT h)).1=(cj mask (runs (tm mask) r (aT h %(mask+1)) (aT h)).1 (runs (tm mask) r (aT h %(mask+1)) (aT h)).2.1).1:=ac5.1
  have abo:(runs (tm mask) (r+1) (aT h %(mask+1)) (aT h)).2.1=(cj mask (runs (tm mask) r (aT h %(mask+1)) (aT h)).1 (runs (tm mask) r (aT h %(mask+1)) (aT h)).2.1).2:=ac5.2
  have ih:=DG hsz h f (r+1)
  rw[agu,abo,aay]at ih
  generalize hR:runs (tm mask) r (aT h %(mask+1)) (aT h)=R at*
  obtain⟨i,p,m0⟩:=R
  dsimp only at*
  have inb:∀k,k<=cq mask i-i->i+k<owner.size:=λk hk=>by
   have:=abl hi hk
   show i+k<_
   rw[hsz];have:i+k<=mask:=this;omega
  have gd:∀k,k<=cq mask i-i->owner.getD (i+k) (some 0)=owner.getD (i+k) none:=λk hk=>by
   simp[AZ,inb k hk]
  have he:i<=cq mask i:=by unfold cq;split<;>omega
  unfold vM
  cases hf:(aE (cq mask i+1-i)).find? λk=>(owner.getD (i+k) (some 0)).isNone with
  |some k=>
   obtain⟨g1,g2,g3⟩:=List.find?_range_eq_some.mp hf
   rw[bY]at g2
   refine⟨i+k,m0+k,rfl,hw k oo,?_,?_,?_⟩
   ·rw[gd k oo]at g1
    intro z;exact z (Option.isNone_iff_eq_none.mp g1)
   ·have:=inb k oo;omega
   ·intro q hq
    rcases mE q m0 with q1|q1
    ·exact hb q q1
    ·obtain⟨d,rfl⟩:∃d,q=m0+d:=⟨q-m0,by omega⟩
     rw[hw d oo]
     have:=g3 d oo
     rw[gd d oo]at this
     intro z;rw[z]at this;simp at this
  |none=>
   dsimp only
   have hn:=List.find?_eq_none.mp hf
   have own:∀k,k<=cq mask i-i->oX owner (i+k):=λk hk=>by
    have:=hn k (bY.mpr oo)
    rw[gd k hk]at this
    intro z;rw[z]at this;simp at this
   refine ih ⟨r',?_,by omega,h3⟩ λq hq=>?_
   ·rcases k8 h1 with q|rfl
    ·exact q
    ·exfalso;rw[hR]at h3;exact h3 (own 0 oo)
   ·rcases mE q m0 with q1|q1
    ·exact hb q q1
    ·obtain⟨d,rfl⟩:∃d,q=m0+d:=⟨q-m0,by omega⟩
     rw[hw d oo]
     exact own d oo
theorem X4(hp:mask+1=2^kk){k:Nat}(I:K0 mask hs owner k)(hk:k<=mask)(h:Int):
  ∃j m,vM mask owner (rC mask) (aT h %(mask+1)) (aT h)=some j/\(walk (tm mask) h m).j=j/\¬oX owner j/\j<=mask/\∀q,q<m->oX owner (walk (tm mask) h q).j:=by
 have hlen:((dy owner mask).map (·.1)).length=k:=by
  have:=I.perm.length_eq
  rw[aA,e_]at this
  rw[aA,this]
 obtain⟨r,hr,hf⟩:=A3 hp (tm mask) rfl h ((dy owner mask).map (·.1)) oo
 have hi:=vJ (tm mask) r (aT h %(mask+1)) (aT h) (by have:=eB (aT h) (show 0<mask+1 by omega);show _<=mask;omega)
 refine DG I.size h (rC mask) 0 ⟨r,bI _,by unfold rC;omega,λz=>hf ((DF hi).mp z)⟩ λq hq=>absurd hq (jV _)
theorem OG{k:Nat}(I:K0 mask hs owner k){h:Int}(hh:hs[k]?=some h){m:Nat}(h1:(walk (tm mask) h m).j=j)(h2:¬oX owner j)(h3:j<=mask)(h4:∀q,q<m->oX owner (walk (tm mask) h q).j):K0 mask hs (owner.setIfInBounds j (some k)) (k+1):=by
 have hj:j<owner.size:=by rw[I.size];omega
 have gj:(owner.setIfInBounds j (some k)).getD j none=some k:=by simp[AZ,hj]
 have go:∀i,i≠j->(owner.setIfInBounds j (some k)).getD i none=owner.getD i none:=λi hi=>by
  simp only[S7]
  rw[Array.getElem?_setIfInBounds_ne (cJ hi)]
 have own:∀i,oX owner i->oX (owner.setIfInBounds j (some k)) i:=λi hi=>by
  by_cases q:i=j
  ·subst q;intro z;rw[gj]at z;cases z
  ·intro z;rw[go i q]at z;exact hi z
 have P:(dy (owner.setIfInBounds j (some k)) mask).Perm ((j,k)::dy owner mask):=by
  unfold dy
  refine MX (j:=j) ?_ ?_ (λi hi=>?_) _ AM (bY.mpr oo)
  ·have:owner.getD j none=none:=AV h2
   rw[this];rfl
  ·rw[gj];rfl
  ·rw[go i hi]
 refine⟨by rw[HP,I.size],?_,?_⟩
 ·refine(P.map (·.2)).trans ?_
  rw[bb,iy]
  exact(List.Perm.cons k I.perm).trans (List.perm_append_singleton k _).symm
 ·intro e he
  rcases aY.mp (P.mem_iff.mp he)with rfl|he
  ·refine⟨m,?_,λq hq=>?_⟩
   ·simpa[bM,hh]using h1
   ·have:=own _ (h4 q hq)
    simpa[bM,hh]using this
  ·obtain⟨m',e1,e2⟩:=I.reach e he
   exact⟨m',e1,λq hq=>own _ (e2 q hq)⟩
def yW(mask:Nat)(acc:Option (Array (Option Nat)×Nat))(h:Int):Option (Array (Option Nat)×Nat):=do
  let(owner,k)<-acc
  let j<-vM mask owner (rC mask) (aT h %(mask+1)) (aT h)
  pure (owner.setIfInBounds j (some k),k+1)
theorem HQ{mask kk:Nat}(hp:mask+1=2^kk)(hs:List Int)(hl:hs.length<=mask):∀(l:List Int)(k:Nat)(owner:Array (Option Nat)),hs.drop k=l->K0 mask hs owner k->∃S8,l.foldl (yW mask) (some (owner,k))=some (S8,k+l.length)/\K0 mask hs S8 (k+l.length)
 |[],k,owner,_,I=>⟨owner,rfl,I⟩
 |h::l,k,owner,e,I=>by
  have hk:hs[k]?=some h:=by
   have:=congrArg (·[0]?) e
   simpa[HR]using this
  have hlt:=(gx.mp hk).1
  obtain⟨j,m,g1,g2,g3,g4,g5⟩:=X4 hp I oo h
  have I':=OG I hk g2 g3 g4 g5
  have e':hs.drop (k+1)=l:=by
   have:=congrArg (vN 1) e
   simpa[HS,qH]using this
  obtain⟨o,q1,q2⟩:=HQ hp hs hl l (k+1) _ e' I'
  refine⟨o,?_,by rw[aS];rw[show k+(l.length+1)=k+1+l.length by omega];exact q2⟩
  rw[fK,show yW mask (some (owner,k)) h=some (owner.setIfInBounds j (some k),k+1) by
   show(vM mask owner (rC mask) (aT h %(mask+1)) (aT h)).bind _=_
   rw[g1];rfl,q1,aS,show k+(l.length+1)=k+1+l.length by omega]
theorem HU(hp:mask+1=2^kk)(hs:Array Int)(hl:hs.size<=mask):∃owner,S9 mask hs=some owner/\K0 mask hs.toList owner hs.size:=by
 obtain⟨o,h1,h2⟩:=HQ hp hs.toList (by simpa using hl) hs.toList 0 _ rfl (OF mask hs.toList)
 rw[dE,dj]at h1 h2
 refine⟨o,?_,h2⟩
 unfold S9
 rw[<-Array.foldl_toList]
 have:hs.toList.foldl (yW mask) (some (k_ (mask+1) none,0))=some (o,hs.size):=h1
 show S_ _ (hs.toList.foldl (yW mask) (some (k_ (mask+1) none,0)))=_
 rw[this];rfl
theorem HV:∀(f k n:Nat),n<2^(k+f)->∃k',k<=k'/\Ta n f (2^k)=2^k'/\n<2^k'/\(k'=k\/2^k'<=2*n)
 |0,k,n,h=>⟨k,aV _,rfl,h,.inl rfl⟩
 |f+1,k,n,h=>by
  unfold Ta
  by_cases q:2^k<=n
  ·rw[ax q]
   obtain⟨k',h1,h2,h3,h4⟩:=HV f (k+1) n (by rw[show k+1+f=k+(f+1) by omega];exact h)
   refine⟨k',by omega,?_,h3,.inr ?_⟩
   ·rw[<-eO];exact h2
   ·rcases h4 with rfl|h4
    ·rw[eO];omega
    ·exact h4
  ·rw[aq q]
   exact⟨k,aV _,rfl,by omega,.inl rfl⟩
theorem HW(h:n<2^67):∃k,3<=k/\dP n=2^k/\n<2^k/\(k=3\/2^k<=2*n):=HV 64 3 n h
theorem OH{t:aI}{wanted:Nat}(h1:1<=es.size)(h2:2*es.size<=wanted)(h3:wanted<2^40):
  ∃t' order,t.relaid (es.map (·.1)) wanted=some (t',order)/\order.toList.Perm (aE es.size)/\tM t' es.size/\es.size*5<t'.mask*3/\t'.plain=t.plain/\t'.led=t.led/\RI t' ((order.filterMap (es[·]?)).toList.map (·.1)):=by
 obtain⟨k,hk,e,hl,_⟩:=HW (n:=wanted) oo
 have hp:dP wanted-1+1=2^k:=by omega
 have hle:es.size<=dP wanted-1:=by omega
 obtain⟨o,ho,I⟩:=HU hp (es.map (·.1)) (by simpa using hle)
 rw[Tb]at I
 have hlen:(dy o (dP wanted-1)).length=es.size:=by
  have:=I.perm.length_eq
  rwa[aA,e_]at this
 have mem:∀j,j∈((dy o (dP wanted-1)).map (·.1)).toArray↔j∈(dy o (dP wanted-1)).map (·.1):=λj=>List.mem_toArray
 refine⟨{mask:=dP wanted-1,place:=((dy o (dP wanted-1)).map (·.1)).toArray,dummies:=#[],finger:=t.finger,led:=t.led,moves:=t.movedTo (dP wanted-1),plain:=t.plain},((dy o (dP wanted-1)).map (·.2)).toArray,by unfold aI.relaid aI.laid;rw[ho];rfl,I.perm,⟨⟨k,hp,hk⟩,?_,?_,?_,rfl,hle⟩,?_,rfl,rfl,?_⟩
 ·show((dy o _).map (·.1)).toArray.size=_
  simpa using hlen
 ·show lA ((dy o _).map (·.1)).toArray
  unfold lA
  show rD _ ((dy o _).map (·.1))
  rw[jQ]
  unfold dy
  refine rD.filterMap _ ?_ Hb
  intro a a' haa b hb b' Ec
  cases ha:o.getD a none with
  |none=>rw[ha]at hb;cases hb
  |some v=>
   cases ha':o.getD a' none with
   |none=>rw[ha']at Ec;cases Ec
   |some v'=>
    rw[ha]at hb;rw[ha']at Ec
    simp at hb Ec
    subst hb Ec
    exact haa
 ·intro j hj
  have hj:j∈(dy o (dP wanted-1)).map (·.1):=(mem j).mp hj
  obtain⟨e,he,rfl⟩:=aM.mp hj
  exact(X3 he).1
 ·show es.size*5<(dP wanted-1)*3
  omega
 ·intro x hx
  have ez:k9 ((dy o (dP wanted-1)).map (·.1)) (((((dy o (dP wanted-1)).map (·.2)).toArray.filterMap (es[·]?)).toList.map (·.1)))=(dy o (dP wanted-1)).map (λe=>(e.1,(es.toList.map (·.1)).getD e.2 0)):=by
   have lt:∀e∈dy o (dP wanted-1),e.2<es.size:=λe he=>by
    have:=I.perm.mem_iff.mp (aM.mpr ⟨e,he,rfl⟩)
    exact bY.mp this
   have e2:((((dy o (dP wanted-1)).map (·.2)).toArray.filterMap (es[·]?)).toList.map (·.1))=(dy o (dP wanted-1)).map (λe=>(es.toList.map (·.1)).getD e.2 0):=by
    rw[Tc]
    show((oY (·.2) (dy o (dP wanted-1))).filterMap (es[·]?)).map (·.1)=_
    rw[HX]
    generalize dy o (dP wanted-1)=L at lt
    clear mem hlen I ho hx
    induction L with
    |nil=>rfl
    |cons e L ih=>
     have he:=lt e (.head _)
     rw[List.filterMap_cons_some (b:=es[e.2]) (by simp[he]),bb,bb,ih λe h=>lt e (.tail _ h)]
     congr 1
     simp[bM,he]
   rw[e2,AH]
  have hx:x∈k9 ((dy o (dP wanted-1)).map (·.1)) (((((dy o (dP wanted-1)).map (·.2)).toArray.filterMap (es[·]?)).toList.map (·.1))):=hx
  rw[ez]at hx
  obtain⟨e,he,rfl⟩:=aM.mp hx
  obtain⟨m,g1,g2⟩:=I.reach e he
  have em:∀(T:aI),T.mask=dP wanted-1->∀h q,walk T h q=walk (tm (dP wanted-1)) h q:=λT hT h q=>DE (by rw[hT]) h q
  refine⟨m,?_,λq hq=>?_⟩
  ·rw[em _ rfl]
   simpa using g1
  ·rw[em _ rfl]
   refine(mem _).mpr ((DF (Ey _ q).1).mp ?_)
   have:=g2 q hq
   simpa using this
theorem xp(t:aI):∀(r i p:Nat),(runs t (r+1) i p).2.2=(runs t r i p).2.2+(cq t.mask (runs t r i p).1-(runs t r i p).1+1)
 |0,i,p=>by show 0+_=0+_;rfl
 |r+1,i,p=>by
  have:=xp t r (cj t.mask i p).1 (cj t.mask i p).2
  show(runs t (r+1) (cj t.mask i p).1 (cj t.mask i p).2).2.2+(cq t.mask i-i+1)=(runs t r (cj t.mask i p).1 (cj t.mask i p).2).2.2+(cq t.mask i-i+1)+(cq t.mask (runs t r (cj t.mask i p).1 (cj t.mask i p).2).1-(runs t r (cj t.mask i p).1 (cj t.mask i p).2).1+1)
  omega
abbrev gN(t:aI)(h:Int)(r:Nat):Nat×Nat×Nat:=runs t r (aT h %(t.mask+1)) (aT h)
theorem HY(t:aI)(h:Int)(r k:Nat)(hk:k<=cq t.mask (gN t h r).1-(gN t h r).1):(walk t h ((gN t h r).2.2+k)).j=(gN t h r).1+k:=by
 show(CA t _ (t.probeStart h)).j=_
 rw[pL,xo,vI,yV t _ _ _ k hk]
theorem HZ(t:aI)(h:Int):∀q,∃r d,q=(gN t h r).2.2+d/\d<=cq t.mask (gN t h r).1-(gN t h r).1
 |0=>⟨0,0,rfl,bI _⟩
 |q+1=>by
  obtain⟨r,d,e,hd⟩:=HZ t h q
  rcases k8 hd with g|g
  ·exact⟨r,d+1,by omega,by omega⟩
  ·refine⟨r+1,0,?_,bI _⟩
   have:=xp t r (aT h %(t.mask+1)) (aT h)
   show _=(runs t (r+1) (aT h %(t.mask+1)) (aT h)).2.2+0
   rw[this]
   show q+1=(gN t h r).2.2+(cq t.mask (gN t h r).1-(gN t h r).1+1)+0
   omega
theorem K1(t:aI)(h:Int){r r':Nat}(hr:r<=r'):(gN t h r).2.2<=(gN t h r').2.2:=by
 induction r' with
 |zero=>rw[Nat.le_zero.mp hr];exact aV _
 |succ r' ih=>
  rcases k8 hr with q|q
  ·have:=xp t r' (aT h %(t.mask+1)) (aT h)
   have h2:_<=(runs t r' (aT h %(t.mask+1)) (aT h)).2.2:=ih oo
   show _<=(runs t (r'+1) (aT h %(t.mask+1)) (aT h)).2.2
   omega
  ·rw[q];exact aV _
theorem abp{t:aI}(T:tM t n){h:Int}{M:Nat}(F:FF t n h M):∃r,r<=n+13/\M<=(gN t h r).2.2:=by
 obtain⟨k,e,_⟩:=T.pow
 have hl:=T.load
 obtain⟨r,hr,hf⟩:=A3 e t rfl h t.place.toList (by rw[dj,T.size];omega)
 rw[dj,T.size]at hr
 refine⟨r,hr,?_⟩
 rcases mE (gN t h r).2.2 M with q|q
 ·exfalso
  have:=F.bef _ q
  have e:=HY t h r 0 (bI _)
  rw[oN,oN]at e
  rw[e]at this
  exact hf (by simpa using this)
 ·exact q
theorem H_{t:aI}{k:Nat}(hp:t.mask+1=2^k)(h:Int){r r':Nat}(h1:13<=r)(h2:r<r')(h3:r'<13+2^k):(gN t h r).1≠(gN t h r').1:=by
 obtain⟨c,hc⟩:∃c,c=13:=⟨13,rfl⟩
 have hi:(gN t h c).1<=t.mask:=vJ t c _ _ (by have:=eB (aT h) (show 0<t.mask+1 by omega);omega)
 have h0:(gN t h c).2.1=0:=by
  show(runs t c _ _).2.1=0
  rw[pM,hc]
  exact A4 (dS (MV h) dd)
 have at_:∀a,(gN t h (c+a)).1=Cz (2^k) a (gN t h c).1:=λa=>by
  show(runs t (c+a) _ _).1=_
  rw[(vK t c a _ _).1]
  show(runs t a (gN t h c).1 (gN t h c).2.1).1=_
  rw[h0,A2,hp]
 obtain⟨a,rfl⟩:∃a,r=c+a:=⟨r-c,by omega⟩
 obtain⟨b,rfl⟩:∃b,r'=c+b:=⟨r'-c,by omega⟩
 rw[at_ a,at_ b]
 exact MS oo oo oo
theorem Td(P:List Nat)(m:Nat):(P.flatMap λp=>(aE m).map (p,·)).length=m*P.length:=by
 induction P with
 |nil=>rfl
 |cons p P ih=>rw[eS,bZ,ih,aA,e_,aS,Nat.mul_succ];omega
theorem ac6{t:aI}(T:tM t n){h:Int}{M:Nat}(F:FF t n h M)(P:List Nat)(yM:Nat->Bool)(hc:∀q,q<M->yM q=true->(walk t h q).j∈P):((aE M).filter yM).length<=23*P.length:=by
 obtain⟨k,hp,_⟩:=T.pow
 obtain⟨r0,iE,hM⟩:=abp T F
 have hl:=T.load
 have ex:∀q,∃x:Nat×Nat,∃r d,q=(gN t h r).2.2+d/\d<=cq t.mask (gN t h r).1-(gN t h r).1/\x=((gN t h r).1+d,if r<13 then r else 13+d):=λq=>by
  obtain⟨r,d,h1,h2⟩:=HZ t h q
  exact⟨_,r,d,h1,h2,rfl⟩
 let g:=λq=>Te (ex q)
 have hg:∀q,∃r d,q=(gN t h r).2.2+d/\d<=cq t.mask (gN t h r).1-(gN t h r).1/\g q=((gN t h r).1+d,if r<13 then r else 13+d):=λq=>Tf (ex q)
 clear_value g
 have inj:∀q q',q<M->q'<M->g q=g q'->q=q':=λq q' hq Cw e=>by
  obtain⟨r,d,h1,h2,h3⟩:=hg q
  obtain⟨r',d',WN,h2',h3'⟩:=hg q'
  rw[h3,h3']at e
  have lt:∀{r d q:Nat},q=(gN t h r).2.2+d->q<M->r<r0:=λ{r d q}e hq=>by
   rcases mE r r0 with z|z
   ·exact z
   ·have:=K1 t h z;omega
  have l1:=lt h1 hq
  have l2:=lt WN Cw
  have d9:∀{r d:Nat},d<=cq t.mask (gN t h r).1-(gN t h r).1->d<=9:=λ{r d}hd=>by
   have:=KW t.mask (gN t h r).1;omega
  have:=d9 h2
  have:=d9 h2'
  obtain⟨e1,e2⟩:=Prod.mk.inj e
  have er:r=r':=by
   by_cases c1:r<13
   ·by_cases c2:r'<13
    ·rw[ax c1,ax c2]at e2;exact e2
    ·rw[ax c1,aq c2]at e2;omega
   ·by_cases c2:r'<13
    ·rw[aq c1,ax c2]at e2;omega
    ·rw[aq c1,aq c2]at e2
     have eb:(gN t h r).1=(gN t h r').1:=by omega
     rcases vH r r' with z|z|z
     ·exact absurd eb (H_ hp h oo z oo)
     ·exact z
     ·exact absurd eb.symm (H_ hp h oo z oo)
  subst er
  omega
 have hlen:((aE M).filter yM).length=(((aE M).filter yM).map g).length:=by rw[aA]
 rw[hlen,<-Td P 23]
 refine A9 ?_ λx hx=>?_
 ·show rD _ _
  rw[jQ]
  have nd:((aE M).filter yM).Nodup:=Tg A' AM
  refine A_ (λ{a b}ha hb yL e=>yL (inj a b ?_ ?_ e)) nd
  ·exact bY.mp (bH.mp ha).1
  ·exact bY.mp (bH.mp hb).1
 ·obtain⟨q,hq,rfl⟩:=aM.mp hx
  obtain⟨Mo,Qh⟩:=bH.mp hq
  have Mo:=bY.mp Mo
  have hm:=hc q Mo Qh
  obtain⟨r,d,h1,h2,h3⟩:=hg q
  have hj:(walk t h q).j=(gN t h r).1+d:=by rw[h1];exact HY t h r d h2
  rw[h3,fO]
  have:=KW t.mask (gN t h r).1
  exact⟨_,hj▸hm,aM.mpr ⟨_,bY.mpr (by split<;>omega),rfl⟩⟩
def X5(a:Nat):Nat:=(a*2147483648)%18446744073709551616+a/8589934592
def xq(acc l:Nat):Nat:=X5 ((acc+l*14029467366897019727)%18446744073709551616)*11400714785074694791 %18446744073709551616
theorem Th{a:Nat}(h:a<18446744073709551616):X5 a<18446744073709551616:=by unfold X5;omega
theorem Ia{a:Nat}(h:a<18446744073709551616):(X5 a %2147483648)*8589934592+X5 a/2147483648=a:=by
 have e:a*2147483648 %18446744073709551616=a %8589934592*2147483648:=Nat.mul_mod_mul_right 2147483648 a 8589934592
 unfold X5
 rw[e]
 omega
theorem Ib(x:Nat)(h:x<18446744073709551616):x*11400714785074694791 %18446744073709551616*614540362697595703 %18446744073709551616=x:=by
 rw[Ti,eZ,show 11400714785074694791*614540362697595703=18446744073709551616*379806830464837242+1 from by decide,iu,iA,rB,Ic,iB h]
theorem X6{a b l k:Nat}(h:xq a l=xq b k):(a+l*14029467366897019727)%18446744073709551616=(b+k*14029467366897019727)%18446744073709551616:=by
 unfold xq at h
 have h1:=Th (a:=(a+l*14029467366897019727)%18446744073709551616) (eB _ dd)
 have h2:=Th (a:=(b+k*14029467366897019727)%18446744073709551616) (eB _ dd)
 have h3:=Ia (a:=(a+l*14029467366897019727)%18446744073709551616) (eB _ dd)
 have h4:=Ia (a:=(b+k*14029467366897019727)%18446744073709551616) (eB _ dd)
 generalize X5 ((a+l*14029467366897019727)%18446744073709551616)=x at*
 generalize X5 ((b+k*14029467366897019727)%18446744073709551616)=y at*
 have e:x=y:=by
  rw[<-Ib x h1,h,Ib y h2]
 subst e
 rw[<-h3,<-h4]
def m_(x:Nat):Nat:=x %2305843009213693951
def W5(x:Nat):Nat:=xq 2870177450012600261 (m_ x)*839798700976720815 %18446744073709551616
theorem MY(x l:Nat):(xq 2870177450012600261 (m_ x)+l*14029467366897019727)%18446744073709551616*839798700976720815 %18446744073709551616=(W5 x+l)%18446744073709551616:=by
 unfold W5
 generalize xq 2870177450012600261 (m_ x)=a
 rw[Ti,jb,eZ,show 14029467366897019727*839798700976720815=18446744073709551616*638699622168397319+1 from by decide,iu,iA,rB l,Nat.add_left_comm,Ic,Nat.mod_add_mod]
def Ie(x y:Nat):Nat:=xq (xq 2870177450012600261 (m_ x)) (m_ y)
theorem OI{x y x' y':Nat}(h:Ie x y=Ie x' y'):(W5 x+m_ y)%18446744073709551616=(W5 x'+m_ y')%18446744073709551616:=by
 have:=X6 h
 rw[<-MY,<-MY,this]
theorem X7(a b:List Bool):mZ (a++b)=mZ a*128^b.length+mZ b:=by
 induction a with
 |nil=>show mZ b=0*_+_;omega
 |cons x a ih=>rw[i9,dY,dY,ih,bZ,Tj,jb,eZ,AU]
theorem MZ(k:Nat)(b:List Bool):mZ (dW k false++b)=mZ b:=by
 induction k with
 |zero=>rfl
 |succ k ih=>rw[oA,i9,dY,ih];show 0*_+_=_;omega
theorem K2{x:Nat}(h:∃bs:List Bool,bs.length<=16/\x=mZ bs):∃hi lo:List Bool,hi.length=8/\lo.length=8/\x=mZ hi*72057594037927936+mZ lo:=by
 obtain⟨bs,hb,rfl⟩:=h
 refine⟨(dW (16-bs.length) false++bs).take 8,(dW (16-bs.length) false++bs).drop 8,?_,?_,?_⟩
 ·simp;omega
 ·simp;omega
 ·have e:=X7 ((dW (16-bs.length) false++bs).take 8) ((dW (16-bs.length) false++bs).drop 8)
  rw[oS,MZ]at e
  rw[e]
  have:((dW (16-bs.length) false++bs).drop 8).length=8:=by simp;omega
  rw[this]
def mq:List Bool->Nat
 |[]=>0
 |b::l=>(if b then 1 else 0)*128^l.length+mq l
theorem t5:∀l,mZ l=64*mq l
 |[]=>rfl
 |b::l=>by
  rw[dY,t5 l]
  show _=64*((if b then 1 else 0)*128^l.length+mq l)
  rw[iu,<-eZ]
  cases b<;>rfl
theorem Ba:∀l:List Bool,127*mq l<128^l.length
 |[]=>by decide
 |b::l=>by
  have:=Ba l
  show 127*((if b then 1 else 0)*128^l.length+mq l)<128^(l.length+1)
  rw[eO]
  cases b
  ·simp;omega
  ·simp only[de,jW];omega
theorem EA{hi lo:List Bool}(h1:hi.length=8)(h2:lo.length=8):m_ (mZ hi*72057594037927936+mZ lo)=2*mq hi+64*mq lo/\2*mq hi+64*mq lo<72057594037927936:=by
 have a1:=Ba hi
 have a2:=Ba lo
 rw[h1]at a1
 rw[h2]at a2
 have e:(128^8:Nat)=72057594037927936:=by decide
 rw[e]at a1 a2
 rw[t5,t5]
 unfold m_
 omega
theorem M':∀{a b c d:List Bool},a.length=b.length->b.length=c.length->c.length=d.length->2*mq a+64*mq b=2*mq c+64*mq d->mq a=mq c/\mq b=mq d
 |[],[],[],[],_,_,_,_=>⟨rfl,rfl⟩
 |[],_::_,_,_,h,_,_,_=>by simp at h
 |_::_,[],_,_,h,_,_,_=>by simp at h
 |_,[],_::_,_,_,h,_,_=>by simp at h
 |_,_::_,[],_,_,h,_,_=>by simp at h
 |_,_,[],_::_,_,_,h,_=>by simp at h
 |_,_,_::_,[],_,_,h,_=>by simp at h
 |p::a,q::b,r::c,s::d,h1,h2,h3,e=>by
  have h1:a.length=b.length:=by simpa using h1
  have h2:b.length=c.length:=by simpa using h2
  have h3:c.length=d.length:=by simpa using h3
  have la:=Ba a
  have lb:=Ba b
  have lc:=Ba c
  have ld:=Ba d
  have e':2*((if p then 1 else 0)*128^a.length+mq a)+64*((if q then 1 else 0)*128^b.length+mq b)=2*((if r then 1 else 0)*128^c.length+mq c)+64*((if s then 1 else 0)*128^d.length+mq d):=e
  have ih:=M' h1 h2 h3
  show(if p then 1 else 0)*128^a.length+mq a=(if r then 1 else 0)*128^c.length+mq c/\(if q then 1 else 0)*128^b.length+mq b=(if s then 1 else 0)*128^d.length+mq d
  rw[h1,h2,h3]at la e'⊢
  rw[h2,h3]at lb
  rw[h3]at lc
  generalize (128^d.length:Nat)=W at*
  cases p<;>cases q<;>cases r<;>cases s<;>simp only[dO,cn,de,jW,Hf,dE]at e'⊢<;>first|(obtain⟨i1,i2⟩:=ih oo;omega)|omega
theorem Tn{x y:Nat}(hx:∃bs:List Bool,bs.length<=16/\x=mZ bs)(hy:∃bs:List Bool,bs.length<=16/\y=mZ bs)(h:m_ x=m_ y):x=y:=by
 obtain⟨a,b,h1,h2,rfl⟩:=K2 hx
 obtain⟨c,d,h3,h4,rfl⟩:=K2 hy
 rw[(EA h1 h2).1,(EA h3 h4).1]at h
 obtain⟨e1,e2⟩:=M' (h1.trans h2.symm) (h2.trans h3.symm) (h3.trans h4.symm) h
 rw[t5,t5,t5,t5,e1,e2]
theorem EB{x:Nat}(hx:∃bs:List Bool,bs.length<=16/\x=mZ bs):m_ x<72057594037927936:=by
 obtain⟨a,b,h1,h2,rfl⟩:=K2 hx
 have:=EA h1 h2
 omega
def FI:Nat->Nat->List Nat
 |0,a=>[a]
 |d+1,a=>FI d (a*128)++FI d (a*128+64)
theorem M_:∀(bs:List Bool)(a:Nat),a*128^bs.length+mZ bs∈FI bs.length a
 |[],a=>by show a*1+0∈[a];simp
 |b::l,a=>by
  have:=M_ l (a*128+dg b)
  rw[dY]
  show _∈FI l.length (a*128)++FI l.length (a*128+64)
  have e:a*128^(b::l).length+(dg b*128^l.length+mZ l)=(a*128+dg b)*128^l.length+mZ l:=by
   rw[aS,eO,jb,eZ,eY 128,AU]
  rw[e,d7]
  cases b
  ·exact .inl this
  ·exact .inr this
theorem EC:∀(d a:Nat),(FI d a).length=2^d
 |0,a=>rfl
 |d+1,a=>by show(_++_:List Nat).length=_;rw[bZ,EC,EC,eO];omega
theorem Na{x:Nat}(hx:∃bs:List Bool,bs.length<=16/\x=mZ bs):x∈FI 16 0:=by
 obtain⟨bs,hb,rfl⟩:=hx
 have:=M_ (dW (16-bs.length) false++bs) 0
 rw[MZ,Hf,dE]at this
 have e:(dW (16-bs.length) false++bs).length=16:=by simp;omega
 rwa[e]at this
def FL(x:Nat):Nat:=W5 x/144115188075855872
def Kl(x:Nat):Nat:=1048576^FL x
theorem K3(l:List Nat)(j:Nat):(l.map Kl).sum=((l.filter λx=>decide (FL x<=j)).map Kl).sum+((l.filter λx=>!decide (FL x<=j)).map Kl).sum:=by
 induction l with
 |nil=>rfl
 |cons x l ih=>
  by_cases h:FL x<=j
  ·rw[eK (by simpa using h),fC (by simpa using h),bb,bb,fP,fP,ih];omega
  ·rw[fC (by simpa using h),eK (by simpa using h),bb,bb,fP,fP,ih];omega
theorem Nb(j:Nat):∀l:List Nat,(∀x∈l,FL x<=j)->(l.map Kl).sum<=l.length*1048576^j/\(l.filter λx=>FL x==j).length*1048576^j<=(l.map Kl).sum
 |[],_=>by simp
 |x::l,h=>by
  obtain⟨h1,h2⟩:=Nb j l λy hy=>h y (.tail _ hy)
  have hx:=h x (.head _)
  have hw:Kl x<=1048576^j:=jX dd hx
  rw[bb,fP,aS,GK]
  refine⟨by omega,?_⟩
  by_cases q:FL x=j
  ·rw[eK (by simpa using q),aS,GK]
   have:Kl x=1048576^j:=by unfold Kl;rw[q]
   omega
  ·rw[fC (by simpa using q)];omega
theorem Ig(j:Nat):∀l:List Nat,(∀x∈l,¬FL x<=j)->∃q,(l.map Kl).sum=1048576^(j+1)*q
 |[],_=>⟨0,rfl⟩
 |x::l,h=>by
  obtain⟨q,e⟩:=Ig j l λy hy=>h y (.tail _ hy)
  have hx:=h x (.head _)
  refine⟨1048576^(FL x-(j+1))+q,?_⟩
  rw[bb,fP,e,iu,<-Tj]
  congr 1
  unfold Kl;congr 1;omega
theorem abq(l:List Nat)(hl:l.length<1048576)(j:Nat):(l.filter λx=>FL x==j).length<=(l.map Kl).sum %1048576^(j+1)/1048576^j:=by
 have P:0<1048576^j:=Sq dd
 obtain⟨a1,a2⟩:=Nb j (l.filter λx=>decide (FL x<=j)) λx hx=>by simpa using(bH.mp hx).2
 obtain⟨q,e⟩:=Ig j (l.filter λx=>!decide (FL x<=j)) λx hx=>by simpa using(bH.mp hx).2
 have hll:(l.filter λx=>decide (FL x<=j)).length<=l.length:=dX _ _
 have lt:((l.filter λx=>decide (FL x<=j)).map Kl).sum<1048576^(j+1):=by
  refine mr a1 ?_
  rw[eO,eY]
  exact Nat.mul_lt_mul_of_pos_left oo P
 rw[K3 l j,e,HH,iB lt,Nat.le_div_iff_mul_le P]
 refine bV (kO ?_) a2
 rw[Hz]
 congr 2
 apply iz
 intro x _
 by_cases q:FL x=j
 ·simp[q]
 ·simp[q]
noncomputable def pk(d a:Nat):Nat:=@Nat.rec (λ_=>Nat->Nat) Kl (λ_ ih a=>Nat.add (ih (Nat.mul a 128)) (ih (Nat.add (Nat.mul a 128) 64))) d a
theorem X8(a:Nat):pk 0 a=Kl a:=by unfold pk;exact Ih (Kl a)
theorem X9(d a:Nat):pk (d+1) a=pk d (a*128)+pk d (a*128+64):=by unfold pk;exact Ih _
theorem To(a:Nat):FI 0 a=[a]:=by unfold FI;exact Ih _
theorem Tp(d a:Nat):FI (d+1) a=FI d (a*128)++FI d (a*128+64):=by conv=>lhs;unfold FI
theorem Tq:∀(d a:Nat),pk d a=((FI d a).map Kl).sum
 |0,a=>by rw[X8,To,bb,gH,fP,List.sum_nil,oN]
 |d+1,a=>by rw[X9,Tp,eU,Hg,Tq d,Tq d]
def pkN:Nat:=208679976732297876849719382706270537200157208253613959199643652529456772142330017398864986346339478134694555663637369547190467467004157518187716399950011510969164381639632000225183165497308826812011665500518375474082266458970448893255289935403223337706420060829063306902128833651259907396861894573328796502995700313854827141052590027549021268416793851673038522089632029508447481634881158606974320112350025498452918638075490633151589443410756047199656711873723115861969779425684138009027818879985182517852986049120884610370560620405185367862413573450325365436662973137093917332429635211067349564206839832509666712394953039941329777025337920345041181769786836945586047702936519210839149810148880015302218384136934318108365523653298492395400049280318342163072355375514086
theorem abr:Nat.beq (pk 16 0) pkN=true:=by decide+kernel
theorem Tr:∀j,j<128->pkN %1048576^(j+1)/1048576^j<=600:=by decide+kernel
theorem Ii(hj:j<128):((FI 16 0).filter λx=>FL x==j).length<=600:=by
 refine bV (abq (FI 16 0) (by rw[EC];decide) j) ?_
 rw[<-Tq,Nat.eq_of_beq_eq_true abr]
 exact Tr j hj
abbrev Z3(x:Nat):Prop:=∃bs:List Bool,bs.length<=16/\x=mZ bs
theorem abt(x:Nat):W5 x<18446744073709551616:=eB _ dd
theorem win{f l K:Nat}(hf:f<18446744073709551616)(hl:l<72057594037927936)(e:(f+l)%18446744073709551616=K):f/144115188075855872=K/144115188075855872\/f/144115188075855872=(K/144115188075855872+127)%128:=by
 omega
theorem abu{f l k:Nat}(hl:l<72057594037927936)(hk:k<72057594037927936)(e:(f+l)%18446744073709551616=(f+k)%18446744073709551616):l=k:=by omega
theorem Ts(nd:L.Nodup)(hm:∀p∈L,Z3 p.1/\Z3 p.2){a:Nat}(ha:∀p∈L,Ie p.1 p.2=a):L.length<=1200:=by
 cases L with
 |nil=>exact bI _
 |cons p0 L0=>
  have key:∀p∈p0::L0,(W5 p.1+m_ p.2)%18446744073709551616=(W5 p0.1+m_ p0.2)%18446744073709551616:=λp hp=>OI ((ha p hp).trans (ha p0 (.head _)).symm)
  have hK:(W5 p0.1+m_ p0.2)%18446744073709551616<18446744073709551616:=eB _ dd
  generalize (W5 p0.1+m_ p0.2)%18446744073709551616=K at key hK
  generalize hL:p0::L0=L at*
  have hlen:L.length=(L.map (·.1)).length:=by rw[aA]
  have akU:L.map (·.1)⊆((FI 16 0).filter λx=>FL x==K/144115188075855872)++((FI 16 0).filter λx=>FL x==(K/144115188075855872+127)%128):=λx hx=>by
   obtain⟨p,hp,rfl⟩:=aM.mp hx
   rw[d7,bH,bH]
   rcases win (abt p.1) (EB (hm p hp).2) (key p hp)with w|w
   ·exact .inl ⟨Na (hm p hp).1,bX.mpr w⟩
   ·exact .inr ⟨Na (hm p hp).1,bX.mpr w⟩
  have hnd:(L.map (·.1)).Nodup:=by
   show rD _ _
   rw[jQ]
   refine A_ (λ{p q}hp hq hpq e=>hpq ?_) nd
   have h1:=key p hp
   have h2:=key q hq
   rw[<-e]at h2
   have e2:=abu (EB (hm p hp).2) (EB (hm q hq).2) (h1.trans h2.symm)
   exact rE e (Tn (hm p hp).2 (hm q hq).2 e2)
  rw[hlen]
  refine bV (A9 hnd akU) ?_
  rw[bZ]
  have h1:=Ii (j:=K/144115188075855872) oo
  have h2:=Ii (j:=(K/144115188075855872+127)%128) (eB _ dd)
  omega
def OJ(m p1 p2 c31 c33 acc l:Nat):Nat:=(((acc+l*p2)%m)*c31 %m+((acc+l*p2)%m)/c33)*p1 %m
def Ij(m c63 acc:Nat):Int:=if acc==m-1 then 1546275796 else if acc<c63 then(acc:Int)else(acc:Int)-m
def thG(m p1 p2 p5 c31 c33 c63 cx:Nat)(hashes:List Int):Int:=Ij m c63 ((hashes.foldl (init:=p5) (λacc h=>OJ m p1 p2 c31 c33 acc (h %(m:Int)).toNat)+(hashes.length^^^(p5^^^cx)))%m)
theorem abx(l:List Int):Bb l=thG (2^64) 11400714785074694791 14029467366897019727 2870177450012600261 (2^31) (2^33) (2^63) 3527539 l:=by
 unfold Bb thG OJ Ij
 with_reducible rfl
theorem X'(m p1 p2 p5 c31 c33 c63 cx:Nat)(a b:Int):thG m p1 p2 p5 c31 c33 c63 cx [a,b]=Ij m c63 ((OJ m p1 p2 c31 c33 (OJ m p1 p2 c31 c33 p5 (a %(m:Int)).toNat) (b %(m:Int)).toNat+(2^^^(p5^^^cx)))%m):=by
 unfold thG
 rw[fK,fK,List.foldl_nil]
 rfl
theorem Z4(acc l:Nat):OJ 18446744073709551616 11400714785074694791 14029467366897019727 2147483648 8589934592 acc l=xq acc l:=by
 unfold OJ xq X5
 with_reducible rfl
def conv(a:Nat):Int:=Ij 18446744073709551616 9223372036854775808 a
theorem Tt:conv 18446744073709551615=1546275796:=by decide
theorem xr{a:Nat}(h:a≠18446744073709551615):conv a=if a<9223372036854775808 then(a:Int)else(a:Int)-18446744073709551616:=by
 unfold conv Ij
 have:(a==18446744073709551616-1)=false:=by simpa using h
 rw[this]
 simp only[dO,cn]
 rfl
theorem vO(x:Nat):(lS (x:Int)%(18446744073709551616:Int)).toNat=m_ x:=by
 have h1:x %2305843009213693951<2305843009213693951:=eB _ dd
 have e:rawHash (x:Int)=((x %2305843009213693951:Nat):Int):=by
  simp only[rawHash,Int.natAbs_natCast]
  have:¬((x:Int)<0):=by omega
  rw[aq this]
  rfl
 unfold lS m_
 rw[e]
 have n1:((((x %2305843009213693951:Nat):Int))==-1)=false:=by rw[fA];omega
 rw[n1]
 simp only[dO,cn]
 omega
theorem Tu(x y:Nat):Bb [lS (x:Int),lS (y:Int)]=conv ((Ie x y+2870177450013471924)%18446744073709551616):=by
 have e1:=vO x
 have e2:=vO y
 have m:(2^64:Nat)=18446744073709551616:=by decide
 have m3:(2^31:Nat)=2147483648:=by decide
 have m4:(2^33:Nat)=8589934592:=by decide
 have m5:(2^63:Nat)=9223372036854775808:=by decide
 have m6:(2^^^(2870177450012600261^^^3527539):Nat)=2870177450013471924:=by decide
 have m7:((18446744073709551616:Nat):Int)=18446744073709551616:=Int.cast_ofNat_Int
 rw[abx,X',m,m3,m4,m5,m6,m7,e1,e2,Z4,Z4]
 unfold Ie conv
 with_reducible rfl
theorem Tv(a l:Nat):xq a l<18446744073709551616:=eB _ dd
theorem Ik{a:Nat}(ha:a<18446744073709551616):Il (conv a)=conv a:=by
 have h:-(9223372036854775808:Int)<=conv a/\conv a<9223372036854775808/\conv a≠-1:=by
  by_cases q:a=18446744073709551615
  ·rw[q,Tt];decide
  ·rw[xr q]
   split<;>omega
 generalize conv a=c at h
 unfold Il
 have e:(decide (-(2^63:Int)<=c)&&decide (c<2^63))=true:=by
  rw[eJ,bN,bN]
  exact⟨h.1,h.2.1⟩
 rw[ax e]
 rw[aq (by simpa using h.2.2)]
theorem Tw{a b:Nat}(ha:a<18446744073709551616)(hb:b<18446744073709551616)(na:a≠18446744073709551615)(nb:b≠18446744073709551615)(e:conv a=conv b):a=b:=by
 rw[xr na,xr nb]at e
 split at e<;>split at e<;>omega
abbrev rF(p:Nat×Nat):Int:=Il (Bb [lS (p.1:Int),lS (p.2:Int)])
abbrev yN(p:Nat×Nat):Nat:=(Ie p.1 p.2+2870177450013471924)%18446744073709551616
theorem DH(nd:L.Nodup)(hm:∀p∈L,Z3 p.1/\Z3 p.2){a:Nat}(ha:∀p∈L,yN p=a):L.length<=1200:=by
 cases L with
 |nil=>exact bI _
 |cons p0 L0=>
  refine Ts nd hm (a:=Ie p0.1 p0.2) λp hp=>?_
  have:=(ha p hp).trans (ha p0 (.head _)).symm
  have h1:=Tv (xq 2870177450012600261 (m_ p.1)) (m_ p.2)
  have h2:=Tv (xq 2870177450012600261 (m_ p0.1)) (m_ p0.2)
  unfold yN at this
  unfold Ie at*
  omega
theorem split_len{α:Type}(p:α->Bool):∀l:List α,l.length=(l.filter p).length+(l.filter λx=>!p x).length
 |[]=>rfl
 |a::l=>by
  have:=split_len p l
  by_cases h:p a=true
  ·rw[eK h,fC (by simpa using h),aS,aS];omega
  ·rw[fC h,eK (by simpa using h),aS,aS];omega
theorem OK(nd:L.Nodup)(hm:∀p∈L,Z3 p.1/\Z3 p.2){h:Int}(hh:∀p∈L,rF p=h):L.length<=2400:=by
 have lt:∀p,yN p<18446744073709551616:=λp=>eB _ dd
 have hc:∀p∈L,conv (yN p)=h:=λp hp=>by
  have:=hh p hp
  unfold rF at this
  rw[Tu,Ik (lt p)]at this
  exact this
 rw[split_len (λp=>yN p==18446744073709551615) L]
 have b1:(L.filter (λp=>yN p==18446744073709551615)).length<=1200:=DH (nd.sublist A') (λp hp=>hm p (bH.mp hp).1) (a:=18446744073709551615) λp hp=>bX.mp (bH.mp hp).2
 have b2:(L.filter (λp=>!(yN p==18446744073709551615))).length<=1200:=by
  have nd2:(L.filter (λp=>!(yN p==18446744073709551615))).Nodup:=nd.sublist A'
  have w_:∀p∈L.filter (λp=>!(yN p==18446744073709551615)),p∈L/\yN p≠18446744073709551615:=λp hp=>⟨(bH.mp hp).1,by have:=(bH.mp hp).2;simpa using this⟩
  generalize L.filter (λp=>!(yN p==18446744073709551615))=L2 at nd2 w_
  cases L2 with
  |nil=>exact bI _
  |cons p0 L0=>
   refine DH nd2 (λp hp=>hm p (w_ p hp).1) (a:=yN p0) λp hp=>?_
   exact Tw (lt p) (lt p0) (w_ p hp).2 (w_ p0 (.head _)).2 ((hc p (w_ p hp).1).trans (hc p0 (w_ p0 (.head _)).1).symm)
 omega
end Bt
namespace Bt
open PySem PySem.Spec PyProof.Rows L2
def Sx(ex:List aa)(H H':Hp):Prop:=∀b o,H b=some o->b∉ex->H' b=some o
variable{A:dr}{D I a b f l:aa}{E Q:af->aj->Prop}{H H' H1 H2:Hp}{Item:Nat->V->Hp->Prop}{J:It}{K:aL}{P prog:cQ}{Qd:Hp->Prop}{R:Result->aj->Prop}{X:Cx}{base:aH}{e:aQ}{ex fp qs:List aa}{fd:ox}{g:TG}{i j lo n:Nat}{mg:ag->Option af}{o:HO}{p p1 p2 pos pos':cK}{pins:List (aa×aG)}{ps:List ag}{r:List Nat}{rows:List (List Nat)}{s:aj}{sp:Sp}{te:TE}{tt:TT}{w:bC}{x:ag}{xs ys:List V}{α:Type}
theorem Sx.refl:Sx ex H H:=λ_ _ h _=>h
theorem Sx.trans(a:Sx ex H H1)(b:Sx ex H1 H2):Sx ex H H2:=λc o h n=>b c o (a c o h n) n
theorem Sx.weak{ex':List aa}(a:Sx ex H H1)(h:∀b∈ex,b∈ex'):Sx ex' H H1:=λc o q n=>a c o q λz=>n (h c z)
theorem Bc(a:aP H H'):Sx ex H H':=λb o h _=>a b o h
theorem gZ(a:Sx [] H H'):aP H H':=λb o h=>a b o h (by simp)
theorem Sx.then(a:Sx ex H H1)(b:aP H1 H2):Sx ex H H2:=a.trans (Bc b)
theorem aw(h:H l=none):aP H (upd H l o):=λb u e=>by rw[aN (aF e h)];exact e
theorem Tx(a:Sx ex H H1)(h:H1 l=none):Sx ex H (upd H1 l o):=a.then (aw h)
theorem c8(a:Sx ex H H1)(h:l∈ex):Sx ex H (upd H1 l o):=λb u e n=>by
 rw[aN (λq=>n (by rw[q];exact h))];exact a b u e n
theorem jZ(a:aP H H1)(h:H l=none):aP H (upd H1 l o):=λb u e=>by
 rw[aN (aF e h)];exact a b u e
theorem jt{H1:Hp}(h:H l=none)(a:Sx [l] (upd H l o) H2):aP H H2:=λb u e=>
 a b u (by rw[aN (aF e h)];exact e) (by simp only[bA];exact aF e h)
theorem cZ(i:Nat)(hN:X.N.Nodup)(hi:X.N[i]?=some x:=by rfl)(hx:Loc X.env.scope x:=by exact md rfl)(hf:X.fn x=true\/X.env.scope.names.lookup x=some .local:=by first|exact .inl rfl|exact .inr rfl|assumption):PG X (.Name x pos) (cy i):=Xs hN hi hx hf
theorem cH(i:Nat)(hN:X.N.Nodup)(he:PE X e te)(hi:X.N[i]?=some x:=by rfl)(hx:Loc X.env.scope x:=by exact md rfl)(hs:iV e (some (.Name x pos')) pos.line X.env=pure false:=by rfl)(hf:X.fn x=true\/X.env.scope.names.lookup x=some .local:=by first|exact .inl rfl|exact .inr rfl|assumption):PS X (.Assign [.Name x pos'] e pos) (QO te (cy i)):=lx hN hi hx he hs hf
abbrev bU(r:List Nat):List V:=r.map λ(n:Nat)=>V.int (n:Int)
theorem fX(a b:List Nat):bU (a++b)=bU a++bU b:=eU
theorem aR(a:List Nat):(bU a).length=a.length:=aA _
abbrev fe(H:Hp)(p:aa)(r:List Nat):Prop:=H p=some (.lst (bU r))
def ql(R:Hp->aa->α->Prop)(H:Hp)(a:aa)(xs:List α):Prop:=∃ps:List aa,H a=some (.lst (ps.map V.ref))/\Paired (R H) ps xs
abbrev j0:Hp->aa->List (List Nat)->Prop:=ql fe
def Keeps(R:Hp->aa->α->Prop):Prop:=∀H H' p x,aP H H'->R H p x->R H' p x
theorem gv{α:Type}{R:Hp->aa->α->Prop}(k:Keeps R){H H':Hp}(s:aP H H'):∀{ps:List aa}{xs:List α},Paired (R H) ps xs->Paired (R H') ps xs
 |_,_,.nil=>.nil
 |_,_,.cons r t=>.cons (k _ _ _ _ s r) (gv k s t)
theorem ck:Keeps fe:=λ_ _ _ _ s h=>s _ _ h
theorem aW{R:Hp->aa->α->Prop}(k:Keeps R):Keeps (ql R):=λ_ _ _ _ s⟨ps,h1,h2⟩=>⟨ps,s _ _ h1,gv k s h2⟩
theorem yi{α β:Type}{G:α->β->Prop}:∀{kh:List α}{l₂:List β}{a:α}{b:β},Paired G kh l₂->G a b->Paired G (kh++[a]) (l₂++[b])
 |_,_,_,_,.nil,h=>.cons h .nil
 |_,_,_,_,.cons r t,h=>.cons r (yi t h)
theorem tN{α β:Type}{G:α->β->Prop}:∀{kh:List α}{l₂:List β}{m₁:List α}{m₂:List β},Paired G kh l₂->Paired G m₁ m₂->Paired G (kh++m₁) (l₂++m₂)
 |_,_,_,_,.nil,h=>h
 |_,_,_,_,.cons r t,h=>.cons r (tN t h)
theorem bF{α β:Type}{G:α->β->Prop}:∀{kh:List α}{l₂:List β},Paired G kh l₂->kh.length=l₂.length
 |_,_,.nil=>rfl
 |_,_,.cons _ t=>by rw[aS,aS,bF t]
theorem Im:∀{a b:List aa},a.map V.ref=b.map V.ref->a=b
 |[],[],_=>rfl
 |[],_::_,h=>by simp at h
 |_::_,[],h=>by simp at h
 |x::a,y::b,h=>by
  simp only[bb,oP]at h
  rw[V.ref.inj h.1,Im h.2]
theorem pN{α β:Type}{G:α->β->Prop}:∀{kh:List α}{l₂:List β},Paired G kh l₂->∀a∈kh,∃b∈l₂,G a b
 |_,_,.nil,a,h=>by simp at h
 |_,_,.cons r t,a,h=>by
  rcases aY.mp h with rfl|h
  ·exact⟨_,bp,r⟩
  ·obtain⟨b,hb,g⟩:=pN t a h;exact⟨b,bg _ hb,g⟩
theorem yj{α β:Type}{G:α->β->Prop}{C:α->Prop}:∀{kh:List α}{l₂:List β},Paired G kh l₂->(∀a∈kh,C a)->Paired (λa b=>G a b/\C a) kh l₂
 |_,_,.nil,_=>.nil
 |_,_,.cons r t,h=>.cons ⟨r,h _ bp⟩ (yj t λa ha=>h a (bg _ ha))
theorem fD{ps:List aa}{x:V}(h:(ps.map V.ref)[i]?=some x):∃p,x=.ref p/\ps[i]?=some p:=by
 rw[bz]at h
 cases e:ps[i]?with
 |none=>rw[e]at h;cases h
 |some p=>rw[e]at h;exact⟨p,(bO h).symm,rfl⟩
theorem c6{x:V}(h:(bU r)[i]?=some x):∃n:Nat,x=.int (n:Int)/\r[i]?=some n:=by
 rw[bz]at h
 cases e:r[i]?with
 |none=>rw[e]at h;cases h
 |some p=>rw[e]at h;exact⟨p,(bO h).symm,rfl⟩
theorem cD{l:List α}{x:α}(h:l[i]?=some x):l.take (i+1)=l.take i++[x]:=by
 obtain⟨hi,e⟩:=gx.mp h
 rw[List.take_succ_eq_append_getElem hi,e]
def hide(H:Hp)(l:aa):Hp:=λb=>if b=l then none else H b
theorem j4:hide (upd H l o) l=hide H l:=by
 funext b;unfold hide
 by_cases h:b=l
 ·rw[ax h,ax h]
 ·rw[aq h,aq h,aN h]
theorem hide_ne(h:b≠l):hide H l b=H b:=by unfold hide;rw[aq h]
theorem gk(l:aa)(s:aP H H'):aP (hide H l) (hide H' l):=λb o e=>by
 by_cases h:b=l
 ·unfold hide at e;rw[ax h]at e;cases e
 ·rw[hide_ne h]at e⊢;exact s b o e
theorem iL(H:Hp)(l:aa):aP (hide H l) H:=λb o e=>by
 by_cases h:b=l
 ·unfold hide at e;rw[ax h]at e;cases e
 ·rw[hide_ne h]at e;exact e
theorem oZ(hl:H l=none)(s:aP H H'):aP H (hide H' l):=λb o e=>by
 rw[hide_ne (aF e hl)];exact s b o e
def g_(R:Hp->aa->α->Prop)(H:Hp)(l:aa)(xs:List α):Prop:=∃ps:List aa,H l=some (.lst (ps.map V.ref))/\Paired (R (hide H l)) ps xs
theorem gm{R:Hp->aa->α->Prop}(h:H l=some (.lst [])):g_ R H l []:=⟨[],h,.nil⟩
theorem bx{R:Hp->aa->α->Prop}(k:Keeps R){xs:List α}(s:aP H H')(h:g_ R H l xs):g_ R H' l xs:=by
 obtain⟨ps,h1,h2⟩:=h
 exact⟨ps,s _ _ h1,gv k (gk l s) h2⟩
theorem g_.len{R:Hp->aa->α->Prop}{xs:List α}{vs:List V}(h:g_ R H l xs)(e:H l=some (.lst vs)):vs.length=xs.length:=by
 obtain⟨ps,h1,h2⟩:=h
 rw[h1]at e
 have e':ps.map V.ref=vs:=by injection e with e;injection e
 rw[<-e',aA,bF h2]
theorem g_.lst{α:Type}{R:Hp->aa->α->Prop}{H:Hp}{l:aa}{xs:List α}(h:g_ R H l xs):∃vs,H l=some (.lst vs)/\vs.length=xs.length:=by
 obtain⟨ps,h1,h2⟩:=h
 exact⟨_,h1,by rw[aA,bF h2]⟩
theorem je{R:Hp->aa->α->Prop}{y:aa}{xs:List α}{x:α}{vs:List V}(h:g_ R H l xs)(e:H l=some (.lst vs))(hy:R (hide H l) y x):g_ R (upd H l (.lst (vs++[.ref y]))) l (xs++[x]):=by
 obtain⟨ps,h1,h2⟩:=h
 rw[h1]at e
 have e':ps.map V.ref=vs:=by injection e with e;injection e
 subst e'
 exact⟨ps++[y],by rw[ao,eU];rfl,by rw[j4];exact yi h2 hy⟩
theorem Bd{R:Hp->aa->α->Prop}{xs zs:List α}{vs:List V}(h:g_ R H l xs)(e:H l=some (.lst vs))(hy:Paired (R (hide H l)) qs zs):g_ R (upd H l (.lst (vs++qs.map V.ref))) l (xs++zs):=by
 obtain⟨ps,h1,h2⟩:=h
 rw[h1]at e
 have e':ps.map V.ref=vs:=by injection e with e;injection e
 subst e'
 exact⟨ps++qs,by rw[ao,eU],by rw[j4];exact tN h2 hy⟩
theorem g_.at{R:Hp->aa->α->Prop}(k:Keeps R){xs:List α}(h:g_ R H l xs):ql R H l xs:=by
 obtain⟨ps,h1,h2⟩:=h
 exact⟨ps,h1,gv k (iL H l) h2⟩
structure Wk (ex:List aa) (J:It) (H1:Hp) (n:Nat) (Item:Nat->V->Hp->Prop):Prop where
 go:∀i H,i<n->Sx ex H1 H->J.go i H
 yP:∀i H x H',i<n->Sx ex H1 H->J.yP i H x H'->aP H H'/\Item i x H'
 stop:∀H,Sx ex H1 H->J.stop n H
theorem Sx.sq(e:Sx ex H H')(h:a_ K H a xs)(n:a∉ex):a_ K H' a xs:=by
 rcases h with(h|⟨o,h⟩)|h
 ·exact .inl (.inl (e _ _ h n))
 ·exact .inl (.inr ⟨o,e _ _ h n⟩)
 ·exact .inr h
theorem vP(h:a_ K H1 a xs)(n:a∉ex):Wk ex (Itl K a) H1 xs.length (λi x _=>xs[i]?=some x)where
 go:=λi H hi s=>⟨xs,xs[i],s.sq h n,by simp[hi]⟩
 yP:=λi H x H' hi s y=>by obtain⟨rfl,y⟩:=y;exact⟨λ_ _ h=>h,y xs (s.sq h n)⟩
 stop:=λH s=>⟨xs,s.sq h n,aV _⟩
theorem Nc(h:a_ K H1 a xs)(n:a∉ex):Wk ex (Ite K a) H1 xs.length (λi x H'=>∃T y,x=.ref T/\H' T=some (.tup [.int (i:Nat),y])/\xs[i]?=some y)where
 go:=λi H hi s=>⟨xs,xs[i],s.sq h n,by simp[hi]⟩
 yP:=λi H x H' hi s y=>by
  obtain⟨T,z,rfl,hT,rfl,q⟩:=y
  exact⟨aw hT,T,z,rfl,ao,q xs (s.sq h n)⟩
 stop:=λH s=>⟨xs,s.sq h n,aV _⟩
theorem aby(h:a_ K H1 a xs)(n:a∉ex)(h2:a_ K H1 b ys)(n2:b∉ex){m:Nat}(hm:m=min xs.length ys.length):Wk ex (Itz K a b) H1 m (λi x H'=>∃T y z,x=.ref T/\H' T=some (.tup [y,z])/\xs[i]?=some y/\ys[i]?=some z)where
 go:=λi H hi s=>⟨xs,ys,xs[i]'oo,ys[i]'oo,s.sq h n,s.sq h2 n2,by rw[bT],by rw[bT]⟩
 yP:=λi H x H' hi s y=>by
  obtain⟨T,u,v,rfl,hT,rfl,q1,q2⟩:=y
  exact⟨aw hT,T,u,v,rfl,ao,q1 xs (s.sq h n),q2 ys (s.sq h2 n2)⟩
 stop:=λH s=>⟨xs,ys,s.sq h n,s.sq h2 n2,by omega⟩
theorem rG{lo:Int}:Wk ex (Itr lo n) H1 n (λi x _=>x=.int (lo+i))where
 go:=λi H hi _=>hi
 yP:=λi H x H' _ _ y=>by obtain⟨rfl,y⟩:=y;exact⟨λ_ _ h=>h,y⟩
 stop:=λH _=>aV n
theorem yz(h:∀H,Sx ex H1 H->a_ K H a xs):Wk ex (Itl K a) H1 xs.length (λi x _=>xs[i]?=some x)where
 go:=λi H hi s=>⟨xs,xs[i],h H s,by simp[hi]⟩
 yP:=λi H x H' hi s y=>by obtain⟨rfl,y⟩:=y;exact⟨λ_ _ h=>h,y xs (h _ s)⟩
 stop:=λH s=>⟨xs,h H s,aV _⟩
theorem Z5(h:∀H,Sx ex H1 H->a_ K H a xs):Wk ex (Ite K a) H1 xs.length (λi x H'=>∃T y,x=.ref T/\H' T=some (.tup [.int (i:Nat),y])/\xs[i]?=some y)where
 go:=λi H hi s=>⟨xs,xs[i],h H s,by simp[hi]⟩
 yP:=λi H x H' hi s y=>by
  obtain⟨T,z,rfl,hT,rfl,q⟩:=y
  exact⟨aw hT,T,z,rfl,ao,q xs (h H s)⟩
 stop:=λH s=>⟨xs,h H s,aV _⟩
theorem wkz(h:∀H,Sx ex H1 H->a_ K H a xs)(h2:∀H,Sx ex H1 H->a_ K H b ys){m:Nat}(hm:m=min xs.length ys.length):Wk ex (Itz K a b) H1 m (λi x H'=>∃T y z,x=.ref T/\H' T=some (.tup [y,z])/\xs[i]?=some y/\ys[i]?=some z)where
 go:=λi H hi s=>⟨xs,ys,xs[i]'oo,ys[i]'oo,h H s,h2 H s,by rw[bT],by rw[bT]⟩
 yP:=λi H x H' hi s y=>by
  obtain⟨T,u,v,rfl,hT,rfl,q1,q2⟩:=y
  exact⟨aw hT,T,u,v,rfl,ao,q1 xs (h H s),q2 ys (h2 H s)⟩
 stop:=λH s=>⟨xs,ys,h H s,h2 H s,by omega⟩
theorem wkv(h:∀H,Sx ex H1 H->a_ K H a xs):Wk ex (Itv K a xs.length) H1 xs.length (λi x _=>xs[xs.length-1-i]?=some x)where
 go:=λi H hi s=>⟨hi,xs,xs[xs.length-1-i]'oo,h H s,by rw[bT]⟩
 yP:=λi H x H' hi s y=>by obtain⟨rfl,y⟩:=y;exact⟨λ_ _ h=>h,y xs (h _ s)⟩
 stop:=λH s=>aV _
theorem ux{q:aa}(hD:H D=none)(h:a_ K H q xs):∀H',Sx [D] (upd H D o) H'->a_ K H' q xs:=λH' sx=>(jt (H1:=H) hD sx).seq h
theorem fY{tb:TS}{D:Ends}{σ:L2.St}(W:Wk ex J H1 n Item)(Pv:Nat->L2.St->Hp->Prop)(h0:Pv 0 σ H1)(hp:∀i σ H,Pv i σ H->Sx ex H1 H)(hs:∀i x σ H H',i<n->Pv i σ H->aP H H'->Item i x H'->g x σ H' λkH H2=>tb {D with nx:=Pv (i+1),ct:=Pv (i+1),bk:=D.nx} kH H2)(hd:∀σ H,Pv n σ H->D.nx σ H):
  ∃W:Nat->Nat->L2.St->Hp->Prop,(∃m,W 0 m σ H1)/\∀i m σ H,W i m σ H->(J.stop i H/\D.nx σ H)\/(J.go i H/\∃N:L2.St->Hp->Prop,(∀gT H',N gT H'->∃m',m'<m/\W (i+1) m' gT H')/\∀x H',J.yP i H x H'->g x σ H' λkH H2=>tb {D with nx:=N,ct:=N,bk:=D.nx} kH H2):=by
 refine⟨λi m σ H=>m=n-i/\i<=n/\Pv i σ H,⟨n,by simp,bI _,h0⟩,?_⟩
 rintro i m σ H ⟨rfl,hi,p⟩
 have q:=hp i σ H p
 by_cases hlt:i<n
 ·refine .inr ⟨W.go i H hlt q,Pv (i+1),λgT H' p'=>⟨n-(i+1),by omega,rfl,hlt,p'⟩,λx H' y=>?_⟩
  obtain⟨s,it⟩:=W.yP i H x H' hlt q y
  exact hs i x σ H H' hlt p s it
 ·have e:i=n:=by omega
  subst e
  exact .inl ⟨W.stop H q,hd σ H p⟩
theorem Io{vs:List Nat}{σ:L2.St}(W:Wk ex J (upd H1 D (.lst [])) n Item)(Pv:Nat->Hp->Prop)(h0:Pv 0 (upd H1 D (.lst [])))(hp:∀i H,Pv i H->Sx ex (upd H1 D (.lst [])) H)(hs:∀i x H H',i<n->Pv i H->aP H H'->Item i x H'->g x (wipe σ vs) H' λkH H2=>wipe kH vs=wipe σ vs/\tt kH H2 λb H3=>
   if b=true then te kH H3 λy H4=>∃acc,H4 D=some (.lst acc)/\acc.length<az/\Pv (i+1) (upd H4 D (.lst (acc++[y])))else Pv (i+1) H3)(hd:∀H,Pv n H->Qd H):
  ∃W:Nat->Nat->Hp->Prop,(∃m,W 0 m (upd H1 D (.lst [])))/\∀i m H,W i m H->(J.stop i H/\Qd H)\/(J.go i H/\∃Nx:Hp->Prop,(∀H',Nx H'->∃m',m'<m/\W (i+1) m' H')/\∀x H',J.yP i H x H'->g x (wipe σ vs) H' λkH H2=>wipe kH vs=wipe σ vs/\tt kH H2 λb H3=>
    if b=true then te kH H3 λy H4=>∃acc,H4 D=some (.lst acc)/\acc.length<az/\Nx (upd H4 D (.lst (acc++[y])))else Nx H3):=by
 refine⟨λi m H=>m=n-i/\i<=n/\Pv i H,⟨n,by simp,bI _,h0⟩,?_⟩
 rintro i m H ⟨rfl,hi,p⟩
 have q:=hp i H p
 by_cases hlt:i<n
 ·refine .inr ⟨W.go i H hlt q,Pv (i+1),λH' p'=>⟨n-(i+1),by omega,rfl,hlt,p'⟩,λx H' y=>?_⟩
  obtain⟨s,it⟩:=W.yP i H x H' hlt q y
  exact hs i x H H' hlt p s it
 ·have e:i=n:=by omega
  subst e
  exact .inl ⟨W.stop H q,hd H p⟩
theorem fQ{vs:List Nat}{σ:L2.St}(hD:H1 D=none)(W:Wk [D] J (upd H1 D (.lst [])) n Item)(p:Nat->Bool)(f:Nat->V)(hn:n<=1000000)(hs:∀i x H(p6:VK)(No:Hp->Prop),i<n->aP H1 H->Item i x H->(p i=true->p6 (f i) H)->(p i=false->No H)->g x (wipe σ vs) H λkH H2=>wipe kH vs=wipe σ vs/\tt kH H2 λb H3=>if b=true then te kH H3 p6 else No H3)(hd:∀H,aP H1 H->H D=some (.lst (((aE n).filter p).map f))->Qd H):
  ∃W:Nat->Nat->Hp->Prop,(∃m,W 0 m (upd H1 D (.lst [])))/\∀i m H,W i m H->(J.stop i H/\Qd H)\/(J.go i H/\∃Nx:Hp->Prop,(∀H',Nx H'->∃m',m'<m/\W (i+1) m' H')/\∀x H',J.yP i H x H'->g x (wipe σ vs) H' λkH H2=>wipe kH vs=wipe σ vs/\tt kH H2 λb H3=>
    if b=true then te kH H3 λy H4=>∃acc,H4 D=some (.lst acc)/\acc.length<az/\Nx (upd H4 D (.lst (acc++[y])))else Nx H3):=by
 refine Io W (λi H=>aP H1 H/\Sx [D] (upd H1 D (.lst [])) H/\H D=some (.lst (((aE i).filter p).map f))) ⟨aw hD,.refl,ao⟩ (λi H q=>q.2.1) (λi x H H' hi⟨s1,s2,Qi⟩s it=>?_) (λH⟨s1,_,q⟩=>hd H s1 q)
 have N5:aP H1 H':=s1.trans s
 have lD:H' D=some (.lst (((aE i).filter p).map f)):=s _ _ Qi
 refine hs i x H' _ _ hi N5 it (λyt=>?_) (λyt=>?_)
 ·refine⟨_,lD,?_,jZ N5 hD,c8 (s2.then s) (by simp),?_⟩
  ·rw[aA]
   have:=dX p (aE i)
   rw[e_]at this
   exact mr (bV this (iU (dS hi hn))) dd
  ·rw[ao,iy,jf,eK yt,eU];rfl
 ·refine⟨N5,s2.then s,?_⟩
  rw[lD,iy,jf,fC (by rw[yt];decide)]
  simp
def top(i:Nat):bj:=PySem.Challenge.pw_beatranks_s01_answers.main.body.getD i (.Pass ⟨0,0,0,0⟩)
def sS(mg:ag->Option af)(x:ag)(i:Int):Prop:=∃t,mg x=some (.int i t)
def IsT(K:aL)(mg:ag->Option af)(x:ag)(is:List Int):Prop:=∃a,mg x=some (.ref a)/\∀H,lu K H a (is.map V.int)
structure lB (K:aL) (mg:ag->Option af):Prop where
 consonant:sS mg "CONSONANT" 0
 DI:sS mg "LONG_VOWEL" 2
 X_:sS mg "LOUDEST" 9
 K4:sS mg "MOST_SOUNDS" 10
 K5:sS mg "MOST_VOWELS" 5
 j5:sS mg "MOST_CONSONANTS" 3
 Ip:sS mg "IN_NO_FOOT" 0
 DJ:sS mg "FOOT_ALONE" 1
 xt:sS mg "HEAD_FIRST" 2
 K6:sS mg "REST_SECOND" 3
 OL:sS mg "REST_FIRST" 4
 t6:sS mg "HEAD_SECOND" 5
 main:sS mg "MAIN" 10
 heads:IsT K mg "HEADS" [1,2,5]
 rules:sS mg "RULES" 16
 CO:sS mg "FIRST_FOOT_RULE" 4
 K7:IsT K mg "FOOT_BEGINS" [1,2,4]
 Tz:IsT K mg "FOOT_ENDS" [1,3,5]
 digit:sS mg "DIGIT" 128
 spare:sS mg "SPARE" 64
 o3:sS mg "NOT_TAKEN" (-1)
 aeF:sS mg "NO_WAY" (-3)
 tooMany:sS mg "TOO_MANY_RULES" (-4)
 Ya:sS mg "NO_RANKS" (-6)
 TB:sS mg "MOST_TOLD" 10
 K8:sS mg "MOST_RULES_FITTED" 5
 Yb:sS mg "BEGINS" 0
 abz:sS mg "CODAS" 1
 abA:sS mg "RULES_CALL" 2
 Z6:sS mg "MANY" 3
 Z7:sS mg "BEST" 4
 cProfile:sS mg "PROFILE" 5
 OM:sS mg "BOUNDING" 6
 yk:sS mg "CONTENDERS" 7
 abB:sS mg "LEARN" 8
 len:mg "len"=none
 enumerate:mg "enumerate"=none
 zip:mg "zip"=none
 range:mg "range"=none
 all:mg "all"=none
 sum:mg "sum"=none
 min:mg "min"=none
 max:mg "max"=none
 sorted:mg "sorted"=none
 set:mg "set"=none
 reversed:mg "reversed"=none
 list:mg "list"=none
 tuple:mg "tuple"=none
 dict:mg "dict"=none
theorem eC{i:Int}(h:sS X.mg x i)(hg:Gl X x)(hd:(x==("__debug__":ag))=false:=by decide):PE X (.Name x pos) (tC (.int i)):=by
 obtain⟨t,e⟩:=h
 exact Xq hg e ⟨t,rfl⟩ hd
def Yc(K:aL)(is:List Int):TE:=λ_ H Q=>∀a,(∀H,lu K H a (is.map V.int))->Q (.ref a) H
theorem ED{is:List Int}(h:IsT X.K X.mg x is)(hg:Gl X x)(hd:(x==("__debug__":ag))=false:=by decide):PE X (.Name x pos) (Yc X.K is):=by
 obtain⟨a,e,q⟩:=h
 exactλ_ _ _ H _ I h=>uG I hg e ⟨.ref a,H,I,rfl,h a q⟩ hd
structure Fn (P:cQ) (w:bC) (K:aL) (mg:ag->Option af) (base:aH) (x:ag) (ps:List ag) (k:Nat) (sp:Sp):Prop where
 ex:∃f fd,cz P w K mg base hC k f fd ps sp/\mg x=some (.ref f)/\kM K (.ref f)=true/\Binds K fd ps []
theorem c9{k:Nat}{es:List aQ}{t:TA}(F:Fn X.prog X.w X.K X.mg X.base x ps k sp)(hr:g9 k X.A)(hg:Gl X x)(ha:PA X (e::es) t)(CC:(x==("__debug__":ag))=false:=by decide)(he:aU (e::es) X.env=(false,eval e X.env)::aU es X.env:=by rfl)(mY:(b9 pos (aU es X.env)).any (·.1)=false:=by rfl):
  PE X (.Call (.Name x p) (e::es) [] pos) (Ge sp [] E0 t):=by
 obtain⟨f,fd,G,hm,hk,hb⟩:=F.ex
 exact XB G hr hg hm hk hb .nil Dn ha CC he mY
theorem kg{c b:Bool}{A B:Prop}(e:c=b)(h1:b=true->A)(h2:b=false->B):if c=true then A else B:=by
 subst e
 cases c with
 |true=>exact h1 rfl
 |false=>exact h2 rfl
theorem ON(x:vQ):(!decide (V.int (x.kind:Int)=V.int 0))=x.vowel:=by
 unfold vQ.vowel
 by_cases h:x.kind=0
 ·rw[h];rfl
 ·have:¬(V.int (x.kind:Int)=V.int 0):=λe=>h (by have:=V.int.inj e;omega)
  rw[fG this,rH]
  symm;rw[fH];exact h
theorem vR{a b:aQ}{tA W3:TT}(ha:PT X a tA)(hb:PT X b W3):PT X (.BoolOp .And [a,b] pos) (QK tA W3):=(aaR ha (Xr hb)).pt
theorem K9{a b:aQ}{tA W3:TT}(ha:PT X a tA)(hb:PT X b W3):PT X (.BoolOp .Or [a,b] pos) (tOr tA W3):=(ad3 ha (aaQ hb)).pt
def Nd(H:Hp)(p:aa)(x:vQ):Prop:=H p=some (.tup [.int (x.kind:Int),.int (x.loud:Int)])
theorem bJ:Keeps Nd:=λ_ _ _ _ s h=>s _ _ h
abbrev fE:Hp->aa->br->Prop:=ql Nd
def Be(H:Hp)(Q:VK)(r:List Nat):Prop:=∀H' p,aP H H'->H p=none->fe H' p r->Q (.ref p) H'
def vS:Sp:=λvs H Q _=>∃a w,vs=[.ref a]/\fE H a w/\w.length<=60/\Be H Q (vp w)
theorem sc6:a0 ["sounds","place","sound"] ["sounds"] (aB (top 6)):={}
theorem TC(w:br):((aE w.length).filter λi=>(w.getD i ⟨0,0⟩).vowel).map (λ(i:Nat)=>V.int (i:Int))=bU (vp w):=by
 have go:∀(w:br)(i:Nat),cA i w=((aE w.length).filter λj=>(w.getD j ⟨0,0⟩).vowel).map (·+i):=by
  intro w
  induction w with
  |nil=>intro i;rfl
  |cons x w ih=>
   intro i
   rw[aS,qI,i_,iq]
   have e:((λj=>((x::w).getD j ⟨0,0⟩).vowel)∘vA)=λj=>(w.getD j ⟨0,0⟩).vowel:=by funext j;simp
   rw[e]
   simp only[cA]
   have e2:(λj=>j+(i+1))=((λj=>j+i)∘vA):=by funext j;simp;omega
   have ih':=ih (i+1)
   rw[e2]at ih'
   by_cases h:x.vowel=true
   ·simp[h,ih']
   ·simp[h,ih']
 rw[vp,go w 0]
 simp[bU]
theorem abC(F:il K "vowel_places" "vowel_places" (top 6) f fd)(T:lB K mg):cz P w K mg base hC 1 f fd ["sounds"] vS:=by
 refine F.ok sc6 (λfF A outer s H vs Q E hr h=>?_)
 ·obtain⟨a,w,rfl,⟨ps,ha,hp⟩,hlen,k⟩:=h
  refine⟨_,aD (aX (gh (own:=[("place",1),("sound",2)]) (g:=tq K 2 (fi (cy 1) (fi (cy 2) tp))) (tt:=oq (qk rNe (qk (XG K) (cE 2) (tC (.int 0))) (tC (.int 0)))) (te:=cE 1)
   rfl sc6.nd (kC rfl T.enumerate (ae (pv 0) ai)) (b_ (by show i8 ["sounds","place","sound"] (aB (top 6)) _ _=true;decide+kernel))
   (λs H C cl fp=>fV rfl (bu (cZ 1 sc6.nd) (bu (cZ 2 sc6.nd) eI)))
   (λs H C cl fp=>gX (bK zM (iP zX (pv 2) bo (λ_ _=>rfl)) (eC T.consonant rfl) (bW _)))
   (λs H C cl fp=>pv 1))),?_⟩
  refine⟨_,rfl,a,_,rfl,a_.of ha,λD hD=>?_⟩
  have Mq:ps.length=w.length:=bF hp
  refine fQ hD (Nc (a_.of (by rw[aN (aF ha hD)];exact ha)) (by simp only[bA];exact aF ha hD)) (λi=>(w.getD i ⟨0,0⟩).vowel) (λ(i:Nat)=>V.int (i:Int)) (by rw[aA];omega) (λi x H' p6 No hi sm it hy hn=>?_) (λH' sm hd=>?_)
  ·obtain⟨T',y,rfl,hT,hx⟩:=it
   obtain⟨p,rfl,yt⟩:=fD hx
   obtain⟨sd,hsd,kf⟩:=cN hp yt
   have akW:H' p=some (.tup [.int (sd.kind:Int),.int (sd.loud:Int)]):=sm _ _ kf
   have eg:w.getD i ⟨0,0⟩=sd:=by rw[bM,hsd];rfl
   refine⟨T',_,rfl,lu.of hT,rfl,_,_,rfl,_,_,rfl,rfl,rfl,?_⟩
   refine⟨_,rfl,p,_,_,_,rfl,rfl,lu.of akW,rfl,rfl,_,rfl,?_⟩
   rw[eg]at hy hn
   exact kg (ON sd) (λh=>⟨_,rfl,hy h⟩) hn
  ·rw[aA,Mq,TC]at hd
   exact k H' D sm hD hd
def sT:Sp:=λvs H Q _=>∃k l:Nat,vs=[.int (k:Int),.int (l:Int)]/\Q (.bl (decide (k<=2)&&decide (l<=9))) H
theorem sc7:a0 ["kind","loudness"] ["kind","loudness"] (aB (top 7)):={}
theorem K_(F:il K "is_sound" "is_sound" (top 7) f fd)(T:lB K mg):cz P w K mg base hC 1 f fd ["kind","loudness"] sT:=by
 refine F.ok sc7 (λfF A outer s H vs Q E hr h=>?_)
 ·obtain⟨k,l,rfl,q⟩:=h
  refine⟨_,aD (aX (zI (gU Dc (pv 0) (eC T.DI rfl) (bW _)) (xc (gU Dc (pv 1) (eC T.X_ rfl) (bW _))))),?_⟩
  refine⟨_,rfl,_,_,rfl,rfl,_,rfl,?_⟩
  refine kg (b:=decide (k<=2)) (by rw[dN];omega) (λh1=>?_) (λh1=>?_)
  ·refine⟨_,rfl,_,_,rfl,rfl,?_⟩
   have e:decide ((l:Int)<=9)=(decide (k<=2)&&decide (l<=9)):=by rw[h1,fv,dN];omega
   show Q (.bl (decide ((l:Int)<=9))) H
   rw[e];exact q
  ·rw[h1,jD]at q;exact q
def mI:Sp:=λvs H Q _=>∃a w,vs=[.ref a]/\fE H a w/\w.length<=60/\∀H',aP H H'->Q (.bl (dn w)) H'
theorem sc8:a0 ["sounds","vowels","kind","loudness"] ["sounds"] (aB (top 8)):={}
theorem sU(w:br):dn w=(decide (w.length<=10)&&((w.all λx=>decide (x.kind<=2)&&decide (x.loud<=9))&&(decide (1<=bc w)&&decide (bc w<=5)))):=rfl
theorem EE(w:List α)(d:α)(p:α->Bool):((aE w.length).map λi=>p (w.getD i d)).all id=w.all p:=by
 have e:(aE w.length).map (λi=>p (w.getD i d))=w.map p:=by
  apply jc
  intro i
  by_cases h:i<w.length
  ·simp[h]
  ·rw[eR (by simp;omega),eR (by simp;omega)]
 rw[e,u9];rfl
theorem filter_true(n:Nat):(aE n).filter (λ_=>true)=aE n:=AN.mpr λ_ _=>rfl
theorem OO(F:il K "is_word" "is_word" (top 8) f fd)(T:lB K mg)(Gs:Fn P w K mg base "is_sound" ["kind","loudness"] 1 sT)(Gv:Fn P w K mg base "vowel_places" ["sounds"] 1 vS):
  cz P w K mg base hC 2 f fd ["sounds"] mI:=by
 refine F.ok sc8 (λfF A outer s H vs Q E hr h=>?_)
 ·obtain⟨a,w,rfl,hw,hlen,k⟩:=h
  obtain⟨ps,ha,hp⟩:=id hw
  have Mq:ps.length=w.length:=bF hp
  refine⟨_,ak (eG (bK x5 (bw aZ rfl T.len cP (ae (pv 0) ai)) (eC T.K4 rfl) (bW _)) (aD (aX x4)) cf)
   (ak (eG (nJ (jC (bw (KD rfl) rfl T.all Iq (ae
     (gh (own:=[("kind",2),("loudness",3)]) (g:=tq K 2 (fi (cy 2) (fi (cy 3) tp))) (tt:=oE) (te:=Ge sT [] E0 (fk (cE 2) (fk (cE 3) f6)))
      rfl sc8.nd (cB (pv 0)) (b_ (by show i8 ["sounds","vowels","kind","loudness"] (aB (top 8)) _ _=true;decide+kernel))
      (λs H C cl fp=>fV rfl (bu (cZ 2 sc8.nd) (bu (cZ 3 sc8.nd) eI)))
      (λs H C cl fp=>fB)
      (λs H C cl fp=>c9 Gs hr rfl (ae (pv 2) (ae (pv 3) ai)))) ai)))) (aD (aX x4)) cf)
   (ak (cH 1 sc8.nd (bw aZ rfl T.len cP (ae (c9 Gv hr rfl (ae (pv 0) ai)) ai)))
   (aD (aX (zI (gU ZY (pv 1) bo (bW _)) (xc (gU Dc (pv 1) (eC T.K5 rfl) (bW _)))))))),?_⟩
  refine⟨_,rfl,a,_,rfl,.inl (a_.of ha),_,_,rfl,rfl,_,rfl,?_⟩
  refine kg (b:= !decide (w.length<=10)) (by rw[aA,Mq,<-nZ,dN];omega) (λh1=>?_) (λh1=>?_)
  ·have:=k H λ_ _ h=>h
   rw[sU]at this
   rw[d_]at h1
   rw[h1]at this;exact this
  rw[jg]at h1
  refine⟨_,rfl,a,rfl,⟨_,a_.of ha⟩,λD hD=>?_⟩
  refine fQ hD (vP (a_.of (by rw[aN (aF ha hD)];exact ha)) (by simp only[bA];exact aF ha hD)) (λ_=>true)
   (λi=>V.bl (decide ((w.getD i ⟨0,0⟩).kind<=2)&&decide ((w.getD i ⟨0,0⟩).loud<=9))) (by rw[aA];omega) (λi x H' p6 No hi sm it hy hn=>?_) (λH' sm hd=>?_)
  ·obtain⟨p,rfl,yt⟩:=fD it
   obtain⟨sd,hsd,kf⟩:=cN hp yt
   have eg:w.getD i ⟨0,0⟩=sd:=by rw[bM,hsd];rfl
   rw[eg]at hy
   exact⟨p,_,rfl,lu.of (sm _ _ kf),rfl,_,_,rfl,_,_,rfl,rfl,rfl,_,rfl,_,rfl,sd.kind,sd.loud,rfl,hy rfl⟩
  rw[filter_true,aA,Mq]at hd
  have lD:H' D=some (.lst (((aE w.length).map λi=>decide ((w.getD i ⟨0,0⟩).kind<=2)&&decide ((w.getD i ⟨0,0⟩).loud<=9)).map V.bl)):=by rw[hd,cg];rfl
  refine⟨D,_,rfl,a_.of lD,_,rfl,?_⟩
  rw[EE w ⟨0,0⟩ λx=>decide (x.kind<=2)&&decide (x.loud<=9)]
  refine kg (b:= !(w.all λx=>decide (x.kind<=2)&&decide (x.loud<=9))) rfl (λh2=>?_) (λh2=>?_)
  ·have:=k H' sm
   rw[sU]at this
   rw[d_]at h2
   rw[h1,h2]at this;exact this
  rw[jg]at h2
  refine⟨_,rfl,a,w,rfl,aW bJ _ _ _ _ sm hw,hlen,λH2 p sm2 _ w6=>?_⟩
  refine⟨p,_,rfl,.inl (a_.of w6),?_⟩
  rw[aR,cY]
  have kk:=k H2 (sm.trans sm2)
  rw[sU,h1,h2,fv,fv]at kk
  refine⟨_,rfl,_,_,rfl,rfl,_,rfl,?_⟩
  refine kg (b:=decide (1<=bc w)) (by rw[dN];omega) (λh3=>?_) (λh3=>?_)
  ·refine⟨_,rfl,_,_,rfl,rfl,?_⟩
   have e:decide ((bc w:Int)<=5)=decide (bc w<=5):=by rw[dN];omega
   rw[h3,fv,<-e]at kk
   exact kk
  ·rw[h3,jD]at kk;exact kk
theorem c7:az=16777216:=dU
def P4(c b:Nat):Bool:=decide (b<=3)&&decide (c-b<=3)
theorem La(c:Nat):rJ c=(aE (c+1)).filter (P4 c):=rfl
theorem Lb(k:Nat):(rJ k).length<=4:=by
 have nd:(rJ k).Nodup:=(tH k).imp λh=>bS h
 have:=nd.length_le_of_subset (l₂:=aE 4) λx hx=>bY.mpr (by have:=(Ar hx).2.1;omega)
 simpa using this
theorem rK(c:Nat):∀rows:List (List Nat),(between rows c).length<=4*rows.length
 |[]=>by simp[between]
 |r::rows=>by
  have:=rK c rows
  have:=Lb c
  unfold between at*
  rw[eS,bZ,aA,aS];omega
theorem EF(h:rows[i]?=some r)(c:Nat):between (rows.take (i+1)) c=between (rows.take i) c++(rJ c).map λb=>r++[b,c-b]:=by
 rw[cD h];unfold between;rw[Bf];simp
def ju(H1:Hp):Hp->aa->List Nat->Prop:=λH p r=>fe H p r/\H1 p=none
theorem cT(H1:Hp):Keeps (ju H1):=λ_ _ _ _ s h=>⟨s _ _ h.1,h.2⟩
theorem Nf{xs:List (List Nat)}(h:ql (ju H1) H a xs):j0 H a xs:=by
 obtain⟨ps,h1,h2⟩:=h
 exact⟨ps,h1,Paired.uD h2 λ_ _ q=>q.1⟩
def yX(H:Hp)(Q:VK)(rows:List (List Nat)):Prop:=∀H' p,aP H H'->H p=none->ql (ju H) H' p rows->Q (.ref p) H'
def xu:Sp:=λvs H Q _=>∃(a:aa)(rows:List (List Nat))(c:Nat),vs=[.ref a,.int (c:Int)]/\j0 H a rows/\rows.length<=1000/\(∀r∈rows,r.length<=100)/\c<=60/\yX H Q (between rows c)
theorem TF:a0 ["rows","consonants","longer","row","behind","before"] ["rows","consonants"] (aB (top 19)):={}
theorem Lc(F:il K "parted_between" "parted_between" (top 19) f fd)(T:lB K mg):cz P w K mg base hC 1 f fd ["rows","consonants"] xu:=by
 refine F.ok TF (λfF A outer s H vs Q E hr h=>?_)
 ·obtain⟨a,rows,c,rfl,hw,hlen,sI,hc,k⟩:=h
  obtain⟨ps,ha,hp⟩:=id hw
  have Mq:ps.length=rows.length:=bF hp
  refine⟨_,ak (cH 2 TF.nd (bP ai))
   (ak (fW ee rfl (cB (pv 0)) (cZ 3 TF.nd)
    (aD (fW ee rfl (om rfl T.range (ae (b7 jF (pv 1) bo) ai)) (cZ 4 TF.nd)
     (ak (cH 5 TF.nd (b7 jG (pv 1) (pv 4)))
     (aD (eG (vR (bK Dc (pv 4) (eC T.j5 rfl) (bW _)) (bK Dc (pv 5) (eC T.j5 rfl) (bW _)))
      (aD (eQ (gc dq kE kF gf (pv 2) (ae (b7 lz (pv 3) (bP (ae (pv 4) (ae (pv 5) ai)))) ai)))) cf))))))
   (aD (aX (pv 2)))),?_⟩
  refine⟨bI _,λl hl=>?_⟩
  have N6:a≠l:=aF ha hl
  refine⟨_,rfl,a,rfl,⟨_,a_.of (by rw[aN N6];exact ha)⟩,?_⟩
  refine fY (ex:=[l]) (vP (a_.of (by rw[aN N6];exact ha)) (by simp only[bA];exact N6))
   (λi σ H'=>∃(v3 v4 v5:Option V),σ=[some (.ref a),some (.int (c:Int)),some (.ref l),v3,v4,v5]/\aP H H'/\Sx [l] (upd H l (.lst [])) H'/\g_ (ju H) H' l (between (rows.take i) c))
   ⟨none,none,none,rfl,aw hl,.refl,gm ao⟩ (λi σ H'⟨_,_,_,_,_,q,_⟩=>q) ?_ ?_
  ·rintro i x σ H1 H2 hi ⟨v3,v4,v5,rfl,sm,sx,Kr⟩ nX hx
   obtain⟨p,rfl,yt⟩:=fD hx
   obtain⟨r,vT,kf⟩:=cN hp yt
   refine⟨_,rfl,_,_,rfl,rfl,(c:Int)+1,rfl,by omega,by omega,?_⟩
   have en:((c:Int)+1).toNat=c+1:=by omega
   rw[en]
   refine fY (ex:=[l]) rG
    (λj σ H'=>∃(v4 v5:Option V),σ=[some (.ref a),some (.int (c:Int)),some (.ref l),some (.ref p),v4,v5]/\aP H H'/\Sx [l] H2 H'/\g_ (ju H) H' l (between (rows.take i) c++((aE j).filter (P4 c)).map λb=>r++[b,c-b]))
    ⟨v4,v5,rfl,sm.trans nX,.refl,by simpa using bx (cT H) nX Kr⟩ (λj σ H'⟨_,_,_,_,q,_⟩=>q) ?_ ?_
   ·rintro j x σ H3 H4 hj ⟨u4,u5,rfl,sm3,t7,Qj⟩ jh rfl
    have sm4:=sm3.trans jh
    have hl4:=bx (cT H) jh Qj
    refine⟨_,rfl,_,rfl,_,_,rfl,rfl,?_⟩
    have ej:(0:Int)+(j:Int)=(j:Nat):=by omega
    have es:(c:Int)-(0+(j:Int))=((c-j:Nat):Int):=by omega
    refine⟨_,rfl,_,_,rfl,rfl,_,rfl,?_⟩
    have ns:(aE (j+1)).filter (P4 c)=(aE j).filter (P4 c)++[j].filter (P4 c):=by rw[iy,jf]
    have skip:P4 c j=false->g_ (ju H) H4 l (between (rows.take i) c++((aE (j+1)).filter (P4 c)).map λb=>r++[b,c-b]):=λhk=>by
     rw[ns,fC (by rw[hk];decide),Bg,cW]
     exact hl4
    refine kg (b:=decide (j<=3)) (by rw[dN];omega) (λh1=>?_) (λh1=>?_)
    ·refine⟨_,rfl,_,_,rfl,rfl,_,rfl,?_⟩
     refine kg (b:=decide (c-j<=3)) (by rw[dN];omega) (λh2=>?_) (λh2=>?_)
     ·obtain⟨vs,P5,hqs⟩:=hl4.lst
      have hr4:H4 p=some (.lst (bU r)):=sm4 _ _ kf
      refine⟨_,rfl,.inl ⟨rfl,_,a_.of P5⟩,_,rfl,_,rfl,_,rfl,(by show 2<=az;decide),λt ht=>?_⟩
      have hrr:r.length<=100:=sI r (cC vT)
      refine⟨p,t,_,_,rfl,rfl,by rw[aN (aF hr4 ht)];exact hr4,ao,(by rw[aR];show r.length+2<=az;rw[c7];omega),λy hy=>?_⟩
      generalize Km:upd H4 t (.lst [.int (0+(j:Int)),.int ((c:Int)-(0+(j:Int)))])=H5 at*
      have P6:aP H4 H5:=by rw[<-Km];exact aw ht
      have hl5:=bx (cT H) P6 hl4
      have Kn:=bx (cT H) (aw (o:=.lst (bU r++[.int (0+(j:Int)),.int ((c:Int)-(0+(j:Int)))])) hy) hl5
      have hq5:=P6 _ _ P5
      have hly:l≠y:=aF hq5 hy
      have hlen:vs.length<=4*1000+61:=by
       rw[hqs,bZ,aA]
       have a1:=rK c (rows.take i)
       have a2:=dX (P4 c) (aE j)
       rw[d8]at a1
       rw[e_]at a2
       omega
      have hq6:(upd H5 y (.lst (bU r++[.int (0+(j:Int)),.int ((c:Int)-(0+(j:Int)))]))) l=some (.lst vs):=by rw[aN hly];exact hq5
      refine⟨l,_,_,rfl,rfl,hq6,(by rw[c7];omega),?_⟩
      refine⟨_,_,rfl,?_,?_,?_⟩
      ·exact jZ ((sm4.trans P6).trans (aw hy)) hl
      ·exact c8 (((t7.then jh).then P6).then (aw hy)) (by simp)
      ·have hk:P4 c j=true:=by unfold P4;rw[h1,h2];rfl
       rw[ns,eK hk,Bg,eU,<-gz]
       refine je Kn hq6 ⟨?_,(sm4.trans P6).free hy⟩
       show _=some (HO.lst (bU (r++[j,c-j])))
       rw[hide_ne (cJ hly),ao,fX]
       show some (HO.lst (bU r++[V.int (0+(j:Int)),V.int ((c:Int)-(0+(j:Int)))]))=_
       rw[es,ej];rfl
     ·exact⟨_,_,rfl,sm4,t7.then jh,skip (by unfold P4;rw[h1,h2];rfl)⟩
    ·exact⟨_,_,rfl,sm4,t7.then jh,skip (by unfold P4;rw[h1];rfl)⟩
   ·rintro σ H3 ⟨u4,u5,rfl,sm3,t7,Qj⟩
    refine⟨_,_,_,rfl,sm3,(sx.then nX).trans t7,?_⟩
    rw[EF vT,La];exact Qj
  ·rintro σ H1 ⟨v3,v4,v5,rfl,sm,sx,Kr⟩
   rw[aA,Mq,f7]at Kr
   exact⟨_,rfl,k H1 l sm hl (Kr.at (cT H))⟩
theorem rL(l:List V)(k:Nat):uU l (some (k:Int)) none=l.drop k:=by
 unfold uU
 rw[HT.yQ,HT.GA]
 by_cases h:k<=l.length
 ·rw[oR h,l7 (by rw[gG];omega)]
 ·rw[Bh oo,Bi (aV _),Bi oo];simp
theorem TH(l:List V)(k:Nat):uU l none (some (k:Int))=l.take k:=by
 unfold uU
 rw[HT.yQ,HT.GA,qW,Al]
 by_cases h:k<=l.length
 ·rw[oR h]
 ·rw[Bh oo,l7 (aV _),l7 oo]
theorem EG(l:List V)(i j:Nat):uU l (some (i:Int)) (some (j:Int))=(l.drop i).take (j-i):=by
 unfold uU
 rw[HT.yQ,HT.yQ]
 by_cases h:i<=l.length
 ·rw[oR h]
  by_cases h2:j<=l.length
  ·rw[oR h2]
  ·rw[Bh oo,l7 (by rw[gG];omega),l7 (by rw[gG];omega)]
 ·rw[Bh (show l.length<=i by omega),Bi (aV _),Bi oo];simp
theorem tO:∀(w:br)(i:Nat),(cA i w).Pairwise (·<·)
 |[],_=>.nil
 |x::w,i=>by
  unfold cA
  have ih:=tO w (i+1)
  split
  ·exact jP.mpr ⟨λb hb=>by have:=(lL w (i+1) b hb).1;omega,ih⟩
  ·exact ih
theorem Ng:∀{l:List Nat}{i a b:Nat},l[i]?=some a->l[i+1]?=some b->(mW l)[i]?=some (b-a-1)
 |[],i,a,b,h,_=>by simp at h
 |[v],i,a,b,_,h=>by simp at h
 |v::v'::r,0,a,b,h1,h2=>by simp at h1 h2;subst h1 h2;rfl
 |v::v'::r,i+1,a,b,h1,h2=>by
  simp only[oM]at h1 h2
  show(mW (v'::r))[i]?=_
  exact Ng (l:=v'::r) (i:=i) (by simpa using h1) (by simpa using h2)
theorem o4:∀l:List Nat,(mW l).length=l.length-1
 |[]=>rfl
 |[v]=>rfl
 |v::v'::r=>by
  have:=o4 (v'::r)
  show(mW (v'::r)).length+1=_
  rw[this];simp
theorem TJ{l:List Nat}(h:l≠[]):W4 (bU l) (-1)=some (.int ((l.getLastD 0:Nat):Int)):=by
 have e:l=l.dropLast++[l.getLast h]:=(List.dropLast_concat_getLast h).symm
 have e2:l.getLastD 0=l.getLast h:=by rw[TK,TM h];rfl
 rw[e2]
 conv=>lhs;rw[e,fX]
 exact Rh _ _
theorem vU(gs:List Nat):∀(R:List (List Nat))(m:Nat),(∀r∈R,r.length<=m)->(gs.foldl between R).length<=4^gs.length*R.length/\∀r∈gs.foldl between R,r.length<=m+2*gs.length:=by
 induction gs with
 |nil=>intro R m h;exact⟨by simp,by simpa using h⟩
 |cons g gs ih=>
  intro R m h
  rw[fK]
  have h1:∀r∈between R g,r.length<=m+2:=λr hr=>by
   obtain⟨r',Kd,hr⟩:=fO.mp hr
   obtain⟨b,_,rfl⟩:=aM.mp hr
   have:=h r' Kd
   simp;omega
  obtain⟨i1,i2⟩:=ih (between R g) (m+2) h1
  have h2:=rK g R
  refine⟨bV i1 ?_,λr hr=>by have:=i2 r hr;simp only[aS];omega⟩
  rw[aS,eO,eZ]
  exact TN _ h2
theorem aeK{w:br}{v:Nat}(h:(vp w)[i]?=some v):v<w.length:=by
 have:=(lL w 0 v (cC h)).2;omega
theorem bR{w:br}(h:dn w=true):w.length<=10/\1<=bc w/\bc w<=5:=by
 rw[sU]at h
 simp only[eJ,bN]at h
 exact⟨h.1,h.2.2.1,h.2.2.2⟩
def TQ:Sp:=λvs H Q _=>∃(a:aa)(w:br),vs=[.ref a]/\fE H a w/\dn w=true/\yX H Q (dk w)
theorem CP:a0 ["sounds","vowels","first","last","rows","vowel","following","row"] ["sounds"] (aB (top 20)):={}
theorem abD(F:il K "syllable_rows" "syllable_rows" (top 20) f fd)(T:lB K mg)(Gv:Fn P w K mg base "vowel_places" ["sounds"] 1 vS)(Gb:Fn P w K mg base "parted_between" ["rows","consonants"] 1 xu):
  cz P w K mg base hC 2 f fd ["sounds"] TQ:=by
 refine F.ok CP (λfF A outer s H vs Q E hr h=>?_)
 ·obtain⟨a,w,rfl,hw,hok,k⟩:=h
  obtain⟨hlen,lK,lH⟩:=bR hok
  obtain⟨v0,vr,hvp⟩:∃v0 vr,vp w=v0::vr:=by
   cases e:vp w with
   |nil=>have:=cY w 0;rw[show cA 0 w=[]from e]at this;simp at this;omega
   |cons v vr=>exact⟨v,vr,rfl⟩
  have Qa:vr.length+1<=5:=by have:=cY w 0;rw[show cA 0 w=v0::vr from hvp,aS]at this;omega
  refine⟨_,ak (cH 1 CP.nd (c9 Gv hr rfl (ae (pv 0) ai)))<|ak (cH 2 CP.nd (iP fJ (pv 1) bo (λ_ _=>rfl)))<|ak (lx (i:=3) CP.nd rfl (fN rfl) (b7 jG (b7 jG (bw aZ rfl T.len cP (ae (pv 0) ai)) bo) (iP fJ (pv 1) (ad' aa0 bo) (λ_ _=>rfl))))<|ak (eG (K9 (bK x5 (pv 2) (eC T.j5 rfl) (bW _)) (bK x5 (pv 3) (eC T.j5 rfl) (bW _))) (aD (aX (bP ai))) cf)<|ak (cH 4 CP.nd (bP (ae (bP (ae (pv 2) ai)) ai)))<|ak (fW ee rfl (Ai rfl T.zip (ae (pv 1) (ae (i6 kx (pv 1) (gy bo) nh) ai)))
     (fV rfl (bu (cZ 5 CP.nd) (bu (cZ 6 CP.nd) eI)))
     (aD (cH 4 CP.nd (c9 Gb hr rfl (ae (pv 4) (ae (b7 jG (b7 jG (pv 6) (pv 5)) bo) ai))))))<|aD (aX (gh (own:=[("row",7)]) (g:=cy 7) (tt:=oE) (te:=qk KA (cE 7) (Ky (fk (cE 3) f6)))
      rfl CP.nd (cB (pv 4)) (b_ (by show i8 ["sounds","vowels","first","last","rows","vowel","following","row"] (aB (top 20)) _ _=true;decide+kernel))
      (λs H C cl fp=>cZ 7 CP.nd)
      (λs H C cl fp=>fB)
      (λs H C cl fp=>b7 lz (pv 7) (bP (ae (pv 3) ai))))),?_⟩
  obtain⟨ps,ha,hp⟩:=id hw
  have Mq:ps.length=w.length:=bF hp
  refine⟨_,rfl,a,w,rfl,hw,by omega,λH1 pv1 sm1 _ hv=>?_⟩
  rw[hvp]at hv
  refine⟨_,rfl,pv1,_,_,_,rfl,rfl,a_.of hv,MG (j:=0) (v:=.int (v0:Int)) rfl,?_⟩
  have ha1:=sm1 _ _ ha
  refine⟨_,rfl,a,_,rfl,.inl (a_.of ha1),_,_,rfl,rfl,_,rfl,_,rfl,pv1,_,_,_,rfl,rfl,a_.of hv,TJ (by simp),_,_,rfl,rfl,?_⟩
  have aay:(v0::vr).getLastD 0<w.length:=by
   have:(v0::vr).getLastD 0∈vp w:=by
    rw[hvp,TK,TM (by simp)];exact List.getLast_mem _
   have:=(lL w 0 _ this).2;omega
  have Ir:((ps.map V.ref).length:Int)-1-(((v0::vr).getLastD 0:Nat):Int)=((w.length-1-(v0::vr).getLastD 0:Nat):Int):=by
   rw[aA,Mq];omega
  generalize hL:(v0::vr).getLastD 0=L at*
  have esl:=pC hvp
  rw[hL]at esl
  refine⟨_,rfl,_,_,rfl,rfl,_,rfl,?_⟩
  refine kg (b:=decide (3<v0)) (by rw[dN];omega) (λh1=>?_) (λh1=>?_)
  ·rw[bN]at h1
   rw[aq (by rintro⟨h,_⟩;have:v0<=3:=h;omega)]at esl
   refine⟨bI _,λp hp=>k _ p (sm1.trans (aw hp)) (sm1.free hp) ?_⟩
   rw[esl];exact⟨[],ao,.nil⟩
  rw[fz]at h1
  refine⟨_,rfl,_,_,rfl,rfl,_,rfl,?_⟩
  refine kg (b:=decide (3<w.length-1-L)) (by rw[dN];show(3:Int)<((ps.map V.ref).length:Int)-1-(L:Int)↔_;rw[Ir];omega) (λh2=>?_) (λh2=>?_)
  ·rw[bN]at h2
   rw[aq (by rintro⟨_,h⟩;have:w.length-1-L<=3:=h;omega)]at esl
   refine⟨bI _,λp hp=>k _ p (sm1.trans (aw hp)) (sm1.free hp) ?_⟩
   rw[esl];exact⟨[],ao,.nil⟩
  rw[fz]at h2
  rw[ax (show v0<=Bj/\w.length-1-L<=Bj from⟨by show v0<=3;omega,by show w.length-1-L<=3;omega⟩)]at esl
  refine⟨_,rfl,(by show 1<=az;decide),λq0 hq0=>⟨(by show 1<=az;decide),λq1 Mo=>?_⟩⟩
  generalize w8:upd H1 q0 (.lst [.int (v0:Int)])=H2 at*
  have nX:aP H1 H2:=by rw[<-w8];exact aw hq0
  have ait:H2 q0=some (.lst (bU [v0])):=by rw[<-w8];exact ao
  generalize Ab:upd H2 q1 (.lst [.ref q0])=H3 at*
  have W6:aP H2 H3:=by rw[<-Ab];exact aw Mo
  have hR3:j0 H3 q1 [[v0]]:=⟨[q0],by rw[<-Ab];exact ao,.cons (W6 _ _ ait) .nil⟩
  have hv3:=W6 _ _ (nX _ _ hv)
  refine⟨_,rfl,_,rfl,_,rfl,pv1,_,rfl,a_.of hv3,λt ht=>?_⟩
  have aiv:uU (bU (v0::vr)) (some 1) none=bU vr:=rL (bU (v0::vr)) 1
  rw[aiv]
  generalize TR:upd H3 t (.lst (bU vr))=H4 at*
  have jh:aP H3 H4:=by rw[<-TR];exact aw ht
  have hv4:=jh _ _ hv3
  have ht4:H4 t=some (.lst (bU vr)):=by rw[<-TR];exact ao
  refine⟨pv1,t,_,_,rfl,a_.of hv4,a_.of ht4,?_⟩
  refine fY (ex:=[]) (aby (a_.of hv4) (by simp) (a_.of ht4) (by simp) (m:=vr.length) (by rw[aR,aR,aS];omega))
   (λi σ H'=>∃(R:aa)(v5 v6:Option V),σ=[some (.ref a),some (.ref pv1),some (.int (v0:Int)),some (.int (((ps.map V.ref).length:Int)-1-(L:Int))),some (.ref R),v5,v6,none]/\Sx [] H4 H'/\j0 H' R (((mW (v0::vr)).take i).foldl between [[v0]]))
   ⟨q1,none,none,rfl,.refl,aW ck _ _ _ _ jh hR3⟩ (λi σ H'⟨_,_,_,_,q,_⟩=>q) ?_ ?_
  ·rintro i x σ H5 H6 hi ⟨R,v5,v6,rfl,sx,hR⟩ EH ⟨T',y,z,rfl,hT,hy,hz⟩
   obtain⟨n1,rfl,hn1⟩:=c6 hy
   obtain⟨n2,rfl,hn2⟩:=c6 hz
   refine⟨T',_,rfl,lu.of hT,rfl,_,_,rfl,_,_,rfl,rfl,?_⟩
   have ac8:(v0::vr)[i+1]?=some n2:=by simpa using hn2
   have hg:=Ng hn1 ac8
   have hlt:n1<n2:=by
    have hs:=tO w 0
    rw[show cA 0 w=v0::vr from hvp]at hs
    obtain⟨l1,e1⟩:=gx.mp hn1
    obtain⟨l2,e2⟩:=gx.mp ac8
    have:=AW.mp hs i (i+1) l1 l2 oo
    rw[e1,e2]at this;exact this
   have anQ:n2<w.length:=aeK (w:=w) (i:=i+1) (by rw[hvp];exact ac8)
   have hb:=vU ((mW (v0::vr)).take i) [[v0]] 1 (by simp)
   have hgl:((mW (v0::vr)).take i).length<=4:=by rw[d8,o4,aS];omega
   have DK:4^((mW (v0::vr)).take i).length<=4^4:=jX dd hgl
   refine⟨_,rfl,_,rfl,_,rfl,_,_,rfl,rfl,_,_,rfl,rfl,R,_,n2-n1-1,?_,aW ck _ _ _ _ EH hR,?_,λr hr=>?_,by omega,λH7 p7 Bk _ hp7=>?_⟩
   ·show[V.ref R,V.int ((n2:Int)-(n1:Int)-1)]=_
    rw[show(n2:Int)-(n1:Int)-1=((n2-n1-1:Nat):Int) by omega]
   ·have:=hb.1;simp only[jL,iA]at this;omega
   ·have:=hb.2 r hr;omega
   ·refine⟨p7,_,_,rfl,(sx.then EH).then Bk,?_⟩
    rw[cD hg,Iu]
    exact Nf hp7
  ·rintro σ H5 ⟨R,v5,v6,rfl,sx,hR⟩
   have egl:(mW (v0::vr)).take vr.length=mW (v0::vr):=l7 (by rw[o4,aS];omega)
   rw[egl]at hR
   obtain⟨rs,hRr,hRp⟩:=id hR
   have s15:aP H H5:=(((sm1.trans nX).trans W6).trans jh).trans (gZ sx)
   refine⟨_,rfl,R,rfl,⟨_,a_.of hRr⟩,λD hD=>?_⟩
   have Z8:R≠D:=aF hRr hD
   have hb:=vU (mW (v0::vr)) [[v0]] 1 (by simp)
   have hgl:(mW (v0::vr)).length<=4:=by rw[o4,aS];omega
   have DK:4^(mW (v0::vr)).length<=4^4:=jX dd hgl
   have hb1:=hb.1
   simp only[jL,iA]at hb1
   generalize alO:(mW (v0::vr)).foldl between [[v0]]=Rows at*
   have hlr:rs.length=Rows.length:=bF hRp
   refine Io (ex:=[D]) (vP (a_.of (by rw[aN Z8];exact hRr)) (by simp only[bA];exact Z8))
    (λi H'=>aP H5 H'/\Sx [D] (upd H5 D (.lst [])) H'/\g_ (ju H) H' D ((Rows.take i).map (·++[w.length-1-L]))) ⟨aw hD,.refl,gm ao⟩ (λi H' q=>q.2.1) ?_ ?_
   ·rintro i x H6 H7 hi ⟨sm6,Iv,Kn⟩ Bk hx
    obtain⟨p,rfl,yt⟩:=fD hx
    obtain⟨r,vT,kf⟩:=cN hRp yt
    have sm7:=sm6.trans Bk
    have hr7:H7 p=some (.lst (bU r)):=sm7 _ _ kf
    refine⟨rfl,_,rfl,_,rfl,(by show 1<=az;decide),λt2 uz=>?_⟩
    refine⟨p,t2,_,_,rfl,rfl,by rw[aN (aF hr7 uz)];exact hr7,ao,(by have:=hb.2 r (cC vT);rw[aR,c7];simp only[jL];omega),λy hy=>?_⟩
    have Z9:=bx (cT H) Bk Kn
    have Z':=bx (cT H) (aw (o:=.lst [.int (((ps.map V.ref).length:Int)-1-(L:Int))]) uz) Z9
    have hl9:=bx (cT H) (aw (o:=.lst (bU r++[.int (((ps.map V.ref).length:Int)-1-(L:Int))])) hy) Z'
    obtain⟨vs,WQ,TU⟩:=hl9.lst
    have hDy:D≠y:=by
     obtain⟨vs8,h8,_⟩:=Z'.lst
     exact aF h8 hy
    refine⟨vs,WQ,?_,?_,?_,?_⟩
    ·rw[TU,aA,d8,c7];omega
    ·exact jZ ((sm7.trans (aw uz)).trans (aw hy)) hD
    ·exact c8 (((Iv.then Bk).then (aw uz)).then (aw hy)) (by simp)
    ·rw[cD vT,eU]
     refine je hl9 WQ ⟨?_,((s15.trans sm7).trans (aw uz)).free hy⟩
     show _=some (HO.lst (bU (r++[w.length-1-L])))
     rw[hide_ne (cJ hDy),ao,fX,Ir];rfl
   ·rintro H6 ⟨sm6,Iv,Kn⟩
    rw[aA,hlr,f7,<-esl]at Kn
    exact k H6 D (s15.trans sm6) (s15.free hD) (Kn.at (cT H))
theorem yY{slot:Nat}{tcs:TA}{vs:List Nat}{σ:L2.St}{rs:List aa}(cs:List Nat)(hR:H1 a=some (.lst (rs.map V.ref)))(hRp:Paired (fe H1) rs rows)(hD:H1 D=none)(hb:rows.length<=5000)(sI:∀r∈rows,r.length<=1000)(hcs:cs.length<=10)(htc:∀σ H Q,Q (bU cs) H->tcs σ H Q)(hw:∀x,wipe ((wipe σ vs).set slot (some x)) vs=wipe σ vs)(hv:∀x,((wipe σ vs).set slot (some x))[slot]?=some (some x))(hd:∀H,aP H1 H->ql (ju H1) H D (rows.map (·++cs))->Qd H):
  ∃W:Nat->Nat->Hp->Prop,(∃m,W 0 m (upd H1 D (.lst [])))/\∀i m H,W i m H->((Itl K a).stop i H/\Qd H)\/((Itl K a).go i H/\∃Nx:Hp->Prop,(∀H',Nx H'->∃m',m'<m/\W (i+1) m' H')/\∀x H',(Itl K a).yP i H x H'->cy slot x (wipe σ vs) H' λkH H2=>wipe kH vs=wipe σ vs/\oE kH H2 λb H3=>
    if b=true then qk KA (cE slot) (Ky tcs) kH H3 λy H4=>∃acc,H4 D=some (.lst acc)/\acc.length<az/\Nx (upd H4 D (.lst (acc++[y])))else Nx H3):=by
 have Z8:a≠D:=aF hR hD
 have hlr:rs.length=rows.length:=bF hRp
 refine Io (ex:=[D]) (vP (a_.of (by rw[aN Z8];exact hR)) (by simp only[bA];exact Z8))
  (λi H'=>aP H1 H'/\Sx [D] (upd H1 D (.lst [])) H'/\g_ (ju H1) H' D ((rows.take i).map (·++cs))) ⟨aw hD,.refl,gm ao⟩ (λi H' q=>q.2.1) ?_ ?_
 ·rintro i x H6 H7 hi ⟨sm6,Iv,Kn⟩ Bk hx
  obtain⟨p,rfl,yt⟩:=fD hx
  obtain⟨r,vT,kf⟩:=cN hRp yt
  have sm7:=sm6.trans Bk
  have hr7:H7 p=some (.lst (bU r)):=sm7 _ _ kf
  refine⟨hw _,_,hv _,htc _ _ _ ⟨(by rw[aR,c7];omega),λt2 uz=>?_⟩⟩
  refine⟨p,t2,_,_,rfl,rfl,by rw[aN (aF hr7 uz)];exact hr7,ao,(by have:=sI r (cC vT);rw[aR,aR,c7];omega),λy hy=>?_⟩
  have Z9:=bx (cT H1) Bk Kn
  have Z':=bx (cT H1) (aw (o:=.lst (bU cs)) uz) Z9
  have hl9:=bx (cT H1) (aw (o:=.lst (bU r++bU cs)) hy) Z'
  obtain⟨vs',WQ,TU⟩:=hl9.lst
  have hDy:D≠y:=by
   obtain⟨vs8,h8,_⟩:=Z'.lst
   exact aF h8 hy
  refine⟨vs',WQ,?_,?_,?_,?_⟩
  ·rw[TU,aA,d8,c7];omega
  ·exact jZ ((sm7.trans (aw uz)).trans (aw hy)) hD
  ·exact c8 (((Iv.then Bk).then (aw uz)).then (aw hy)) (by simp)
  ·rw[cD vT,eU]
   refine je hl9 WQ ⟨?_,(sm7.trans (aw uz)).free hy⟩
   show _=some (HO.lst (bU (r++cs)))
   rw[hide_ne (cJ hDy),ao,fX]
 ·rintro H6 ⟨sm6,Iv,Kn⟩
  rw[aA,hlr,f7]at Kn
  exact hd H6 sm6 (Kn.at (cT H1))
def Iw(s r:List (List Nat)):List (List Nat):=r.map (·++[0])++(r.map (·++[1])++(s.map (·++[2,3])++s.map (·++[4,5])))
def ft:Nat->List (List Nat)×List (List Nat)
 |0=>([],[[]])
 |i+1=>((ft i).2,Iw (ft i).1 (ft i).2)
theorem DL:∀(k i:Nat),El k (ft i).1 (ft i).2=(ft (i+k)).2
 |0,i=>rfl
 |k+1,i=>by
  show El k (ft i).2 (Iw (ft i).1 (ft i).2)=_
  have:=DL k (i+1)
  rw[show i+(k+1)=i+1+k by omega,<-this];rfl
theorem yl(n:Nat):dC n=(ft n).2:=by
 have:=DL n 0
 rw[dE]at this;exact this
theorem Iy:∀n,n<=5->((ft n).1.length<=300/\(ft n).2.length<=300)/\((ft n).1.all λr=>decide (r.length<=10))=true/\((ft n).2.all λr=>decide (r.length<=10))=true:=by
 intro n hn
 have:n=0\/n=1\/n=2\/n=3\/n=4\/n=5:=by omega
 rcases this with rfl|rfl|rfl|rfl|rfl|rfl<;>decide+kernel
def t8:Sp:=λvs H Q _=>∃n:Nat,vs=[.int (n:Int)]/\n<=5/\yX H Q (dC n)
theorem t9:a0 ["syllables","shorter","rows","length","longer","row"] ["syllables"] (aB (top 21)):={}
theorem Iz(F:il K "footings" "footings" (top 21) f fd)(T:lB K mg):cz P w K mg base hC 1 f fd ["syllables"] t8:=by
 refine F.ok t9 (λfF A outer s H vs Q E hr h=>?_)
 ·obtain⟨n,rfl,hn,k⟩:=h
  have bk:∀{sc},i8 ["syllables","shorter","rows","length","longer","row"] (aB (top 21)) sc [("row",5)]=true->x_ ["syllables","shorter","rows","length","longer","row"] (aB (top 21)) sc [("row",5)]:=λh=>b_ h
  refine⟨_,ak (cH 1 t9.nd (bP ai))<|ak (cH 2 t9.nd (bP (ae (bP ai) ai)))<|ak (fW ee rfl (om rfl T.range (ae (pv 0) ai)) (cZ 3 t9.nd)<|ak (cH 4 t9.nd (bP ai))<|ak (eQ (gc dq kz lg jr (pv 4) (ae
     (gh (own:=[("row",5)]) (g:=cy 5) (tt:=oE) (te:=qk KA (cE 5) (Ky (fk (tC (.int 0)) f6))) rfl t9.nd (cB (pv 2)) (bk (by decide+kernel)) (λs H C cl fp=>cZ 5 t9.nd) (λs H C cl fp=>fB)
      (λs H C cl fp=>b7 lz (pv 5) (bP (ae (eC T.Ip rfl) ai)))) ai)))<|ak (eQ (gc dq kz lg jr (pv 4) (ae
     (gh (own:=[("row",5)]) (g:=cy 5) (tt:=oE) (te:=qk KA (cE 5) (Ky (fk (tC (.int 1)) f6))) rfl t9.nd (cB (pv 2)) (bk (by decide+kernel)) (λs H C cl fp=>cZ 5 t9.nd) (λs H C cl fp=>fB)
      (λs H C cl fp=>b7 lz (pv 5) (bP (ae (eC T.DJ rfl) ai)))) ai)))<|ak (eQ (gc dq kz lg jr (pv 4) (ae
     (gh (own:=[("row",5)]) (g:=cy 5) (tt:=oE) (te:=qk KA (cE 5) (Ky (fk (tC (.int 2)) (fk (tC (.int 3)) f6)))) rfl t9.nd (cB (pv 1)) (bk (by decide+kernel)) (λs H C cl fp=>cZ 5 t9.nd) (λs H C cl fp=>fB)
      (λs H C cl fp=>b7 lz (pv 5) (bP (ae (eC T.xt rfl) (ae (eC T.K6 rfl) ai))))) ai)))<|ak (eQ (gc dq kz lg jr (pv 4) (ae
     (gh (own:=[("row",5)]) (g:=cy 5) (tt:=oE) (te:=qk KA (cE 5) (Ky (fk (tC (.int 4)) (fk (tC (.int 5)) f6)))) rfl t9.nd (cB (pv 1)) (bk (by decide+kernel)) (λs H C cl fp=>cZ 5 t9.nd) (λs H C cl fp=>fB)
      (λs H C cl fp=>b7 lz (pv 5) (bP (ae (eC T.OL rfl) (ae (eC T.t6 rfl) ai))))) ai)))<|ak (cH 1 t9.nd (pv 2))<|aD (cH 2 t9.nd (pv 4)))<|aD (aX (pv 2)),?_⟩
  refine⟨bI _,λl0 ZK=>?_⟩
  generalize hJ:upd H l0 (.lst [])=H1 at*
  have PZ:aP H H1:=by rw[<-hJ];exact aw ZK
  have WL:ql (ju H) H1 l0 []:=⟨[],by rw[<-hJ];exact ao,.nil⟩
  refine⟨bI _,λl1 Kr=>⟨(by show 1<=az;decide),λl2 P_=>?_⟩⟩
  generalize w8:upd H1 l1 (.lst [])=H2 at*
  have nX:aP H1 H2:=by rw[<-w8];exact aw Kr
  have hE2:H2 l1=some (.lst (bU [])):=by rw[<-w8];exact ao
  generalize Ab:upd H2 l2 (.lst [.ref l1])=H3 at*
  have W6:aP H2 H3:=by rw[<-Ab];exact aw P_
  have hR3:ql (ju H) H3 l2 [[]]:=⟨[l1],by rw[<-Ab];exact ao,.cons ⟨W6 _ _ hE2,PZ.free Kr⟩ .nil⟩
  refine⟨_,rfl,(n:Int),rfl,by omega,by omega,?_⟩
  rw[show(n:Int).toNat=n by omega]
  refine fY (ex:=[]) rG
   (λi σ H'=>∃(a b:aa)(v3 v4:Option V),σ=[some (.int (n:Int)),some (.ref a),some (.ref b),v3,v4,none]/\Sx [] H3 H'/\ql (ju H) H' a (ft i).1/\ql (ju H) H' b (ft i).2/\H b=none)
   ⟨l0,l2,none,none,rfl,.refl,aW (cT H) _ _ _ _ (nX.trans W6) WL,hR3,(PZ.trans nX).free P_⟩ (λi σ H'⟨_,_,_,_,_,q,_⟩=>q) ?_ ?_
  ·rintro i x σ H5 H6 hi ⟨a,b,v3,v4,rfl,sx,hA,hB,hb0⟩ EH rfl
   have hA6:=aW (cT H) _ _ _ _ EH hA
   have hB6:=aW (cT H) _ _ _ _ EH hB
   obtain⟨⟨z1,z2⟩,z3,z4⟩:=Iy i oo
   have z3':∀r∈(ft i).1,r.length<=10:=λr hr=>by simpa using c_.mp z3 r hr
   have z4':∀r∈(ft i).2,r.length<=10:=λr hr=>by simpa using c_.mp z4 r hr
   refine⟨bI _,λl hl=>?_⟩
   generalize IA:upd H6 l (.lst [])=H7 at*
   have Bk:aP H6 H7:=by rw[<-IA];exact aw hl
   have hO7:g_ (ju H) H7 l []:=gm (by rw[<-IA];exact ao)
   have Z9:H7 l=some (.lst []):=by rw[<-IA];exact ao
   have sH6:aP H H6:=(((PZ.trans nX).trans W6).trans (gZ sx)).trans EH
   have ext:∀{H8 H9:Hp}{xs zs:List (List Nat)}{D:aa},aP H6 H8->g_ (ju H) H8 l xs->aP H8 H9->ql (ju H8) H9 D zs->xs.length+zs.length<=2000->∀(Q:VK),(∀Kj,aP H6 Kj->g_ (ju H) Kj l (xs++zs)->Q .non Kj)->MH (.ref l) [.ref D] H9 Q:=λ{H8 H9 xs zs D}s68 on W7 hz hlen Q kk=>by
    obtain⟨zps,hz1,hz2⟩:=id hz
    have on9:=bx (cT H) W7 on
    obtain⟨vs,WQ,Qa⟩:=on9.lst
    obtain⟨vs8,h8,_⟩:=on.lst
    refine⟨l,D,vs,_,rfl,rfl,WQ,hz1,(by rw[Qa,aA,bF hz2,c7];omega),kk _ (jZ (s68.trans W7) hl) (Bd on9 WQ (Paired.uD hz2 λp r q=>?_))⟩
    refine⟨?_,(sH6.trans s68).free q.2⟩
    show hide H9 l p=_
    rw[hide_ne (cJ (aF h8 q.2))];exact q.1
   have tc1:∀(c:Int)(n:Nat),c=(n:Int)->∀(σ:L2.St)(H:Hp)(Q:List V->Hp->Prop),Q (bU [n]) H->fk (tC (.int c)) f6 σ H Q:=λc n e σ H Q q=>by subst e;exact q
   have tc2:∀(c d:Int)(n m:Nat),c=(n:Int)->d=(m:Int)->∀(σ:L2.St)(H:Hp)(Q:List V->Hp->Prop),Q (bU [n,m]) H->fk (tC (.int c)) (fk (tC (.int d)) f6) σ H Q:=λc d n m e e' σ H Q q=>by subst e;subst e';exact q
   obtain⟨as,hA1,hA2⟩:=id hA6
   obtain⟨bs,hB1,hB2⟩:=id hB6
   have at_:∀{H8:Hp},aP H6 H8->H8 a=some (.lst (as.map V.ref))/\Paired (fe H8) as (ft i).1:=λs=>⟨s _ _ hA1,Paired.uD hA2 λ_ _ q=>s _ _ q.1⟩
   have bt_:∀{H8:Hp},aP H6 H8->H8 b=some (.lst (bs.map V.ref))/\Paired (fe H8) bs (ft i).2:=λs=>⟨s _ _ hB1,Paired.uD hB2 λ_ _ q=>s _ _ q.1⟩
   have r4:∀r∈(ft i).2,r.length<=1000:=λr hr=>by have:=z4' r hr;omega
   have r3:∀r∈(ft i).1,r.length<=1000:=λr hr=>by have:=z3' r hr;omega
   refine⟨_,rfl,.inl ⟨rfl,_,a_.of Z9⟩,_,rfl,b,rfl,⟨_,a_.of (bt_ Bk).1⟩,λD hD=>yY [0] (bt_ Bk).1 (bt_ Bk).2 hD oo r4 dd (tc1 0 0 rfl) (λ_=>rfl) (λ_=>rfl) λH8 Yd hD8=>?_⟩
   dsimp only[f6]
   refine ext Bk hO7 Yd hD8 (by simp;omega) _ λH9 s69 on9=>?_
   obtain⟨vs9,hv9,_⟩:=on9.lst
   refine⟨_,rfl,.inl ⟨rfl,_,a_.of hv9⟩,_,rfl,b,rfl,⟨_,a_.of (bt_ s69).1⟩,λD hD=>yY [1] (bt_ s69).1 (bt_ s69).2 hD oo r4 dd (tc1 1 1 rfl) (λ_=>rfl) (λ_=>rfl) λKj Ye RJ=>?_⟩
   dsimp only[f6]
   refine ext s69 on9 Ye RJ (by simp;omega) _ λH11 Yf TV=>?_
   obtain⟨an1,aiB,_⟩:=TV.lst
   refine⟨_,rfl,.inl ⟨rfl,_,a_.of aiB⟩,_,rfl,a,rfl,⟨_,a_.of (at_ Yf).1⟩,λD hD=>yY [2,3] (at_ Yf).1 (at_ Yf).2 hD oo r3 dd (tc2 2 3 2 3 rfl rfl) (λ_=>rfl) (λ_=>rfl) λH12 aeP aiC=>?_⟩
   dsimp only[f6]
   refine ext Yf TV aeP aiC (by simp;omega) _ λH13 Yg aeQ=>?_
   obtain⟨an2,aiD,_⟩:=aeQ.lst
   refine⟨_,rfl,.inl ⟨rfl,_,a_.of aiD⟩,_,rfl,a,rfl,⟨_,a_.of (at_ Yg).1⟩,λD hD=>yY [4,5] (at_ Yg).1 (at_ Yg).2 hD oo r3 dd (tc2 4 5 4 5 rfl rfl) (λ_=>rfl) (λ_=>rfl) λH14 aeR aiE=>?_⟩
   dsimp only[f6]
   refine ext Yg aeQ aeR aiE (by simp;omega) _ λH15 aeS aiF=>?_
   refine⟨_,rfl,_,rfl,b,l,_,_,rfl,(sx.then EH).then aeS,aW (cT H) _ _ _ _ aeS hB6,?_,sH6.free hl⟩
   have:=aiF.at (cT H)
   simp only[jM,gz]at this
   exact this
  ·rintro σ H5 ⟨a,b,v3,v4,rfl,sx,hA,hB,hb0⟩
   rw[yl]at k
   exact⟨_,rfl,k H5 b (((PZ.trans nX).trans W6).trans (gZ sx)) hb0 hB⟩
def vV(H:Hp)(p:aa)(x:Nat×Nat):Prop:=H p=some (.tup [.int (x.1:Int),.int (x.2:Int)])
theorem dJ:Keeps vV:=λ_ _ _ _ s h=>s _ _ h
abbrev o5:Hp->aa->List (Nat×Nat)->Prop:=ql vV
def OP:List V->Hp->VK->Prop:=λvs H Q=>∃(a:aa)(qs:List aa)(rows:List (List Nat)),vs=[.ref a]/\H a=some (.lst (qs.map V.ref))/\Paired (fe H) qs rows/\rows.length<=5000/\(∀r∈rows,r.length<=100)/\∀(p:aa)(ps:List aa)(IB:List (List Nat)),H p=none->ps.Perm qs->Paired (fe H) ps IB->IB.Perm rows->IB.Pairwise (λa b=>HT.lexLt (m8 b) (m8 a)=false)->Q (.ref p) (upd H p (.lst (ps.map V.ref)))
def Yh(K:aL):R2:=λx y H Q=>∃(p a:aa)(r:List Nat)(rows:List (List Nat)),x=.ref p/\y=.ref a/\a_ K H p (bU r)/\j0 H a rows/\Q (.bl (rows.contains r)) H
def Ld(K:aL):V->List V->Hp->VK->Prop:=λx xs H Q=>∃(p a:aa)(r:List Nat)(rows:List (List Nat)),x=.ref a/\xs=[.ref p]/\a_ K H p (bU r)/\j0 H a rows/\r∈rows/\Q (.int (rows.idxOf r:Nat)) H
def abJ(K:aL):V->List V->Hp->VK->Prop:=λx xs H Q=>∃(a:aa)(r:List Nat)(c:Nat),x=.ref a/\xs=[.int (c:Int)]/\a_ K H a (bU r)/\Q (.int (r.count c:Nat)) H
def abK(K:aL)(lo:Nat)(te:TE):TE:=λσ H Q=>te σ H λx H1=>∃(a:aa)(r:List Nat),x=.ref a/\a_ K H1 a (bU r)/\∀p,H1 p=none->Q (.ref p) (upd H1 p (.lst (bU (p8 (r.drop lo)))))
def aeT(K:aL)(c:Int)(te:TE):TE:=λσ H Q=>te σ H λx H1=>∃(a:aa)(r:List Nat),x=.ref a/\a_ K H1 a (bU r)/\(r=[]->Q (.int c) H1)/\∀m,m∈r->(∀y∈r,m<=y)->Q (.int (m:Int)) H1
def TX(K:aL)(te:TE):TE:=λσ H Q=>te σ H λx H1=>∃(a:aa)(xs:List V),x=.ref a/\a_ K H1 a xs/\∀p,H1 p=none->Q (.ref p) (upd H1 p (.lst xs.reverse))
def Bl(x:Nat):Prop:=∃bs:List Bool,bs.length<=16/\x=mZ bs
def OQ(te:TE):TE:=λσ H Q=>te σ H λx H1=>∃(a:aa)(r:List (Nat×Nat)),x=.ref a/\o5 H1 a r/\r.length<=80000/\(∀x∈r,Bl x.1/\Bl x.2)/\∀(p:aa)(ps:List aa)(r':List (Nat×Nat)),H1 p=none->Paired (vV H1) ps r'->(∀x,x∈r'↔x∈r)->r'.length<=r.length->Q (.ref p) (upd H1 p (.lst (ps.map V.ref)))
def Yi(K:aL)(te:TE):TE:=λσ H Q=>te σ H λx H1=>∃(a:aa)(r:List Nat),x=.ref a/\a_ K H1 a (bU r)/\r.length<=60/\Q (.int (r.eraseDups.length:Nat)) H1
theorem xw:∀{qs:List aa}{us:List af},Vals (qs.map V.ref) us->us=qs.map aK
 |[],_,h=>by cases h;rfl
 |q::qs,_,h=>by
  cases h with
  |cons r t=>
   have e1:=xw t
   have e2:_=aK q:=r
   rw[e1,e2];rfl
theorem Nh:∀{a b:List Nat},bU a=bU b->a=b
 |[],[],_=>rfl
 |[],_::_,h=>by simp at h
 |_::_,[],h=>by simp at h
 |x::a,y::b,h=>by
  simp only[bU,bb,oP]at h
  have e:x=y:=by have:=V.int.inj h.1;omega
  rw[e,Nh h.2]
abbrev Yj(r:List Nat):ig:=.list (r.map λ(n:Nat)=>rM (n:Int))
theorem IC:∀(a b:List Nat),TY (a.map λ(n:Nat)=>rM (n:Int)) (b.map λ(n:Nat)=>rM (n:Int))=(a==b)
 |[],[]=>rfl
 |[],_::_=>rfl
 |_::_,[]=>rfl
 |x::a,y::b=>by
  have ih:=IC a b
  simp only[bb,TY,ih]
  have e:ig.eqv (.int (x:Int)) (.int (y:Int))=(x==y):=by
   show decide ((x:Int)=(y:Int))=_
   rw[cV,bN,bX];omega
  rw[e];rfl
section
variable{σ:L2.St}
theorem t_(K:aL)(H:Hp):∀r:List Nat,z7 K H (bU r) (r.map λ(n:Nat)=>rM (n:Int))
 |[]=>.nil
 |n::r=>.cons (.int _) (t_ K H r)
theorem lay_ints:∀r:List Nat,TZ (r.map λ(n:Nat)=>rM (n:Int))=true/\Bm (r.map λ(n:Nat)=>rM (n:Int))=0
 |[]=>⟨rfl,rfl⟩
 |n::r=>by
  obtain⟨h1,h2⟩:=lay_ints r
  exact⟨by simp[TZ,ig.canLay0,h1],by simp[Bm,ig.depth,h2]⟩
theorem ID(hu:A.units+1<cp)(I:Inv X pins σ H s){p q:aa}{a b:List Nat}(hp:a_ X.K H p (bU a))(hq:a_ X.K H q (bU b)):eX A s (.ref p) (.ref q) (a==b):=by
 obtain⟨as,r1⟩:=Dp.reads I (Yj a) (.ref p) (.ref p) (.lst hp (t_ _ _ a)) rfl
 obtain⟨bs,r2⟩:=Dp.reads I (Yj b) (.ref q) (.ref q) (.lst hq (t_ _ _ b)) rfl
 have:=SeqAt.eqAt_reads (Yj a) (Yj b) A s _ _ _ _ r1 r2 (lay_ints a).1 (lay_ints b).1 (by
  show A.units+min (Bm _+1) (Bm _+1)<cp
  rw[(lay_ints a).2,(lay_ints b).2];exact hu)
 rw[<-IC];exact this
end
theorem Bn{α β:Type}{G:α->β->Prop}:∀{kh:List α}{l₂:List β}{i:Nat}{b:β},Paired G kh l₂->l₂[i]?=some b->∃a,kh[i]?=some a/\G a b
 |_,_,i,b,.nil,h=>by simp at h
 |_,_,0,b,.cons r t,h=>by simp at h;subst h;exact⟨_,rfl,r⟩
 |_,_,i+1,b,.cons r t,h=>by
  obtain⟨a,h1,h2⟩:=Bn (i:=i) t (by simpa using h)
  exact⟨a,by simpa using h1,h2⟩
open Classical in
noncomputable def Bo(H:Hp)(r:List Nat)(v:af):Bool:=decide (∃q,v=.ref q/\fe H q r)
open Classical in
theorem o6{a:List Nat}{q:aa}(h:fe H q a):Bo H r (.ref q)=(a==r):=by
 unfold Bo
 rw[cV,bN,bX]
 constructor
 ·rintro⟨q',e,h'⟩
  injection e with e
  subst e
  rw[fe,h]at h'
  exact Nh (by injection h' with h';injection h')
 ·rintro rfl;exact⟨q,rfl,h⟩
theorem any_rows{H:Hp}{r:List Nat}:∀{qs:List aa}{rows:List (List Nat)},Paired (fe H) qs rows->(qs.map aK).any (Bo H r)=rows.contains r
 |_,_,.nil=>rfl
 |_,_,.cons h t=>by
  rw[bb,kU,any_rows t,o6 h,Hy]
  congr 1
  rw[cV,bX,bX];exact eq_comm
theorem Bp(hu:X.A.units+64<cp):yx X (fh .In) (Yh X.K):=by
 intro pins s σ H x y v u Q I rx ry h
 obtain⟨p,a,r,rows,rfl,rfl,hp,⟨qs,ha,hq⟩,q⟩:=h
 cases rx
 cases ry
 obtain⟨its,rv,pl,hz⟩:=I.list (a_.of ha)
 have e:=xw rv
 subst e
 refine Rm (Bo H r) pl.isList (λw hw=>?_) ⟨.bl _,H,I,rfl,?_⟩
 ·obtain⟨q',Cw,rfl⟩:=aM.mp (by simpa using hw)
  obtain⟨b,hb,kf⟩:=pN hq q' Cw
  rw[o6 kf]
  exact ID (by show X.A.units+1+1<cp;omega) I (a_.of kf) hp
 ·rw[show(qs.map aK).toArray.any (Bo H r)=(qs.map aK).any (Bo H r) by simp,any_rows hq]
  exact q
theorem Le(h:Paired (fe H) qs rows)(hr:r∈rows):∃q,qs[rows.idxOf r]?=some q/\fe H q r:=by
 have hi:rows.idxOf r<rows.length:=rN hr
 have e:rows[rows.idxOf r]?=some r:=by rw[bT hi,Bq]
 clear hr hi
 generalize rows.idxOf r=j at e
 induction h generalizing j with
 |nil=>simp at e
 |cons g t ih=>
  cases j with
  |zero=>simp at e;subst e;exact⟨_,rfl,g⟩
  |succ j=>exact ih j (by simpa using e)
theorem tP(hu:X.A.units+64<cp):MtR X "list.index" (Ld X.K):=by
 intro pins s σ H x xs v us Q I rx rxs h
 obtain⟨p,a,r,rows,rfl,rfl,hp,⟨qs,ha,hq⟩,hr,q⟩:=h
 cases rx
 cases rxs with
 |cons ry rt=>
  rename_i uy ut
  cases rt
  cases ry
  obtain⟨its,rv,⟨⟨cls,dd,data,sl⟩,n,ho,hc,hdn,hd⟩,hlen⟩:=I.list (a_.of ha)
  simp only at hc hd
  subst hc hd
  have e:=xw rv
  subst e
  obtain⟨qj,hqj,aiG⟩:=Le hq hr
  obtain⟨hjl,hje⟩:=gx.mp hqj
  have hsl:=dU
  have hlq:qs.length<=az:=by simpa using hlen
  have hj:rows.idxOf r<(qs.map aK).toArray.size:=by simpa using hjl
  refine kW u6 ⟨_,ho,rfl⟩ Ry (Rz _ _)
   (RB a (qs.map aK).toArray n dd sl (.ref p) (Bo H r) (rows.idxOf r) hj oo ?_ ?_) ⟨ho,λu' hu'=>?_,?_⟩
  ·have e1:(qs.map aK).toArray[rows.idxOf r]=.ref qj:=by simp[hje]
   rw[e1,o6 aiG,f9]
  ·intro m hm hmj
   have hml:m<qs.length:=by simpa using hm
   have e1:(qs.map aK).toArray[m]=.ref qs[m]:=by simp
   have hlr:qs.length=rows.length:=bF hq
   have hmr:rows[m]?=some rows[m]:=bT oo
   obtain⟨q',Cw,kf⟩:=Bn hq hmr
   have e2:qs[m]=q':=by rw[bT hml]at Cw;exact bO Cw
   rw[e1,e2,o6 kf]
   have:=T1 (p:=(·==r)) (xs:=rows) (i:=m) hmj
   simpa using this
  ·obtain⟨q',Cw,rfl⟩:=aM.mp (by simpa using hu')
   obtain⟨b,hb,kf⟩:=pN hq q' Cw
   rw[o6 kf]
   exact ID (by show X.A.units+1+1<cp;omega) I (a_.of kf) hp
  ·exact⟨.int (rows.idxOf r:Nat),H,I.tok _,⟨_,rfl⟩,q⟩
theorem Yk(a b:Nat):Oh (.int (a:Int)) (.int (b:Int))=(a==b):=by
 show((a:Int)==(b:Int))=_
 rw[cV,bX,bX];omega
theorem Br{c:Nat}:∀{r:List Nat}{us:List af},Vals (bU r) us->us.countP (FH (.int (c:Int)))=r.count c
 |[],_,h=>by cases h;rfl
 |n::r,_,h=>by
  cases h with
  |cons rr t=>
   rw[List.countP_cons,Br t,z0 rr rfl,Yk,Se]
theorem o7:MtR X "list.count" (abJ X.K):=by
 intro pins s σ H x xs v us Q I rx rxs h
 obtain⟨a,r,c,rfl,rfl,hs,q⟩:=h
 cases rx
 cases rxs with
 |cons ry rt=>
  rename_i uy ut
  cases rt
  obtain⟨its,rv,⟨⟨cls,dd,data,sl⟩,n,ho,hc,hdn,hd⟩,hlen⟩:=I.list hs
  simp only at hc hd
  subst hc hd
  have hf:(bU r).all ni=true:=by rw[u9];exact c_.mpr λ_ _=>rfl
  refine kW rO ⟨_,ho,rfl⟩ PySem.F.entry_list_count (PySem.F.args_list_count_2 _ _) (SeqAt.list_countAt a its.toArray n dd sl uy (FH (.int (c:Int)))) ⟨ho,λu' hu'=>l5 ry rfl rv hf u' (by simpa using hu'),?_⟩
  refine⟨.int (r.count c:Nat),H,I.tok _,⟨s.toks,?_⟩,q⟩
  rw[show its.toArray.toList=its by simp,Br rv]
def T2{α:Type}:List α->List α
 |a::_::l=>a::T2 l
 |[a]=>[a]
 |[]=>[]
theorem IE(r:List Nat)(k:Nat):bU (r.drop k)=(bU r).drop k:=jd
theorem EI:∀r:List Nat,bU (p8 r)=T2 (bU r)
 |[]=>rfl
 |[_]=>rfl
 |a::b::l=>by
  have:=EI l
  simp only[p8,bU,bb,T2]at this⊢
  rw[this]
theorem IF:∀{xs:List V}{us:List af},Vals xs us->Vals (T2 xs) (T2 us)
 |[],_,h=>by cases h;exact .nil
 |[_],_,h=>by cases h with|cons r t=>cases t;exact .cons r .nil
 |a::b::l,_,h=>by
  cases h with
  |cons r t=>
   cases t with
   |cons r2 t2=>exact .cons r (IF t2)
theorem xy{α:Type}:∀l:List α,T2 l=(aE ((l.length+1)/2)).filterMap λk=>l[2*k]?
 |[]=>by simp[T2]
 |[a]=>by simp[T2,iy]
 |a::b::l=>by
  have ih:=xy l
  have e:((a::b::l).length+1)/2=(l.length+1)/2+1:=by simp only[aS];omega
  rw[e,qI,jA]
  show a::T2 l=_
  simp only[AB,G8,HX]
  rw[ih]
  congr 1
theorem Yl(l:List α):(T2 l).length<=l.length:=by
 rw[xy]
 refine bV (List.length_filterMap_le _ _) ?_
 rw[e_];omega
theorem Lf(its:List af)(lo:Nat):zZ its.toArray (some (lo:Int)) none (some 2)=(T2 (its.drop lo)).toArray:=by
 have e1:(kT (some (lo:Int)) none (some 2) its.toArray.size)=(((min lo its.length:Nat):Int),((its.length:Nat):Int),2):=by
  simp only[kT,AJ,show(2:Int)>0 by decide,de,cw]
  rw[aq oo]
  congr 1
  omega
 unfold zZ
 rw[e1]
 congr 1
 rw[xy]
 unfold sliceRange
 simp only[show(2:Int)>0 by decide,de]
 have e2:(if((min lo its.length:Nat):Int)<((its.length:Nat):Int)then(((its.length:Nat):Int)-((min lo its.length:Nat):Int)+2-1)/2 else 0).toNat=((its.drop lo).length+1)/2:=by
  rw[gG]
  by_cases h:lo<its.length
  ·rw[ax oo];omega
  ·rw[aq oo,show its.length-lo=0 by omega];rfl
 rw[e2,HX]
 congr 1
 funext k
 simp only[vW]
 rw[HR]
 by_cases h:lo<=its.length
 ·rw[show(((min lo its.length:Nat):Int)+2*(k:Int)).toNat=lo+2*k by omega];simp
 ·have e3:(((min lo its.length:Nat):Int)+2*(k:Int)).toNat=its.length+2*k:=by omega
  rw[e3]
  simp only[List.getElem?_toArray]
  rw[eR oo,eR oo]
theorem DM{k:Nat}{p3:cK}{li si:Int}(hlo:li=(lo:Int))(hsi:si=2)(he:PE X e te):PE X (.Subscript e (.Slice (some (.Constant (.int li) j p1)) none (some (.Constant (.int si) k p2)) p3) pos) (abK X.K lo te):=by
 subst hlo hsi
 intro pins s σ H Q I h
 refine zV (fg (he pins s σ H _ I h) λv s1⟨x,H1,I1,r1,q1⟩=>?_)
 obtain⟨a,r,rfl,hs,q⟩:=q1
 cases r1
 refine wpAny_Slice (fg ((gy (bo (i:=(lo:Int)) (j:=j) (pos:=p1))) pins s1 σ H1 (λo H'=>o=some (lo:Int)/\H'=H1) I1 ⟨_,rfl,rfl,rfl⟩) λvl s2⟨l,H2,I2,pl,el,eH2⟩=>fg (nh pins s2 σ H2 (λo H'=>o=none/\H'=H1) I2 ⟨rfl,eH2⟩) λvu s3⟨u,H3,I3,pu,eu,eH3⟩=>fg ((gy (bo (i:=2) (j:=k) (pos:=p2))) pins s3 σ H3 (λo H'=>o=some 2/\H'=H1) I3 ⟨_,rfl,rfl,eH3⟩) λvst s4⟨ss,H4,I4,pst,est,eH4⟩=>?_)
 subst el eu est eH2 eH3
 subst eH4
 have I5:Inv X pins σ H4 {s4 with heap:=s4.heap.push {cls:=.type "slice",data:=.fields #[vl,vu,vst]}}:=I4.kept (t':=s4.toks) λb ob q=>bQ _ q
 obtain⟨its,rv,ht,hz⟩:=I5.list hs
 have hlen:=rv.length
 have hg:wpAny (ay X.prog X.w) X.A (oy (.ref a) (.ref s4.heap.objs.size)) (EP X pins σ Q) X.xe {s4 with heap:=s4.heap.push {cls:=.type "slice",data:=.fields #[vl,vu,vst]}}:=by
  refine Rl ht.isList (Rf ..) pl pu pst (by simp) ?_ (by rw[cw]<;>omega)
  rw[Lf]
  refine⟨.ref _,_,I5.laid (t':=s4.toks) (o:=.lst (bU (p8 (r.drop lo)))) (λb ob q=>bQ _ q) (aV _) ?_,rfl,q _ (I5.hok.fresh (aV _))⟩
  refine⟨?_,_,0,?_,cU _ rfl⟩
  ·rw[EI]
   refine bV (Yl _) ?_
   rw[IE,gG];omega
  ·rw[EI,IE]
   exact IF (rv.drop lo)
 exact tail_any (ops:=[.ref a,.ref s4.heap.objs.size]) ht.isList.typeIs GF.lookup hg (by with_unfolding_all rfl)
def Cell(P:Nat->af->Prop)(bt:Nat->Nat->Bool)(h:aH)(S:aa)(j:Nat):Prop:=
 ∃(c:Nat)(its:Array af),h.get? S=some ⟨.type "list",none,.seq its c,#[]⟩/\((j=0/\its=#[])\/∃v,0<j/\its=#[v,v]/\P (j6 bt (j-1)) v)
theorem OR{wr:List aa}{P:Nat->af->Prop}{St:Nat->aH->Prop}(W:Walks prog w A.in1 I fp wr n P St)(bt:Nat->Nat->Bool)(hlt:CmpOf prog w A.in1 .Lt P bt){S:aa}(hS:S∉fp)(d:af):
  ∀(m j:Nat)(s:aj),n=j+m->St j s.heap->Cell P bt s.heap S j->(∀v h' tk,(n=0/\v=d)\/(0<n/\P (j6 bt (n-1)) v)->(∀b o,b∉wr->b≠S->s.heap.get? b=some o->h'.get? b=some o)->R (.ok (.ret v)) {s with heap:=h',toks:=tk})->codeAny (ay prog w) A (.builtin "min.loop" ⟨[.ref I,.none,.ref S],[("default",d)]⟩) R s:=by
 have nm:(toString "min"++toString ".loop":String)="min.loop":=by decide
 have hSw:S∉wr:=λz=>hS (W.sub _ z)
 intro m
 induction m with
 |zero=>
  rintro j s hn st ⟨c,its,hc,hi⟩ hR
  have ej:j=n:=by omega
  subst ej
  refine gK T3 ?_
  rw[jO rP _]
  refine au (vh hc rfl ?_)
  refine au (Ag (W.done s _ _ st λh' tk kp=>?_))
  rcases hi with⟨h0,rfl⟩|⟨v,h0,rfl,hv⟩
  ·exact au (qu (aC (hR d h' tk (.inl ⟨h0,rfl⟩) λb o hb _ e=>kp b o hb e)))
  ·have Xe:=kp S _ hSw hc
   refine au (IG Xe rfl ?_ (by show 2<=az;decide) (by show 0<=az+1;decide))
   refine au (vX (aC ?_))
   exact hR v _ tk (.inr ⟨h0,hv⟩) λb o hb hbS e=>(iH _ _ (λz=>hbS z.symm)).trans (kp b o hb e)
 |succ m ih=>
  rintro j s hn st ⟨c,its,hc,hi⟩ hR
  refine gK T3 ?_
  rw[jO rP _]
  refine au (vh hc rfl ?_)
  refine au (Ag (W.item j s _ _ oo st λv h' tk hv tD kp=>?_))
  have Xe:=kp S _ hSw hc
  have on:∀(c':Nat)(its':Array af)(h2:aH)(N7:Nat),(∀b o,b≠S->h'.get? b=some o->h2.get? b=some o)->h2.get? S=some ⟨.type "list",none,.seq its' c',#[]⟩->(∃u,its'=#[u,u]/\P (j6 bt j) u)->codeAny (ay prog w) A (.builtin "min.loop" ⟨[.ref I,.none,.ref S],[("default",d)]⟩) R {s with heap:=h2,toks:=N7}:=λc' its' h2 N7 keep e2⟨u,eu,hu⟩=>by
   refine ih (j+1) _ oo (W.frame _ _ _ tD λb hb o e=>keep b o (λz=>hS (by rw[<-z];exact hb)) e) ⟨c',its',e2,.inr ⟨u,by omega,eu,by simpa using hu⟩⟩ λv' h3 tk3 tE kp3=>?_
   exact hR v' h3 tk3 tE λb o hb hbS e=>kp3 b o hb hbS (keep b o hbS (kp b o hb e))
  refine au (aC ?_)
  rcases hi with⟨h0,rfl⟩|⟨u,h0,rfl,hu⟩
  ·refine au (IG Xe rfl ?_ (by show 0<=az;decide) (by show 2<=az+1;decide))
   rw[nm]
   refine aC ⟨gi rP _,on _ _ _ _ (λb o hb e=>(iH _ _ (λz=>hb z.symm)).trans e) (zY _ Xe rfl) ⟨v,rfl,?_⟩⟩
   subst h0;exact hv
  ·refine au (Ag (fj (au (hlt j (j6 bt (j-1)) v u _ _ _ hv hu ?_))))
   refine au (fj (kJ (au (vX (aC ?_)))))
   have ab:j6 bt j=if bt j (j6 bt (j-1))then j else j6 bt (j-1):=by
    obtain⟨i,rfl⟩:∃i,j=i+1:=⟨j-1,by omega⟩
    rfl
   cases hb:bt j (j6 bt (j-1))with
   |true=>
    refine au (IG Xe rfl ?_ (by show 2<=az;decide) (by show 2<=az+1;decide))
    refine au (vX ?_)
    rw[nm]
    refine aC ⟨gi rP _,on _ _ _ _ (λb o hb e=>(iH _ _ (λz=>hb z.symm)).trans e) (zY _ Xe rfl) ⟨v,rfl,?_⟩⟩
    rw[ab,hb];exact hv
   |false=>
    refine au (vX ?_)
    rw[nm]
    refine aC ⟨gi rP _,on _ _ _ _ (λb o _ e=>e) Xe ⟨u,rfl,?_⟩⟩
    rw[ab,hb];exact hu
theorem yZ(l:List Nat):bU l=(m8 l).map V.int:=by simp[bU,m8]
theorem OS(a v:af):rQ "min" ⟨[a],[(IH "default",v)]⟩:=by unfold rQ;kernel_rfl
theorem II{xs:Array (Int×dR)}{d:af}(hh:A.handled=none)(hl:s.heap.IsList l (l6 xs))(h:∀v h' tk,(xs.size=0/\v=d)\/(0<xs.size/\(l6 xs)[j6 (λi j=>decide (l8 xs i<l8 xs j)) (xs.size-1)]?=some v)->(∀b o,s.heap.get? b=some o->h'.get? b=some o)->Q v {s with heap:=h',toks:=tk}):
  wpAny (ay prog w) A (call (.builtin "min") [.ref l] [("default",d)]) Q E s:=by
 have nm:(toString "min"++toString ".loop":String)="min.loop":=by decide
 refine PyProof.Rows.kmb_tree PySem.F.kind_min PySem.F.plain_min PySem.F.entry_min (OS _ _) ?_
 refine au (Bs (show cR.Builtins.bindParams "min" ["key","default"] 0 ⟨[],[(IH "default",d)]⟩=pure [none,some d]from rfl) ?_)
 refine au (aC ?_)
 refine au (iter_intList hl λs2 e st hfp hlI=>?_)
 subst e
 refine au (oF ?_)
 rw[nm]
 have hn:(l6 xs).size=xs.size:=by simp[l6]
 have W:=GP (prog:=prog) (w:=w) (A:=A.in1) hh _ l hlI (l6 xs)
 refine aC ⟨gi rP _,OR W _ (CmpOf.ints_lt (l8 xs) (λ_ _=>GN)) (λz=>iT _ (hfp _ z)) d _ 0 _ (dE _).symm (W.frame _ _ _ st λb _ o e=>bQ _ e) ⟨_,_,cU _ rfl,.inl ⟨rfl,rfl⟩⟩ λv h' tk hv kp=>?_⟩
 rw[hn]at hv
 refine h v h' tk hv (old_kept λb o hb e=>kp b o hb (bS (ba e)) (bQ _ e))
theorem T4{c:Int}(hg:Gl X "min")(hm:X.mg "min"=none)(hc:X.calm=true)(he:PE X e te)(tj:aU [e] X.env=[(false,eval e X.env)]:=by rfl):
  PE X (.Call (.Name "min" p) [e] [⟨some "default",.Constant (.int c) j p1,p2⟩] pos) (aeT X.K c te):=by
 intro pins s σ H Q I h
 refine ie (kj I hg hm PyProof.Rows.boot_min ?_)
 have CF:b9 pos (aU (e::[]) X.env)=(false,eval e X.env)::b9 pos (aU [] X.env):=by
  show b9 pos (aU [e] X.env)=_
  rw[tj];rfl
 refine PyProof.Rows.callWith_kw ?_ CF (by rw[CF];rfl)
 refine fg ((ae he ai tj) pos pins s σ H (λvs H1=>match vs with
  |[x]=>∃(a:aa)(r:List Nat),x=.ref a/\a_ X.K H1 a (bU r)/\(r=[]->Q (.int c) H1)/\∀m,m∈r->(∀y∈r,m<=y)->Q (.int (m:Int)) H1
  |_=>False) I h) λus s1⟨vs,H1,I1,r1,q1⟩=>?_
 match vs,q1 with
 |[x],⟨a,r,ea,hs,k0,k1⟩=>
  subst ea
  have eu:=Vals.KC r1
  subst eu
  refine PyProof.Rows.kws_cons (fg (bo pins s1 σ H1 (λx H2=>x=.int c/\H2=H1) I1 ⟨rfl,rfl⟩) λd s2⟨x,H2,I2,rd,ex,eH⟩=>?_)
  subst ex eH
  obtain⟨tk0,rfl⟩:=rd
  refine PyProof.Rows.kws_nil ?_
  obtain⟨its,rv,hl,_⟩:=I2.list hs
  rw[yZ]at rv
  have hi:=Vals.ints rv
  obtain⟨xs,e⟩:=hi.allInts.items
  have PR:=hl.isList
  have hn:numsOf (l6 xs).toList=m8 r:=e▸hi.numsOf
  rw[GL]at hn
  rw[e]at PR
  have hsz:xs.size=r.length:=by have:=congrArg f_ hn;simpa[m8]using this
  refine II (I2.ok.hd hc) PR λv h' tk hv kp=>?_
  rcases hv with⟨h0,rfl⟩|⟨h0,hv⟩
  ·exact⟨.int c,H2,I2.kept kp,⟨_,rfl⟩,k0 (my.mp oo)⟩
  ·obtain⟨t,rfl⟩:=GN hv
   obtain⟨g1,g2⟩:=argBest_lt (l8 xs) (xs.size-1)
   generalize j6 (λi j=>decide (l8 xs i<l8 xs j)) (xs.size-1)=b at g1 g2
   have at_:∀i,i<r.length->l8 xs i=((r.getD i 0:Nat):Int):=λi FD=>by
    rw[numAt_eq,hn]
    simp[m8,bM,FD]
   have hb:b<r.length:=by omega
   refine⟨.int ((r.getD b 0:Nat):Int),H2,I2.kept kp,⟨t,by rw[at_ b hb]⟩,k1 _ ?_ λy hy=>?_⟩
   ·rw[bM,bT hb];exact rR hb
   ·obtain⟨i,hi1,rfl⟩:=mG.mp hy
    have:=g2 i oo
    rw[at_ i hi1,at_ b hb]at this
    have e2:r.getD i 0=r[i]:=by rw[bM,bT hi1];rfl
    rw[e2]at this;omega
end Bt
namespace Bt
open PySem
open PyProof.Rows.G (KeepsTups)
structure EK (prog:cQ) (w:bC) (K:Type) [DecidableEq K]where
 at_:aH->K->af->Prop
 hash:K->Int
 inj:∀{h:aH}{v:af}{a b:K},at_ h a v->at_ h b v->a=b
 keep:∀{h h':aH}{k:K}{v:af},at_ h k v->rS h h'->at_ h' k v
 pyHash:∀{A:dr}{E:af->aj->Prop}{s:aj}{k:K}{v:af}{Q:Int->aj->Prop},A.units<cp->at_ s.heap k v->(∀tk,Q (hash k) {s with toks:=tk})->wpAny (ay prog w) A (PySem.pyHash v) Q E s
 eqBool:∀{A:dr}{E:af->aj->Prop}{s:aj}{a b:K}{u v:af}{Q:Bool->aj->Prop},A.units<cp->at_ s.heap a u->at_ s.heap b v->Q (decide (a=b)) s->wpAny (ay prog w) A (PySem.eqBool u v) Q E s
 same:∀{A:dr}{E:af->aj->Prop}{s:aj}{k:K}{v:af}{Q:Bool->aj->Prop},at_ s.heap k v->Q true s->wpAny (ay prog w) A (isSame v v) Q E s
 byv:∀{A:dr}{E:af->aj->Prop}{s:aj}{k:K}{v:af}{Q:Bool->aj->Prop},at_ s.heap k v->Q true s->wpAny (ay prog w) A (vY 8 v) Q E s
 Bu:∀{A:dr}{E:af->aj->Prop}{s:aj}{k:K}{v:af}{l:List af}{Q:Bool->aj->Prop},at_ s.heap k v->(∀y∈l,∃k',at_ s.heap k' y)->Q false s->wpAny (ay prog w) A (vZ v l) Q E s
 scan:∀{A:dr}{E:af->aj->Prop}{s:aj}{a:aa}{o:aG}{es:Array (Int×af)}{ep:Nat}{t:aI}{k:K}{v:af}{Q:ScanMet->aj->Prop},at_ s.heap k v->s.heap.get? a=some o->o.data=.set es ep t->t.fits es.size=true->(∀e∈es.toList,∃k,at_ s.heap k e.2/\e.1=hash k)->byScan v es=true->(∀i,(∃e∈es.toList,at_ s.heap k e.2)->Q (.found i) s)->((∀e∈es.toList,¬at_ s.heap k e.2)->Q .absent s)->wpAny (ay prog w) A (setScan a v (hash k) true es) Q E s
variable{A:dr}{E:af->aj->Prop}{es:Array (Int×af)}{h:aH}{prog:cQ}{s:aj}{w:bC}
section
variable{K:Type} [DecidableEq K](ek:EK prog w K)
def yM(t:aI)(es:Array (Int×af))(h:Int)(q:Nat):Bool:=
 match t.slot (walk t h q).j with
 | .live i=>((es[i]?.map (·.1)).getD 0)==h
 |_=>false
def left(t:aI)(es:Array (Int×af))(h:Int)(q M:Nat):Nat:=((Bv q (M-q)).filter (yM t es h)).length
theorem T5{t:aI}{h:Int}{q q' M:Nat}(h1:q<=q')(h2:q'<M)(hc:yM t es h q'=true):left t es h (q'+1) M<left t es h q M:=by
 unfold left
 have e:Bv q (M-q)=Bv q (q'-q)++(q'::Bv (q'+1) (M-(q'+1))):=by
  have e1:M-q=(q'-q)+(M-q'):=by omega
  have e2:M-q'=(M-(q'+1))+1:=by omega
  rw[e1,<-List.range'_append_1,e2,List.range'_succ,show q+(q'-q)=q' by omega]
 rw[e,jf,bZ,eK hc,aS]
 omega
abbrev ko(es:Array (Int×af))(ep:Nat)(t:aI):aG:={cls:=.type "set",dict:=none,data:=.set es ep t,slots:=#[]}
theorem DN(hu:A.units<cp){a:aa}{es:Array (Int×af)}{ep:Nat}{t:aI}(ho:s.heap.get? a=some (ko es ep t))(T:tM t es.size)(R:RI t (es.toList.map (·.1)))(el:∀e∈es.toList,∃k,ek.at_ s.heap k e.2/\e.1=ek.hash k){k:K}{v:af}(hk:ek.at_ s.heap k v){M:Nat}(F:FF t es.size (ek.hash k) M){Q:SetFound->aj->Prop}(h1:(∃e∈es.toList,ek.at_ s.heap k e.2)->Q (.there none) s)(h2:(∀e∈es.toList,¬ek.at_ s.heap k e.2)->Q (.free (walk t (ek.hash k) M).j false) s):
  ∀(f q:Nat)(st:Option HK),st.getD (t.probeStart (ek.hash k))=walk t (ek.hash k) q->q<=M->left t es (ek.hash k) q M<f->(∀q',q'<q->∀(i:Nat)(e:Int×af),t.place[i]?=some (walk t (ek.hash k) q').j->es[i]?=some e->¬ek.at_ s.heap k e.2)->wpAny (ay prog w) A (Bw a v (ek.hash k) true f st) Q E s
 |0,q,st,_,_,hl,_=>absurd hl (jV _)
 |f+1,q,st,tj,hq,hl,hb=>by
  unfold Bw
  refine au (mJ ho rfl T.fits ?_)
  dsimp only
  rw[T.odd]
  simp only[dO,cn]
  rw[tj]
  generalize hg:SetTable.probe t _ (ek.hash k) (walk t (ek.hash k) q)=r
  have P0:t.probe (λi=>(es[i]?.map (·.1)).getD 0) (ek.hash k) (walk t (ek.hash k) q)=r:=hg
  clear hg
  have hsz:t.place.size=es.size:=T.size
  rcases A6 T F (λi=>(es[i]?.map (·.1)).getD 0) q hq with⟨k',i,g1,g2,g3,g4,g5,g6⟩|⟨g1,g2⟩
  ·rw[g5]at P0
   subst P0
   dsimp only
   have hi:i<es.size:=by rw[<-hsz];exact(mF.mp g3).1
   have hei:es[i]?=some es[i]:=g7 hi
   have hmem:es[i]∈es.toList:=by simp
   obtain⟨k1,Qe,hh1⟩:=el _ hmem
   have hc:yM t es (ek.hash k) k'=true:=by
    unfold yM
    rw[lO T g3]
    exact bX.mpr g4
   have tail:wpAny (ay prog w) A (do
     let some (_,y):=es[i]?|unsupported "internal:set-entry"
     let equal<-h_ [y] (eqBool y v)
     let(CB,_,t')<-setState a
     if true&&equal then return .there none
     let some same:=t'.sameMemory t.moves t.mask|unsupported "set.changed-during-lookup:is-the-new-block-at-the-old-address"
     let agy<-match(if same then t'.slot (walk t (ek.hash k) k').j else .empty)with
      | .live i'=>match CB[i']?with
       |some (_,y')=>do pure (if<-isSame y' y then some i' else none)
       |none=>pure none
      |_=>pure none
     match agy with
     |none=>rule "set.search.anew";Bw a v (ek.hash k) true f none
     |some i'=>if equal then return .there (some i')else Bw a v (ek.hash k) true f (some (walk t (ek.hash k) (k'+1)))) Q E s:=by
    rw[hei]
    rcases hE:es[i]with⟨hsh,y⟩
    rw[hE]at Qe hh1
    dsimp only at Qe⊢
    refine au (fj (ek.eqBool hu Qe hk ?_))
    refine au (mJ ho rfl T.fits ?_)
    dsimp only
    by_cases hkk:k1=k
    ·subst hkk
     rw[qr rfl]
     simp only[Bool.and_self,de]
     exact aC (h1 ⟨_,hmem,by rw[hE];exact Qe⟩)
    ·rw[fG hkk]
     simp only[uY,dO,cn]
     have hsm:t.sameMemory t.moves t.mask=some true:=by simp[aI.sameMemory]
     rw[hsm]
     dsimp only
     rw[ax rfl,lO T g3]
     dsimp only
     rw[hei,hE]
     dsimp only
     refine au (ek.same Qe (au (aC ?_)))
     simp only[de]
     refine DN hu ho T R el hk F h1 h2 f (k'+1) _ rfl oo ?_ ?_
     ·have:=T5 (M:=M) g1 g2 hc
      omega
     ·intro q' Cw i' e' Xi PY Xj
      rcases mE q' q with z|z
      ·exact hb q' z i' e' Xi PY Xj
      ·obtain⟨k3,hk3,hh3⟩:=el e' (by rw[<-ji]at PY;exact cC PY)
       have e3:=ek.inj Xj hk3
       subst e3
       rcases k8 (T6.mp Cw)with z2|rfl
       ·exact g6 q' z z2 i' Xi (by rw[PY];exact hh3)
       ·have ei:i'=i:=by
         have:=lO T Xi
         rw[lO T g3]at this;cases this;rfl
        subst ei
        rw[hei]at PY
        have PY:=bO PY
        subst PY
        rw[hE]at Xj
        exact hkk (ek.inj Qe Xj)
   by_cases hld:t.led=true
   ·rw[hld]
    simp only[v8,dO,cn]
    exact tail
   ·have hld:t.led=false:=by simpa using hld
    rw[hld]
    simp only[rH,de]
    refine au (ek.Bu hk (λy hy=>?_) ?_)
    ·obtain⟨e,he,rfl⟩:=aM.mp hy
     obtain⟨he,_⟩:e∈es/\e.1=ek.hash k:=by simpa using he
     obtain⟨k2,hk2,_⟩:=el e (by simpa using he)
     exact⟨k2,hk2⟩
    ·simp only[dO,cn]
     exact tail
  ·rw[g1]at P0
   subst P0
   dsimp only
   refine aC (h2 λe he Xj=>?_)
   obtain⟨i,hi,rfl⟩:=mG.mp he
   rw[dj]at hi
   rw[A7]at Xj he
   obtain⟨k2,hk2,hh2⟩:=el es[i] (by simp)
   have:=ek.inj Xj hk2
   subst this
   have hp:i<t.place.size:=by omega
   obtain⟨m,hm,ej⟩:=R.before F (g7 hp) (i:=i) (h:=ek.hash k) (by simp[hi,hh2])
   have mY:t.place[i]?=some (walk t (ek.hash k) m).j:=by rw[ej];exact g7 hp
   rcases mE m q with z|z
   ·exact hb m z i es[i] mY (g7 hi) Xj
   ·exact g2 m z hm i mY (by simp[hi,hh2])
structure SD (h:aH) (es:Array (Int×af)) (t:aI) (S:K->Prop):Prop where
 T:tM t es.size
 pl:t.plain=true
 led:t.led= !w.params.followText "set-order"
 ri:RI t (es.toList.map (·.1))
 el:∀e∈es.toList,∃k,S k/\ek.at_ h k e.2/\e.1=ek.hash k
 all:∀k,S k->∃e∈es.toList,ek.at_ h k e.2
 ds:es.toList.Pairwise λe e'=>∃k k',ek.at_ h k e.2/\ek.at_ h k' e'.2/\k≠k'
variable{ek}
theorem SD.keep{h h':aH}{es:Array (Int×af)}{t:aI}{S:K->Prop}(D:SD ek h es t S)(kp:rS h h'):SD ek h' es t S:=
 ⟨D.T,D.pl,D.led,D.ri,λe he=>let⟨k,h1,h2,h3⟩:=D.el e he;⟨k,h1,ek.keep h2 kp,h3⟩,λk hk=>let⟨e,he,h1⟩:=D.all k hk;⟨e,he,ek.keep h1 kp⟩,D.ds.imp λ⟨k,k',h1,h2,h3⟩=>⟨k,k',ek.keep h1 kp,ek.keep h2 kp,h3⟩⟩
theorem SD.el'{t:aI}{S:K->Prop}(D:SD ek h es t S):∀e∈es.toList,∃k,ek.at_ h k e.2/\e.1=ek.hash k:=λe he=>let⟨k,_,h2,h3⟩:=D.el e he;⟨k,h2,h3⟩
theorem SD.congr{t:aI}{S S':K->Prop}(D:SD ek h es t S)(e:∀k,S k↔S' k):SD ek h es t S':=
 ⟨D.T,D.pl,D.led,D.ri,λx hx=>let⟨k,h1,h2⟩:=D.el x hx;⟨k,(e k).mp h1,h2⟩,λk hk=>D.all k ((e k).mpr hk),D.ds⟩
theorem SD.perm{CB:Array (Int×af)}{t t':aI}{S:K->Prop}(D:SD ek h es t S)(p:CB.toList.Perm es.toList)(T:tM t' es.size)(pl:t'.plain=true)(led:t'.led=t.led)(ri:RI t' (CB.toList.map (·.1))):SD ek h CB t' S:=by
 have hsz:CB.size=es.size:=by have:=p.length_eq;simpa using this
 refine⟨by rw[hsz];exact T,pl,led.trans D.led,ri,λe he=>D.el e (p.mem_iff.mp he),λk hk=>let⟨e,he,h1⟩:=D.all k hk;⟨e,p.mem_iff.mpr he,h1⟩,?_⟩
 exact p.symm.pairwise D.ds λ⟨k,k',h1,h2,h3⟩=>⟨k',k,h2,h1,λe=>h3 e.symm⟩
theorem SD.put{h:aH}{es:Array (Int×af)}{t:aI}{S:K->Prop}(D:SD ek h es t S){k:K}{v:af}(hk:ek.at_ h k v){M:Nat}(F:FF t es.size (ek.hash k) M)(new:∀e∈es.toList,¬ek.at_ h k e.2)(room:es.size+1<=t.mask):
  SD ek h (gY es (t.put (walk t (ek.hash k) M).j).2 (ek.hash k,v)) (t.put (walk t (ek.hash k) M).j).1 (λk'=>S k'\/k'=k):=by
 have mem:∀e,e∈(gY es (t.put (walk t (ek.hash k) M).j).2 (ek.hash k,v)).toList↔e=(ek.hash k,v)\/e∈es.toList:=λe=>by
  rw[uM,mem_insert,uM]
 refine⟨?_,?_,by rw[Ez D.T];exact D.led,abn D.T rfl D.ri F v,λe he=>?_,λk' ZE=>?_,?_⟩
 ·rw[size_insert];exact abm D.T F.free (Ey _ M).1 room
 ·rw[Ez D.T];exact D.pl
 ·rcases(mem e).mp he with rfl|he
  ·exact⟨k,.inr rfl,hk,rfl⟩
  ·obtain⟨k',h1,h2⟩:=D.el e he
   exact⟨k',.inl h1,h2⟩
 ·rcases ZE with ZE|rfl
  ·obtain⟨e,he,h1⟩:=D.all k' ZE
   exact⟨e,(mem e).mpr (.inr he),h1⟩
  ·exact⟨(ek.hash k',v),(mem _).mpr (.inl rfl),hk⟩
 ·refine(aI.insertAt_perm es _ (ek.hash k,v)).symm.pairwise ?_ λ⟨k,k',h1,h2,h3⟩=>⟨k',k,h2,h1,λe=>h3 e.symm⟩
  rw[T7,Hl]
  refine⟨D.ds,T8 _ _,λe he e' PY=>?_⟩
  rw[bA]at PY
  subst PY
  obtain⟨k',_,h2,_⟩:=D.el e he
  exact⟨k',k,h2,hk,λz=>new e he (z▸h2)⟩
theorem SD.relaid{h:aH}{es:Array (Int×af)}{t:aI}{S:K->Prop}(D:SD ek h es t S)(h1:1<=es.size)(hb:es.size<=1000000):
  ∃t' order,t.relaid (es.map (·.1)) (j7 es.size)=some (t',order)/\order.toList.Perm (aE es.size)/\(order.filterMap (es[·]?)).toList.Perm es.toList/\SD ek h (order.filterMap (es[·]?)) t' S/\es.size*5<t'.mask*3:=by
 have hw:2*es.size<=j7 es.size/\j7 es.size<=4*es.size:=by unfold j7;split<;>omega
 obtain⟨t',order,e,p,T,ld,pl,le,ri⟩:=OH (t:=t) h1 hw.1 oo
 have pp:(order.filterMap (es[·]?)).toList.Perm es.toList:=by
  rw[Tc]
  exact(p.filterMap _).trans (by rw[filterMap_getElem?_range])
 exact⟨t',order,e,p,pp,D.perm pp T (by rw[pl];exact D.pl) le ri,ld⟩
end
variable{M:Model}{a:aa}{ep n:Nat}{v:af}
section
variable{K:Type} [DecidableEq K]{ek:EK prog w K}
theorem y6{t:aI}(ho:h.get? a=some (ko es ep t))(CB:Array (Int×af))(t':aI):
  (h.update a (o8 CB t')).get? a=some (ko CB (ep+1) t')/\(∀b o,b≠a->h.get? b=some o->(h.update a (o8 CB t')).get? b=some o)/\rS h (h.update a (o8 CB t'))/\(h.update a (o8 CB t')).objs.size=h.objs.size:=by
 refine⟨?_,λb o hb e=>(iH _ _ (λz=>hb z.symm)).trans e,rS.update _ ho ?_,T9 _ _ _⟩
 ·have:=zY (o8 CB t') ho (by rw[putSet_of CB t' rfl];rfl)
  rw[putSet_of CB t' rfl]at this
  exact this
 ·intro e
  have e:dI "set"=dI "tuple":=e
  injection e with e
  exact absurd e dd
variable(ek)
def Ko(h:aH)(a:aa)(S:K->Prop)(N:Nat):Prop:=∃es ep t,h.get? a=some (ko es ep t)/\SD ek h es t S/\es.size*5<t.mask*3/\es.size<=N
variable{ek}
theorem Ko.keep{h h':aH}{a:aa}{S:K->Prop}{N:Nat}(x:Ko ek h a S N)(kp:∀b o,h.get? b=some o->h'.get? b=some o):Ko ek h' a S N:=
 let⟨es,ep,t,ho,D,l,n⟩:=x;⟨es,ep,t,kp _ _ ho,D.keep λb o e _=>kp b o e,l,n⟩
theorem aeU{t':aI}{order:Array Nat}{Q:Array (Int×af)×aI->aj->Prop}(hz:(order.filterMap (es[·]?)).size=es.size)(h:Q (order.filterMap (es[·]?),t') s):
  wpAny M A (do
   let CB:=order.filterMap (es[·]?)
   if CB.size !=es.size then unsupported "internal:set-table-lost-an-element"
   pure (CB,t')) Q E s:=by
 have:((order.filterMap (es[·]?)).size !=es.size)=false:=by rw[hz];exact qp _
 dsimp only
 rw[this]
 simp only[dO,cn]
 exact au (aC (aC h))
theorem T_{t:aI}{S:K->Prop}(ho:s.heap.get? a=some (ko es ep t))(D:SD ek s.heap es t S)(h1:1<=es.size)(hb:es.size<=100000){Q:Unit->aj->Prop}(h:∀h',(∀b o,b≠a->s.heap.get? b=some o->h'.get? b=some o)->h'.objs.size=s.heap.objs.size->Ko ek h' a S es.size->Q () {s with heap:=h'}):
  wpAny (ay prog w) A (setRelay a (j7 es.size)) Q E s:=by
 obtain⟨t',order,e,p,pp,D',ld⟩:=D.relaid h1 oo
 have hsz:(order.filterMap (es[·]?)).size=es.size:=by rw[<-dj,pp.length_eq,dj]
 have hw:j7 es.size<=4*es.size:=by unfold j7;split<;>omega
 unfold setRelay
 refine au (mJ ho rfl D.T.fits ?_)
 dsimp only
 have hsl:¬(dP (j7 es.size)>az):=by
  obtain⟨k,_,e1,_,e3⟩:=HW (n:=j7 es.size) oo
  rw[e1,dU]
  rcases e3 with rfl|e3
  ·decide
  ·omega
 rw[aq hsl,e]
 refine au (aeU hsz ?_)
 dsimp only
 obtain⟨u1,u2,u3,u4⟩:=y6 ho (order.filterMap (es[·]?)) t'
 refine Bx ho rfl (h _ u2 u4 ⟨_,_,_,u1,D'.keep u3,by rw[hsz];exact ld,by rw[hsz];exact aV _⟩) ?_
 rw[hsz,dU];omega
theorem IJ{t:aI}(T:tM t n)(h:t.tooFull=false):n*5<t.mask*3:=by
 unfold aI.tooFull S0 at h
 rw[T.size,T.nod]at h
 simpa using h
theorem abL(hu:A.units<cp){S:K->Prop}{N:Nat}(hS:Ko ek s.heap a S N){k:K}(hk:ek.at_ s.heap k v)(hN:N<100000)(fuel:∀(es:Array (Int×af))(t:aI)(hsh:Int)(M:Nat),SD ek s.heap es t S->es.size<=N->FF t es.size hsh M->left t es hsh 0 M<100000){Q:Bool->aj->Prop}(h:∀h' tk b,(∀b o,b≠a->s.heap.get? b=some o->h'.get? b=some o)->h'.objs.size=s.heap.objs.size->Ko ek h' a (λk'=>S k'\/k'=k) (N+1)->Q b {s with heap:=h',toks:=tk}):
  wpAny (ay prog w) A (setAdd a v) Q E s:=by
 obtain⟨es,ep,t,ho,D,ld,hn⟩:=hS
 obtain⟨M,F⟩:=aeE D.T (ek.hash k)
 have room:es.size+1<=t.mask:=by
  obtain⟨kk,e,h3⟩:=D.T.pow
  have:8<=2^kk:=jX (n:=2) dd h3
  omega
 unfold setAdd
 refine fj (au (ek.pyHash hu hk λtk=>?_))
 unfold setAddHashed setAddHashedIn
 refine fj (au (mJ (s:={s with toks:=tk}) ho rfl D.T.fits ?_))
 dsimp only
 have old:(∃e∈es.toList,ek.at_ s.heap k e.2)->∀b,Q b {s with heap:=s.heap,toks:=tk}:=λ⟨e,he,Xj⟩b=>by
  obtain⟨k2,h1,h2,_⟩:=D.el e he
  have:=ek.inj Xj h2
  subst this
  refine h _ tk b (λb o _ e=>e) rfl ⟨es,ep,t,ho,D.congr λk'=>⟨.inl,λz=>z.elim id λz=>z▸h1⟩,ld,by omega⟩
 by_cases hb:byScan v es=true
 ·rw[ax hb]
  unfold setAddByScan
  refine au (au (qu (au (ek.scan (s:={s with toks:=tk}) hk ho rfl D.T.fits D.el' hb (λi hx=>?_) (λhx=>?_)))))
  ·exact aC (aC (old hx false))
  ·have D1:=D.put hk F hx room
   have hl:layNew t es (ek.hash k) v=(gY es (t.put (walk t (ek.hash k) M).j).2 (ek.hash k,v),(t.put (walk t (ek.hash k) M).j).1,false,false):=by
    unfold layNew
    rw[OE D.T F]
    dsimp only
    have pZ:=D1.T.fits
    unfold aI.orStandIn
    rw[ax pZ,pZ]
    rfl
   dsimp only
   rw[hl]
   dsimp only
   have hsz:(gY es (t.put (walk t (ek.hash k) M).j).2 (ek.hash k,v)).size=es.size+1:=size_insert
   generalize gY es (t.put (walk t (ek.hash k) M).j).2 (ek.hash k,v)=N8 at D1 hsz⊢
   generalize (t.put (walk t (ek.hash k) M).j).1=t1 at D1⊢
   refine au (m:=pure ()) (aC ?_)
   rw[ax D1.pl]
   refine au (ek.byv (s:={s with toks:=tk}) hk ?_)
   simp only[de,rH,fv]
   obtain⟨u1,u2,u3,u4⟩:=y6 ho N8 t1
   refine au (Bx (s:={s with toks:=tk}) ho rfl ?_ (by rw[hsz,dU];omega))
   by_cases hf:t1.tooFull=true
   ·rw[ax hf]
    have D2:=D1.keep u3
    obtain⟨t2,order,e,p,pp,D3,ld2⟩:=D2.relaid oo oo
    have hsz2:(order.filterMap (N8[·]?)).size=N8.size:=by rw[<-dj,pp.length_eq,dj]
    have hr:relayAll t1 N8 (j7 N8.size)=(order.filterMap (N8[·]?),t2,false):=by
     unfold relayAll
     rw[e]
     dsimp only
     have c1:coversAll order N8.size=true:=R7.mpr p
     have c2:=D3.T.fits
     rw[c1,c2]
     rfl
    rw[hr]
    dsimp only
    refine au (m:=pure ()) (aC ?_)
    obtain⟨v1,v2,v3,v4⟩:=y6 u1 (order.filterMap (N8[·]?)) t2
    refine au (Bx (s:={s with heap:=s.heap.update a (o8 N8 t1),toks:=tk}) u1 rfl ?_ (by rw[hsz2,hsz,dU];omega))
    exact aC (aC (h _ tk true (λb o hb e=>v2 b o hb (u2 b o hb e)) (v4.trans u4) ⟨_,_,_,v1,D3.keep v3,by rw[hsz2];exact ld2,by rw[hsz2];omega⟩))
   ·rw[aq hf]
    have hf:t1.tooFull=false:=by simpa using hf
    exact aC (aC (h _ tk true u2 u4 ⟨N8,_,t1,u1,D1.keep u3,IJ D1.T hf,by omega⟩))
 ·rw[aq hb]
  unfold setSearch
  refine au (DN ek (s:={s with toks:=tk}) hu ho D.T D.ri D.el' hk F (λhx=>?_) (λhx=>?_) 100000 0 none rfl (bI _) (fuel es t _ M D hn F) λq' Cw=>absurd Cw (jV _))
  ·exact aC (old hx false)
  ·have D1:=D.put hk F hx room
   dsimp only
   refine au (mJ (s:={s with toks:=tk}) ho rfl D.T.fits ?_)
   dsimp only
   have hsz:(gY es (t.put (walk t (ek.hash k) M).j).2 (ek.hash k,v)).size=es.size+1:=size_insert
   generalize gY es (t.put (walk t (ek.hash k) M).j).2 (ek.hash k,v)=N8 at D1 hsz⊢
   generalize (t.put (walk t (ek.hash k) M).j).1=t1 at D1⊢
   rw[ax D1.pl]
   refine au (ek.byv (s:={s with toks:=tk}) hk ?_)
   simp only[de,rH,fv]
   obtain⟨u1,u2,u3,u4⟩:=y6 ho N8 t1
   refine au (Bx (s:={s with toks:=tk}) ho rfl ?_ (by rw[hsz,dU];omega))
   by_cases hf:t1.tooFull=true
   ·rw[ax hf,<-hsz]
    refine au (T_ (s:={s with heap:=s.heap.update a (o8 N8 t1),toks:=tk}) u1 (D1.keep u3) oo oo λh' k1 k2 x=>?_)
    obtain⟨es2,ep2,t2,y1,y2,y3,y4⟩:=x
    exact aC (h h' tk true (λb o hb e=>k1 b o hb (u2 b o hb e)) (k2.trans u4) ⟨es2,ep2,t2,y1,y2,y3,by omega⟩)
   ·rw[aq hf]
    have hf:t1.tooFull=false:=by simpa using hf
    exact aC (h _ tk true u2 u4 ⟨N8,_,t1,u1,D1.keep u3,IJ D1.T hf,by omega⟩)
end
abbrev pO(w:bC):Bool:= !w.params.followText "set-order"
abbrev nS(led:Bool):aG:=ko #[] 0 (.fresh 0 0 led)
abbrev nI(l:aa):aG:={cls:=.type "list_iterator",data:=.fields #[.ref l,.int 0 0]}
abbrev Mv(h:aH)(led:Bool)(l:aa):aH:=(h.push (nS led)).push (nI l)
theorem Ym(a:af){Q1:af->aj->Prop}(h:Q1 (.ref s.heap.objs.size) {s with heap:=s.heap.push (nS (pO w))}):codeAny (ay prog w) A (.call (.builtin "set.__new__") ⟨[.type "set",a],[]⟩) (wants Q1 E) s:=by
 refine Ua (?_:wpAny _ A.in1 (do checkBuiltinCall "set.__new__" ⟨[.type "set",a],[]⟩;again (.builtin "set.__new__" ⟨[.type "set",a],[]⟩)) _ _ s)
 refine au (Bs (PySem.F.newCall_set_1 a) (aC ⟨gi Ub _,gK PySem.F.entry_set_new ?_⟩))
 rw[jO Ub _]
 unfold cR.«set.__new__» cR.Frozenset.newClass
 have aiI:=sub_set_self
 obtain⟨hp,g,d,tk,os⟩:=s
 dsimp only
 wp_walk
 refine IK (aC ?_)
 dsimp only
 simp only[newObj]
 exact au (wpAny_alloc (aC (aC h)))
variable{I l:aa}{Q:af->aj->Prop}{R:Result->aj->Prop}{h':aH}{i j:Nat}{items:Array af}{α:Type}
theorem IL(P:aH->Prop)(hl:s.heap.IsList l items)(loop:∀(R:Result->aj->Prop),(∀h' tk,P h'->(∀b o,b<s.heap.objs.size->s.heap.get? b=some o->h'.get? b=some o)->R (.ok (.ret .none)) {s with heap:=h',toks:=tk})->codeAny (ay prog w) A.in1.in1 (.builtin "set.update.loop" ⟨[.ref s.heap.objs.size,.ref (s.heap.push (nS (pO w))).objs.size],[]⟩) R {s with heap:=Mv s.heap (pO w) l})(h:∀h' tk,P h'->(∀b o,b<s.heap.objs.size->s.heap.get? b=some o->h'.get? b=some o)->Q (.ref s.heap.objs.size) {s with heap:=h',toks:=tk}):
  wpAny (ay prog w) A (call (.type "set") [.ref l]) Q E s:=by
 obtain⟨c0,tl0,an8⟩:=mK.mro
 have alY:=mK.made
 have aiI:=mK.sub
 refine zS (Ua (?_:wpAny _ _ (callAny (.type "set") _) _ _ _))
 refine aC ⟨Code.quiet_builtin _ (by decide+kernel),gK PySem.F.entry_type_call ?_⟩
 rw[dr.under_plain (weight_type_call_type "set" [.ref l] []) rfl]
 have no0:=mK.notType
 have an9:=mK.canCreate
 have an':=PySem.F.typeCall_set_1 (.ref l)
 repeat(any_goals(first|assumption|wp_step))
 refine qG (Ym (.ref l) (E:=E) (Q1:=λobj s1=>obj=.ref s.heap.objs.size/\s1={s with heap:=s.heap.push (nS (pO w))}) ⟨rfl,rfl⟩) λr s1 hr=>?_
 cases r with
 |error e=>exact hr
 |ok fl=>
  cases fl with
  |ret obj=>
   obtain⟨rfl,rfl⟩:=hr
   have gS:(s.heap.push (nS (pO w))).get? s.heap.objs.size=some (nS (pO w)):=cU _ rfl
   have tS:v9 {s with heap:=s.heap.push (nS (pO w))} (.ref s.heap.objs.size) "set":=⟨_,gS,rfl⟩
   have lk0:=mK.init.lookup
   have bd0:=mK.init.bind (.ref s.heap.objs.size)
   repeat(any_goals(first|assumption|wp_step))
   refine qG (Uc (R:=wants (λr s2=>r=.none/\∃h' tk,s2={s with heap:=h',toks:=tk}/\P h'/\(∀b o,b<s.heap.objs.size->s.heap.get? b=some o->h'.get? b=some o)) E) mK.init.plain PySem.F.entry_set_init (check_set_init_1 tS ?_)) λr2 s2 WO=>?_
   ·obtain⟨ol,Xk,N2,nl,ZL⟩:=hl
    obtain⟨apZ,agz,anc,ac9⟩:=ol
    simp only at N2 ZL
    subst N2;subst ZL
    have gl:(s.heap.push (nS (pO w))).get? l=some {cls:=.type "list",dict:=agz,data:=.seq items nl,slots:=ac9}:=bQ _ Xk
    have sl1:=PySem.F.sub_list_set
    have sl2:=PySem.F.sub_list_frozenset
    have ne0:(dI "list"==dI "dict")=false:=by decide
    have Kr:(s.heap.push (nS (pO w))).IsList l items:=⟨_,gl,rfl,nl,rfl⟩
    unfold cR.«set.__init__» noKeywords cR.Frozenset.updateFrom
    generalize hPI:qz=PI
    wp_walk
    subst hPI
    refine zK Kr (au (wpAny_runValue (loop _ λh' tk hp kp=>?_)))
    refine(?_:wpAny _ _ _ _ _ _)
    refine aC (?_:wpAny _ _ (ret eh) _ _ _)
    exact aC ⟨rfl,h',tk,rfl,hp,kp⟩
   ·cases r2 with
    |error e=>exact WO
    |ok f2=>
     cases f2 with
     |ret r=>
      obtain⟨rfl,h',tk,rfl,hp,kp⟩:=WO
      repeat(any_goals(first|assumption|wp_step))
      exact h _ _ hp kp
     |_=>exact WO.elim
  |_=>exact hr.elim
section
variable{K:Type} [DecidableEq K]{ek:EK prog w K}
theorem Ni(t:String)(h:t≠"tuple"):dI t≠dI "tuple":=λe=>by injection e with e;exact h e
theorem Ud(led:Bool):tM (A8 0 0 led) 0:=⟨⟨3,rfl,aV _⟩,rfl,By,λj hj=>by simp[A8]at hj,rfl,bI _⟩
theorem xA(k:∀b o,b≠I->b≠a->h.get? b=some o->h'.get? b=some o)(hI:∀o,h.get? I=some o->o.cls≠.type "tuple")(ha:∀o,h.get? a=some o->o.cls≠.type "tuple"):rS h h':=λb o e c=>by
 by_cases h1:b=I
 ·subst h1;exact absurd c (hI o e)
 ·by_cases h2:b=a
  ·subst h2;exact absurd c (ha o e)
  ·exact k b o h1 h2 e
theorem v_(x:h.IsListIter I l j):∀o,h.get? I=some o->o.cls≠.type "tuple":=λo e=>by
 obtain⟨o',h1,h2,_⟩:=x
 rw[e]at h1
 obtain rfl:=bO h1
 rw[h2];exact Ni _ dd
theorem Ko.not{S:K->Prop}{N:Nat}(x:Ko ek h a S N):∀o,h.get? a=some o->o.cls≠.type "tuple":=λo e=>by
 obtain⟨es,ep,t,h1,_⟩:=x
 rw[e]at h1
 obtain rfl:=bO h1
 exact Ni _ dd
theorem Ko.Nj{S:K->Prop}{N:Nat}(x:Ko ek h a S N)(hI:∀o,h.get? I=some o->o.cls≠.type "tuple")(ha:a≠I)(k:∀b o,b≠I->h.get? b=some o->h'.get? b=some o):Ko ek h' a S N:=by
 have kt:=xA (λb o h1 _ e=>k b o h1 e) hI x.not
 obtain⟨es,ep,t,ho,D,l1,l2⟩:=x
 exact⟨es,ep,t,k _ _ ha ho,D.keep kt,l1,l2⟩
theorem OT(hu:A.units+1<cp){val:Nat->K}(hh:A.handled=none)(hlI:l≠I)(haI:a≠I)(N6:a≠l){N:Nat}(hN:items.size<=N)(hN2:N<100000)(fuel:∀(h:aH)(S:K->Prop)(es:Array (Int×af))(t:aI)(hsh:Int)(M:Nat),(∀k,S k->∃i,i<items.size/\val i=k)->SD ek h es t S->es.size<=N->FF t es.size hsh M->left t es hsh 0 M<100000):
  ∀(m j:Nat)(s:aj),items.size=j+m->s.heap.IsListIter I l j/\s.heap.IsList l items->Ko ek s.heap a (λk=>∃i,i<j/\val i=k) j->(∀i v,items[i]?=some v->ek.at_ s.heap (val i) v)->(∀h' tk,Ko ek h' a (λk=>∃i,i<items.size/\val i=k) items.size->(∀b o,b≠I->b≠a->s.heap.get? b=some o->h'.get? b=some o)->R (.ok (.ret .none)) {s with heap:=h',toks:=tk})->codeAny (ay prog w) A (.builtin "set.update.loop" ⟨[.ref a,.ref I],[]⟩) R s:=by
 have W:=GP (prog:=prog) (w:=w) (A:=A.in1) hh I l hlI items
 intro m
 induction m with
 |zero=>
  intro j s hj st hS kf hR
  have ej:j=items.size:=by omega
  subst ej
  refine gK Ue ?_
  rw[jO IM _]
  refine au (W.done s _ _ st λh' tk kp=>?_)
  refine aC (hR h' tk ?_ λb o hb _ e=>kp b o (by simpa using hb) e)
  exact hS.Nj (v_ st.1) haI λb o hb e=>kp b o (by simpa using hb) e
 |succ m ih=>
  intro j s hj st hS kf hR
  refine gK Ue ?_
  rw[jO IM _]
  refine au (W.item j s _ _ oo st λv h1 N3 hv lE kp=>?_)
  have kp:∀b o,b≠I->s.heap.get? b=some o->h1.get? b=some o:=λb o hb e=>kp b o (by simpa using hb) e
  have S1:=hS.Nj (v_ st.1) haI kp
  have kt1:=xA (a:=a) (λb o h1 _ e=>kp b o h1 e) (v_ st.1) hS.not
  refine au (fj (abL (s:={s with heap:=h1,toks:=N3}) hu S1 (ek.keep (kf j v hv) kt1) oo (λes t hsh M D hn F=>fuel _ _ es t hsh M (λk⟨i,hi,e⟩=>⟨i,by omega,e⟩) D oo F) λh2 N7 b kp2 sz2 S2=>?_))
  have kt2:=xA (I:=I) (λb o _ h2 e=>kp2 b o h2 e) (v_ lE.1) S1.not
  refine aC ⟨gi IM _,ih (j+1) _ oo (W.frame _ _ _ lE λb hb o e=>kp2 b o ?_ e) ?_ (λi v hi=>ek.keep (ek.keep (kf i v hi) kt1) kt2) λh3 tk3 S3 kp3=>?_⟩
  ·intro z
   subst z
   simp at hb
   rcases hb with hb|hb
   ·exact haI hb
   ·exact N6 hb
  ·obtain⟨es,ep,t,y1,y2,y3,y4⟩:=S2
   refine⟨es,ep,t,y1,y2.congr λk=>?_,y3,y4⟩
   constructor
   ·rintro(⟨i,h1,h2⟩|rfl)
    ·exact⟨i,by omega,h2⟩
    ·exact⟨j,by omega,rfl⟩
   ·rintro⟨i,h1,h2⟩
    rcases k8 (T6.mp h1)with z|rfl
    ·exact .inl ⟨i,z,h2⟩
    ·exact .inr h2.symm
  ·exact hR h3 tk3 S3 λb o ZI hba e=>kp3 b o ZI hba (kp2 b o hba (kp b o ZI e))
end
section
variable{K:Type} [DecidableEq K]{ek:EK prog w K}
theorem Yn(ho:h.get? a=some (nS (pO w))):Ko ek h a (λk=>∃i,i<0/\(λ_=>k) i=k) 0:=by
 refine⟨_,_,_,ho,⟨Ud _,rfl,rfl,λe he=>by simp[A8]at he,λe he=>by simp at he,λk⟨i,hi,_⟩=>absurd hi (jV _),By⟩,(by show 0*5<7*3;decide),bI _⟩
theorem ym(hu:A.units+3<cp)(hh:A.handled=none){val:Nat->K}(hl:s.heap.IsList l items)(kf:∀i v,items[i]?=some v->ek.at_ s.heap (val i) v)(hN:items.size<100000)(fuel:∀(h:aH)(S:K->Prop)(es:Array (Int×af))(t:aI)(hsh:Int)(M:Nat),(∀k,S k->∃i,i<items.size/\val i=k)->SD ek h es t S->es.size<=items.size->FF t es.size hsh M->left t es hsh 0 M<100000)(h:∀h' tk,Ko ek h' s.heap.objs.size (λk=>∃i,i<items.size/\val i=k) items.size->(∀b o,s.heap.get? b=some o->h'.get? b=some o)->Q (.ref s.heap.objs.size) {s with heap:=h',toks:=tk}):
  wpAny (ay prog w) A (call (.type "set") [.ref l]) Q E s:=by
 refine IL (λh'=>Ko ek h' s.heap.objs.size (λk=>∃i,i<items.size/\val i=k) items.size) hl (λR hR=>?_) λh' tk hp kp=>h h' tk hp λb o e=>kp b o (ba e) e
 have hls:l<s.heap.objs.size:=by obtain⟨o,ho,_⟩:=hl;exact ba ho
 have sz1:(s.heap.push (nS (pO w))).objs.size=s.heap.objs.size+1:=eW _ _
 have g0:(Mv s.heap (pO w) l).get? s.heap.objs.size=some (nS (pO w)):=bQ _ (cU _ rfl)
 have up:∀b o,s.heap.get? b=some o->(Mv s.heap (pO w) l).get? b=some o:=λb o e=>bQ _ (bQ _ e)
 refine OT (ek:=ek) (A:=A.in1.in1) (val:=val) (N:=items.size) (by simpa using hu) (by simpa using hh) (by rw[sz1];exact bS (i7 hls)) (by rw[sz1];exact bS (uO _)) (iW hls) (aV _) hN fuel items.size 0 _ (dE _).symm ⟨⟨_,cU _ rfl,rfl,rfl⟩,(hl.push _).push _⟩ ?_ (λi v hi=>ek.keep (kf i v hi) λb o e _=>up b o e) λh' tk S kp=>hR h' tk S λb o hb e=>kp b o (by rw[sz1];exact bS (i7 hb)) (bS hb) (up b o e)
 obtain⟨es,ep,t,y1,y2,y3,y4⟩:=Yn (ek:=ek) g0
 exact⟨es,ep,t,y1,y2.congr λk=>⟨λ⟨i,hi,_⟩=>absurd hi (jV _),λ⟨i,hi,_⟩=>absurd hi (jV _)⟩,y3,y4⟩
end
theorem IP{α:Type}:∀(l:List α)(i:Nat)(h:i<l.length),(l[i]::l.eraseIdx i).Perm l
 |[],i,h=>absurd h (jV _)
 |x::l,0,h=>vL _
 |x::l,i+1,h=>by
  show(l[i]'(by simpa using h)::x::l.eraseIdx i).Perm (x::l)
  exact(Am _ _ _).trans ((IP l i (by simpa using h)).cons x)
theorem Nk{α:Type}(next:Nat->Nat):∀(f k:Nat)(left:List α)(out:Array α),left.length=f->(IQ next f k left out).toList.Perm (out.toList++left)
 |0,k,left,out,h=>by
  have:=my.mp h
  subst this
  unfold IQ
  rw[cW]
 |f+1,k,left,out,h=>by
  unfold IQ
  have hl:next k %left.length<left.length:=eB _ oo
  rw[bT hl]
  dsimp only
  refine(Nk next f (k+1) _ _ (by rw[List.length_eraseIdx_of_lt hl];omega)).trans ?_
  rw[T7,gz]
  exact(vL _).append (IP left _ hl)
theorem OU(next:Nat->Nat)(xs:Array α):(wb next xs).toList.Perm xs.toList:=by
 have:=Nk next xs.size 0 xs.toList #[] (by simp)
 unfold wb
 simpa using this
def fw(w:bC)(a:aa)(ep:Nat)(es:Array (Int×af)):Array (Int×af):=if w.params.followText "set-order"=true then wb (w.params.setOrder a ep) es else es
theorem iC(w:bC)(a:aa)(ep:Nat)(es:Array (Int×af)):(fw w a ep es).toList.Perm es.toList:=by
 unfold fw
 split
 ·exact OU _ _
 ·exact vL _
theorem gw(w:bC)(a:aa)(ep:Nat)(es:Array (Int×af)):(fw w a ep es).size=es.size:=by
 have:=(iC w a ep es).length_eq
 simpa using this
namespace SF
theorem slot_next:Slot "set_iterator" "__next__" "set_iterator.__next__":=
 .of (owner:="set_iterator") (n:="__next__") (by rw[Bz,BB];kernel_rfl) (by decide+kernel) (by decide+kernel) (by decide+kernel) (by first|exact .inl (by decide+kernel)|exact .inr (by decide+kernel)) (by rw[BC];kernel_rfl)
theorem entry_next:Af table "set_iterator.__next__"=some cR.«set_iterator.__next__»:=RP (by kernel_rfl)
theorem args_next(a:af):rQ "set_iterator.__next__" ⟨[a],[]⟩:=by unfold rQ;kernel_rfl
theorem Lg:Af table "set.__iter__"=some cR.«frozenset.__iter__»:=
 entryFor_alias (id':="frozenset.__iter__") (by kernel_rfl) rfl (by decide+kernel) (by kernel_rfl)
theorem Nl:Slot "set_iterator" "__iter__" "set_iterator.__iter__":=
 .of (owner:="set_iterator") (n:="__iter__") (by rw[Bz,BB];kernel_rfl) (by decide+kernel) (by decide+kernel) (by decide+kernel) (by first|exact .inl (by decide+kernel)|exact .inr (by decide+kernel)) (by rw[BC];kernel_rfl)
theorem Ug:Af table "set_iterator.__iter__"=some cR.«dict_keyiterator.__iter__»:=
 entryFor_alias (id':="dict_keyiterator.__iter__") (by kernel_rfl) rfl (by decide+kernel) (by kernel_rfl)
theorem Yo(a:af):rQ "set_iterator.__iter__" ⟨[a],[]⟩:=by unfold rQ;kernel_rfl
end SF
abbrev BD(slot i:Nat)(a:aa)(n ep:Nat):aG:={cls:=.type "set_iterator",dict:=none,data:=.fields #[oj slot,oj i,.ref a,oj n,oj ep],slots:=#[]}
def Lh(w:bC)(t:aI)(i slot:Nat):Prop:=w.params.followText "set-order"=true\/fb t.place slot=i
def Yp(w:bC)(h:aH)(I a:aa)(i:Nat)(es:Array (Int×af))(ep:Nat)(t:aI):Prop:=(∃slot,h.get? I=some (BD slot i a es.size ep)/\Lh w t i slot)/\h.get? a=some (ko es ep t)
theorem xB{Q:Bool->aj->Prop}(h:Q (w.params.followText "set-order") s):wpAny (ay prog w) A setsByText Q E s:=by
 unfold setsByText
 exact au (IK (aC h))
theorem Li{t:aI}(ho:s.heap.get? a=some (ko es ep t))(T:tM t es.size)(pl:t.plain=true)(led:t.led=pO w){slot:Nat}(hs:Lh w t i slot){Q:Option (af×Nat)->aj->Prop}(h1:∀x Z_,(fw w a ep es)[i]?.map (·.2)=some x->Lh w t (i+1) Z_->Q (some (x,Z_)) s)(h2:(fw w a ep es)[i]?=none->Q none s):wpAny (ay prog w) A (setNext a slot i ep) Q E s:=by
 unfold setNext
 refine au (mJ ho rfl T.fits ?_)
 dsimp only
 refine au (xB ?_)
 by_cases hb:w.params.followText "set-order"=true
 ·rw[ax hb]
  simp only[qp,dO,cn]
  unfold setWalk
  refine au (au (mJ ho rfl T.fits ?_))
  dsimp only
  refine au (xB ?_)
  rw[ax hb]
  refine au (IK (aC (aC ?_)))
  have e:wb (w.params.setOrder a ep) es=fw w a ep es:=by unfold fw;rw[ax hb]
  show Q (S_ (λe=>(e.snd,slot)) (wb (w.params.setOrder a ep) es)[i]?) s
  rw[e]
  cases hx:(fw w a ep es)[i]?with
  |none=>exact h2 hx
  |some x=>exact h1 x.2 slot (by rw[hx];rfl) (.inl hb)
 ·rw[aq hb]
  have hb:w.params.followText "set-order"=false:=by simpa using hb
  split
  ·rename_i hd
   have hd:(!t.plain&&decide (es.size>1))=true:=hd
   rw[pl]at hd
   cases hd
  ·refine au (m:=(do if(!t.led&&!es.isEmpty)=true then unsupported "set:maker-not-led":aJ Unit)) ?_
   have aiK:t.led=true:=by rw[led];show(!w.params.followText "set-order")=true;rw[hb];rfl
   rw[aiK]
   simp only[rH,v8,jD,dO,cn]
   refine aC (aC ?_)
   have e:fw w a ep es=es:=by unfold fw;rw[aq (by rw[hb];exact dv)]
   rw[e]at h1 h2
   rcases hs with hs|hs
   ·rw[hb]at hs;cases hs
   ·rw[hs]
    cases hx:es[i]?with
    |none=>exact h2 hx
    |some x=>
     have hi:i<t.place.size:=by rw[T.size];exact(mF.mp hx).1
     rw[g7 hi]
     exact h1 x.2 _ (by rw[hx];rfl) (.inr (KS T.rise hi))
end Bt
namespace Bt
open PySem
open PyProof.Rows.G (KeepsTups)
variable{A:dr}{E Q:af->aj->Prop}{I a:aa}{M:Model}{ep i:Nat}{es:Array (Int×af)}{prog:cQ}{s:aj}{w:bC}{α:Type}
theorem Nm(hh:A.handled=none){t:aI}(st:Yp w s.heap I a i es ep t)(qh:a≠I)(T:tM t es.size)(pl:t.plain=true)(led:t.led=pO w){Q:Option af->aj->Prop}(h1:∀x h',(fw w a ep es)[i]?.map (·.2)=some x->Yp w h' I a (i+1) es ep t->(∀b o,b≠I->s.heap.get? b=some o->h'.get? b=some o)->Q (some x) {s with heap:=h'})(h2:∀h',(fw w a ep es)[i]?=none->(∀b o,b≠I->s.heap.get? b=some o->h'.get? b=some o)->Q none {s with heap:=h'}):
  wpAny (ay prog w) A (oi (.ref I)) Q E s:=by
 obtain⟨⟨slot,hI,hs⟩,ho⟩:=st
 have tI:s.TypeIs (.ref I) "set_iterator":=⟨_,hI,rfl⟩
 unfold oi
 refine au (wpAny_attempt (wpAny_callSpecial?_slot (name:=IH "__next__") tI SF.slot_next (qt SF.slot_next tI SF.entry_next ?_ (SF.args_next _))))
 unfold cR.«set_iterator.__next__»
 refine au (m:=slotArgs "__next__" 0 _) (aC ?_)
 refine au (wpAny_fieldsOf hI rfl ?_)
 show wpAny _ _ (setEntries a>>=_) _ _ _
 refine au (Uh ho rfl T.fits ?_)
 dsimp only
 simp only[qp,dO,cn]
 show wpAny _ _ (setNext a ((slot:Int)).toNat ((i:Int)).toNat ((ep:Int)).toNat>>=_) _ _ _
 rw[jK,jK,jK]
 refine au (Li ho T pl led hs (λx slot1 hx Kc=>?_) λhx=>?_)
 ·dsimp only
  refine au (IS hI (by simp) λha ga sa=>?_)
  refine au (IS (s:={s with heap:=ha}) ga (by simp) λhb gb sb=>?_)
  have kp:∀b o,b≠I->s.heap.get? b=some o->hb.get? b=some o:=λb o ZI e=>by rw[sb.2 b ZI,sa.2 b ZI];exact e
  refine aC ⟨x,rfl,aC (h1 x hb hx ⟨⟨slot1,?_,Kc⟩,kp a _ qh ho⟩ kp)⟩
  exact gb
 ·dsimp only
  refine au (IS hI (by simp) λha ga sa=>?_)
  show wpAny _ _ (newExc (.type "StopIteration") []>>=_) _ _ _
  refine au ?_
  simp only[newExc,newTuple]
  refine au (oF ?_ (by size_fits))
  refine au (m:=firstArgMember _ _) (Bs (a:=eh) (by first|rfl|(simp only[firstArgMember];rfl)) ?_)
  refine oF ?_ (by size_fits)
  simp only[raiseNew]
  refine au (wpAny_handled ?_)
  rw[show A.in1.handled=none from hh]
  refine au (aC (wpAny_throw ?_))
  refine au (BE (T:="StopIteration") (b:=true) ⟨_,cU _ rfl,rfl⟩ isSubtype_stop ?_)
  exact aC (h2 _ hx λb o ZI e=>bQ _ (bQ _ ((sa.2 b ZI).trans e)))
theorem OV(hh:A.handled=none){t:aI}(qh:a≠I)(T:tM t es.size)(pl:t.plain=true)(led:t.led=pO w):
  Walks prog w A I [I,a] [I] es.size (λi v=>(fw w a ep es)[i]?.map (·.2)=some v) (λi h=>Yp w h I a i es ep t)where
 sub:=λb hb=>by simp at hb;simp[hb]
 frame:=λi h h' st k=>⟨let⟨slot,e,hs⟩:=st.1;⟨slot,k I (by simp) _ e,hs⟩,k a (by simp) _ st.2⟩
 item:=λi s Q E hi st hQ=>by
  refine Nm hh st qh T pl led (λx h' hx tD kp=>hQ x h' s.toks hx tD λb o hb e=>kp b o (by simpa using hb) e) λh' hx kp=>?_
  have:=gw w a ep es
  rw[Array.getElem?_eq_none_iff]at hx
  omega
 done:=λs Q E st hQ=>by
  refine Nm hh st qh T pl led (λx h' hx tD kp=>?_) λh' hx kp=>hQ h' s.toks λb o hb e=>kp b o (by simpa using hb) e
  have:=gw w a ep es
  rw[qT oo]at hx
  cases hx
 self:=λi s Q E st hQ=>by
  obtain⟨⟨slot,hI,_⟩,_⟩:=st
  have tI:s.TypeIs (.ref I) "set_iterator":=⟨_,hI,rfl⟩
  refine Ui tI SF.Nl (qt SF.Nl tI SF.Ug (?_:wpAny _ _ (ret (.ref I)) _ _ s) (SF.Yo _))
  exact aC ⟨_,rfl,"set_iterator",_,tI,SF.slot_next.lookup,hQ⟩
theorem Uj{t:aI}(ho:s.heap.get? a=some (ko es ep t))(T:tM t es.size)(pl:t.plain=true){Q:Bool->aj->Prop}(h:Q false s):wpAny (ay prog w) A (setDrawn a) Q E s:=by
 unfold setDrawn
 refine au (mJ ho rfl T.fits ?_)
 dsimp only
 refine au (xB ?_)
 refine aC (cast (congrArg (λb=>Q b s) (?_:false=_)) h)
 show false=(!w.params.followText "set-order"&&(!t.plain&&decide (es.size>1)))
 rw[pl]
 cases w.params.followText "set-order"<;>rfl
theorem Uk{t:aI}(ho:s.heap.get? a=some (ko es ep t))(T:tM t es.size)(pl:t.plain=true)(h:Q (.ref s.heap.objs.size) {s with heap:=s.heap.push (BD 0 0 a es.size ep)}):wpAny (ay prog w) A (qz (.ref a)) Q E s:=by
 have tS:s.TypeIs (.ref a) "set":=⟨_,ho,rfl⟩
 refine Ui tS Ul (qt Ul tS SF.Lg ?_ (F.args_set_iter_1 _))
 unfold cR.«frozenset.__iter__»
 refine au (Bs (show cR.Frozenset.slot0 "__iter__" ⟨[.ref a],[]⟩=pure a from rfl) ?_)
 unfold cR.Frozenset.sizeOf
 refine au (au (Uh ho rfl T.fits (aC ?_)))
 refine au (Uj ho T pl ?_)
 simp only[dO,cn]
 refine au (aC (au (wpAny_setEpoch_of ho rfl T.fits ?_)))
 refine au (oF (aC ⟨_,rfl,"set_iterator",_,⟨_,cU _ rfl,rfl⟩,SF.slot_next.lookup,?_⟩))
 exact h
theorem Nn{c:Prop} [Decidable c]{x y:aJ α}{Q:α->aj->Prop}(hc:c)(h:wpAny M A x Q E s):wpAny M A (if c then x else y) Q E s:=by rw[ax hc];exact h
theorem CQ:splitId "set.__len__"=some ("set","__len__"):=by decide+kernel
theorem Um(tS:s.TypeIs (.ref a) "set"){Q:Bool->aj->Prop}(h:Q false s):wpAny (ay prog w) A (BF (.ref a)) Q E s:=by
 unfold BF
 refine au (n6 tS F.slot_set_len.lookup ?_)
 dsimp only
 rw[CQ]
 dsimp only
 refine au (BE tS sub_set_self ?_)
 rw[aq (show¬((!true)=true)from by decide)]
 exact Nn (by decide+kernel) (au (ma tS (aC h)))
theorem IT(hh:A.handled=none){t:aI}(ho:s.heap.get? a=some (ko es ep t))(T:tM t es.size)(pl:t.plain=true)(led:t.led=pO w)(hsz:es.size<=100000){Q:List af->aj->Prop}(h:∀h' tk,(∀b o,s.heap.get? b=some o->h'.get? b=some o)->Q ((fw w a ep es).toList.map (·.2)) {s with heap:=h',toks:=tk}):wpAny (ay prog w) A (collect (.ref a)) Q E s:=by
 unfold collect
 refine au (wpAny_runValue (gK F.entry_proto_collect ?_))
 rw[jO F.plain_proto_collect _]
 refine au (m:=Aa []) (oF ?_)
 refine aC ⟨gi Uo _,gK F.entry_list_iadd ?_⟩
 rw[jO Uo _]
 have hlt:a<s.heap.objs.size:=ba ho
 have g1:(s.heap.push {cls:=.type "list",data:=.seq #[]}).get? a=some (ko es ep t):=bQ _ ho
 have l1:(s.heap.push {cls:=.type "list",data:=.seq #[]}).get? s.heap.objs.size=some {cls:=.type "list",data:=.seq #[]}:=cU _ rfl
 have t1:v9 {s with heap:=s.heap.push {cls:=.type "list",data:=.seq #[]}} (.ref a) "set":=⟨_,g1,rfl⟩
 show wpAny _ A.in1 (BG (.ref s.heap.objs.size) (.ref a) (.ref s.heap.objs.size)) _ _ _
 unfold BG
 refine au (ma t1 ?_)
 have c1:BH (.ref s.heap.objs.size) (.ref a)=false:=by
  simp only[BH,fA]
  exact iW hlt
 rw[aq (by rw[c1];decide)]
 refine au (Uk g1 T pl ?_)
 have sz1:(s.heap.push {cls:=.type "list",data:=.seq #[]}).objs.size=s.heap.objs.size+1:=eW _ _
 have t2:v9 {s with heap:=(s.heap.push {cls:=.type "list",data:=.seq #[]}).push (BD 0 0 a es.size ep)} (.ref a) "set":=⟨_,bQ _ g1,rfl⟩
 refine au (fj (Um t2 ?_))
 split
 ·have hI:∀{h:aH},h.objs.size=s.heap.objs.size+2->True:=λ_=>trivial
  refine au (qu ?_)
  unfold cR.List.listTouch
  have q1:((s.heap.push {cls:=.type "list",data:=.seq #[]}).push (BD 0 0 a es.size ep)).get? s.heap.objs.size=some (PyProof.Rows.seqObj "list" #[] 0):=bQ _ l1
  refine au (au (rT q1 rfl ?_))
  have q2:=wc q1 (λx=>x.push eh)
  refine rT q2 rfl ?_
  have q3:=wc q2 (λx=>x.pop)
  have neI:s.heap.objs.size≠(s.heap.push {cls:=.type "list",data:=.seq #[]}).objs.size:=by rw[sz1];exact bS (uO _)
  have neA:a≠(s.heap.push {cls:=.type "list",data:=.seq #[]}).objs.size:=by rw[sz1];exact bS (i7 hlt)
  have W:=OV (prog:=prog) (w:=w) (A:=A.in1) (I:=(s.heap.push {cls:=.type "list",data:=.seq #[]}).objs.size) (ep:=ep) (by simpa using hh) neA T pl led
  have up:∀b o,b≠s.heap.objs.size->((s.heap.push {cls:=.type "list",data:=.seq #[]}).push (BD 0 0 a es.size ep)).get? b=some o->((((s.heap.push {cls:=.type "list",data:=.seq #[]}).push (BD 0 0 a es.size ep)).update s.heap.objs.size (cS λx=>x.push eh)).update s.heap.objs.size (cS λx=>x.pop)).get? b=some o:=λb o hb e=>
   (iH _ _ (cJ hb)).trans ((iH _ _ (cJ hb)).trans e)
  have st:Yp w ((((s.heap.push {cls:=.type "list",data:=.seq #[]}).push (BD 0 0 a es.size ep)).update s.heap.objs.size (cS λx=>x.push eh)).update s.heap.objs.size (cS λx=>x.pop)) (s.heap.push {cls:=.type "list",data:=.seq #[]}).objs.size a 0 es ep t:=
   ⟨⟨0,up _ _ (cJ neI) (cU _ rfl),.inr (KU T.rise)⟩,up _ _ (bS hlt) (bQ _ g1)⟩
  refine aC ⟨gi Up _,Uq W.toS (by rw[dU];omega) s.heap.objs.size ?_ _ es.size 0 _ #[] _ rfl (bI _) st q3 (Ur _) λs' P1 c' hm hS' tF=>?_⟩
  ·simp only[aY,iw,gE,iS]
   exact⟨neI,iW hlt⟩
  ·show wpAny _ A (load s.heap.objs.size>>=_) _ _ s'
   refine au (wpAny_load hS' ?_)
   have e:P1.toList=(fw w a ep es).toList.map (·.2):=by
    obtain⟨z1,z2⟩:=tF
    have:=gw w a ep es
    apply jc
    intro j
    rw[ji,bz,ji]
    by_cases hj:j<es.size
    ·have:=z2 j P1[j] (g7 oo)
     rw[this,g7 oo]
    ·rw[qT oo,qT oo];rfl
   obtain⟨h',g',d',Xg,os'⟩:=s'
   have eg:g'=s.gens:=hm.gens
   have ed:d'=s.drawn:=hm.drawn
   have eo:os'=s.os:=hm.os
   subst eg ed eo
   refine aC ?_
   show Q P1.toList _
   rw[e]
   refine h h' Xg λb o hb=>hm.heap b o ?_ (up b o (bS (ba hb)) (bQ _ (bQ _ hb)))
   simp only[aY,iw,gE,iS]
   exact⟨bS (ba hb),by rw[sz1];exact bS (i7 (ba hb))⟩
 ·rename_i z
  exact absurd (by decide+kernel) z
end Bt
namespace Bt
open PySem
open PyProof.Rows.G (KeepsTups)
open PyProof.Rows (seqObj sortedHeap)
variable{A:dr}{E Q:af->aj->Prop}{a:aa}{ep n:Nat}{es:Array (Int×af)}{h:aH}{prog:cQ}{s:aj}{vs:List af}{w:bC}
theorem sortedHeap_at{p:aa}(hp:h.get? p=some (b8 "list" vs.toArray n))(out:Array af):
  (∃n',(wd h p vs out).get? p=some (b8 "list" out n'))/\∀b o,b≠p->h.get? b=some o->(wd h p vs out).get? b=some o:=by
 unfold wd
 have hlt:=ba hp
 obtain⟨e1,q1⟩:∃e1,(h.update p (cS λ_=>#[])).get? p=some (b8 "list" #[] e1):=⟨_,wc hp λ_=>#[]⟩
 have q2:(((h.update p (cS λ_=>#[])).push (b8 "tuple" vs.toArray 0)).push (b8 "list" #[] 0)).get? p=some (b8 "list" #[] e1):=bQ _ (bQ _ q1)
 refine⟨⟨_,wc q2 λ_=>out⟩,λb o hb e=>?_⟩
 refine(iH _ _ (cJ hb)).trans (bQ _ (bQ _ ((iH _ _ (cJ hb)).trans e)))
theorem BI(hh:A.handled=none){t:aI}(ho:s.heap.get? a=some (ko es ep t))(T:tM t es.size)(pl:t.plain=true)(led:t.led=pO w)(hsz:es.size<=100000)(G:Array af->Prop)(sort:∀(B:dr)(E2:af->aj->Prop)(s2:aj)(p:aa)(P:Fin->aj->Prop),s2.heap.get? p=some (b8 "list" ((fw w a ep es).toList.map (·.2)).toArray 0)->(∀b o,s.heap.get? b=some o->s2.heap.get? b=some o)->(∀out,G out->P (.done (.ret .none)) {s2 with heap:=wd s2.heap p ((fw w a ep es).toList.map (·.2)) out})->wpAny (ay prog w) B (cR.«list.sort» ⟨[.ref p],[]⟩) P E2 s2)(h:∀(p:aa)(out:Array af)(n:Nat)(h':aH)(tk:Nat),G out->a<p->h'.get? p=some (b8 "list" out n)->(∀b o,s.heap.get? b=some o->h'.get? b=some o)->Q (.ref p) {s with heap:=h',toks:=tk}):
  wpAny (ay prog w) A (call (.builtin "sorted") [.ref a]) Q E s:=by
 refine Us Ut Uu Uv (Uw _) ?_
 unfold cR.«sorted»
 refine au (m:=checkCount "sorted" 1 1 _) (aC ?_)
 refine au (IT (by simpa using hh) ho T pl led hsz λh1 tk k1=>?_)
 refine au (IU (hsz:=by rw[aA,dj,gw,dU];omega) ?_)
 have hp:(h1.push (b8 "list" ((fw w a ep es).toList.map (·.2)).toArray 0)).get? h1.objs.size=some (b8 "list" ((fw w a ep es).toList.map (·.2)).toArray 0):=cU _ rfl
 have k2:∀b o,s.heap.get? b=some o->(h1.push (b8 "list" ((fw w a ep es).toList.map (·.2)).toArray 0)).get? b=some o:=λb o e=>bQ _ (k1 b o e)
 refine au (fj (qt Ux ⟨_,hp,rfl⟩ Uy (sort _ _ _ _ _ hp k2 λout hg=>⟨_,rfl,?_⟩) (Uz _)))
 obtain⟨⟨n',z1⟩,z2⟩:=sortedHeap_at hp out
 exact aC ⟨_,rfl,h h1.objs.size out n' _ tk hg (ba (k1 a _ ho)) z1 λb o e=>z2 b o (bS (ba (k1 b o e))) (k2 b o e)⟩
end Bt
namespace Bt
open PySem
open PyProof.Rows.G (KeepsTups)
variable{A:dr}{E:af->aj->Prop}{es:Array (Int×af)}{h h':aH}{prog:cQ}{s:aj}{v:af}{vs:List af}{w:bC}
section
def Lj(p:Nat×Nat):List Int:=[(p.1:Int),(p.2:Int)]
theorem IV{p q:Nat×Nat}(h:Lj p=Lj q):p=q:=by
 unfold Lj at h
 injection h with h1 h2
 injection h2 with h2 _
 exact rE oo oo
def m9(prog:cQ)(w:bC)(B:aa->Nat×Nat->Prop)(h:aH)(p:Nat×Nat)(v:af):Prop:=(∃a,v=.ref a/\B a p/\IsTupleKey (intKind prog w) h (Lj p) a)/\Z3 p.1/\Z3 p.2
variable{B:aa->Nat×Nat->Prop}
theorem m9.keep{p:Nat×Nat}(x:m9 prog w B h p v)(k:rS h h'):m9 prog w B h' p v:=by
 obtain⟨⟨a,rfl,b,o,its,n,ho,hc,hd,hi⟩,m⟩:=x
 exact⟨⟨a,rfl,b,o,its,n,k a o ho hc,hc,hd,hi⟩,m⟩
theorem sV{x y:Int}(h:ItemsAre (intKind prog w) [x,y] vs):∃t u,vs=[.int x t,.int y u]:=by
 cases h with
 |cons h1 h2=>
  cases h2 with
  |cons h3 h4=>
   cases h4
   obtain⟨t,rfl⟩:=FP h1
   obtain⟨u,rfl⟩:=FP h3
   exact⟨t,u,rfl⟩
theorem m9.byv{p:Nat×Nat}(x:m9 prog w B s.heap p v){Q:Bool->aj->Prop}(h:Q true s):wpAny (ay prog w) A (vY 8 v) Q E s:=by
 obtain⟨⟨a,rfl,_,hk⟩,_⟩:=x
 have hT:=hk.typeIs
 obtain⟨o,its,n,ho,hc,hd,hi⟩:=hk
 obtain⟨t,u,e⟩:=sV hi
 have e:its=#[.int (p.1:Int) t,.int (p.2:Int) u]:=by rw[<-we (xs:=its),e]
 subst e
 unfold vY
 refine au (n6 hT F.slot_tuple_hash.lookup ?_)
 refine(?_:wpAny _ _ (IW (.ref a)>>=_) _ _ _)
 refine au (vh ho hd ?_)
 refine au (?_:wpAny _ _ (forIn #[eL (p.1:Int) t,eL (p.2:Int) u] _ _) _ _ _)
 rw[<-UA]
 refine BJ _ (λrest(r:Option Bool×Unit)s'=>r.1=none/\s'=s/\∀v∈rest,∃k t,v=eL k t) _ ?_ ?_ _ _ ⟨rfl,rfl,λv hv=>?_⟩
 ·rintro v rest r s' ⟨hr,rfl,hv⟩
  obtain⟨k,t',rfl⟩:=hv v (.head _)
  have:vY 7 (.int k t')=pure true:=rfl
  rw[this]
  exact au (aC (aC ⟨rfl,rfl,λv tE=>hv v (.tail _ tE)⟩))
 ·rintro⟨r1,r2⟩ s' ⟨hr,rfl,_⟩
  cases hr
  exact aC h
 ·simp at hv
  rcases hv with rfl|rfl
  ·exact⟨_,_,rfl⟩
  ·exact⟨_,_,rfl⟩
theorem m9.Np{p:Nat×Nat}(x:m9 prog w B s.heap p v){Q:Bool->aj->Prop}(h:Q false s):wpAny (ay prog w) A (IX 8 v) Q E s:=by
 obtain⟨⟨a,rfl,_,hk⟩,_⟩:=x
 have hT:=hk.typeIs
 obtain⟨o,its,n,ho,hc,hd,hi⟩:=hk
 obtain⟨t,u,e⟩:=sV hi
 have e:its=#[.int (p.1:Int) t,.int (p.2:Int) u]:=by rw[<-we (xs:=its),e]
 subst e
 unfold IX
 refine au (ma hT ?_)
 refine(?_:wpAny _ _ (if("tuple"=="tuple")=true then _ else _) _ _ _)
 rw[ax dd]
 refine au (aC ?_)
 refine(?_:wpAny _ _ (IW (.ref a)>>=_) _ _ _)
 refine au (vh ho hd ?_)
 refine au (?_:wpAny _ _ (forIn #[eL (p.1:Int) t,eL (p.2:Int) u] _ _) _ _ _)
 rw[<-UA]
 refine BJ _ (λrest(r:Option Bool×Unit)s'=>r.1=none/\s'=s/\∀v∈rest,∃k t,v=eL k t) _ ?_ ?_ _ _ ⟨rfl,rfl,λv hv=>?_⟩
 ·rintro v rest r s' ⟨hr,rfl,hv⟩
  obtain⟨k,t',rfl⟩:=hv v (.head _)
  have:IX 7 (.int k t')=pure false:=rfl
  rw[this]
  exact au (aC (aC ⟨rfl,rfl,λv tE=>hv v (.tail _ tE)⟩))
 ·rintro⟨r1,r2⟩ s' ⟨hr,rfl,_⟩
  cases hr
  exact aC h
 ·simp at hv
  rcases hv with rfl|rfl
  ·exact⟨_,_,rfl⟩
  ·exact⟨_,_,rfl⟩
theorem m9.quiet{p:Nat×Nat}(x:m9 prog w B s.heap p v){Q:Bool->aj->Prop}(h:Q true s):wpAny (ay prog w) A (eqIsQuiet 8 v) Q E s:=by
 obtain⟨⟨a,rfl,_,hk⟩,_⟩:=x
 exact wpAny_eqIsQuiet_tuple hk h
theorem m9.Bu{p:Nat×Nat}{l:List af}(x:m9 prog w B s.heap p v)(hl:∀y∈l,∃q,m9 prog w B s.heap q y){Q:Bool->aj->Prop}(h:Q false s):wpAny (ay prog w) A (vZ v l) Q E s:=by
 unfold vZ
 refine au ?_
 refine BJ _ (λrest(r:Option Bool×Unit)s'=>r.1=none/\s'=s/\∀y∈rest,∃q,m9 prog w B s.heap q y) _ ?_ ?_ _ _ ⟨rfl,rfl,hl⟩
 ·rintro y rest r s' ⟨hr,rfl,hv⟩
  obtain⟨q,hy⟩:=hv y (.head _)
  have tl:∀y∈rest,∃q,m9 prog w B s'.heap q y:=λy hy=>hv y (.tail _ hy)
  obtain⟨c,rfl⟩:∃c,v=.ref c:=x.1.imp λ_ z=>z.1
  obtain⟨d,rfl⟩:∃d,y=.ref d:=hy.1.imp λ_ z=>z.1
  dsimp only
  by_cases PU:((c==d)||(BK (.ref c)&&BK (.ref d)))=true
  ·rw[ax PU]
   exact aC ⟨rfl,rfl,tl⟩
  ·rw[aq PU]
   refine au (x.quiet ?_)
   simp only[v8,dO,cn]
   refine au (hy.quiet ?_)
   simp only[v8,dO,cn]
   refine au (x.Np ?_)
   simp only[dO,cn]
   refine au (hy.Np ?_)
   simp only[dO,cn]
   exact aC ⟨rfl,rfl,tl⟩
 ·rintro⟨r1,r2⟩ s' ⟨hr,rfl,_⟩
  cases hr
  exact aC h
def EJ(prog:cQ)(w:bC)(B:aa->Nat×Nat->Prop):EK prog w (Nat×Nat)where
 at_:=m9 prog w B
 hash:=rF
 inj:=λ{h v a b}x y=>by
  obtain⟨⟨c,rfl,_,hx⟩,_⟩:=x
  obtain⟨⟨d,e,_,hy⟩,_⟩:=y
  injection e with e
  subst e
  exact IV (hx.inj hy)
 keep:=λx k=>x.keep k
 pyHash:=λ{A E s k v Q}hu x h=>by
  obtain⟨⟨c,rfl,_,hx⟩,_⟩:=x
  exact wpAny_pyHash_tuple hu hx (h _)
 eqBool:=λ{A E s a b u v Q}hu x y h=>by
  obtain⟨⟨c,rfl,_,hx⟩,_⟩:=x
  obtain⟨⟨d,rfl,_,hy⟩,_⟩:=y
  refine wpAny_eqBool_tuple hu hx hy ?_
  have:decide (Lj a=Lj b)=decide (a=b):=by
   by_cases q:a=b
   ·subst q;simp
   ·rw[fG q,fG λz=>q (IV z)]
  rw[this];exact h
 same:=λ{A E s k v Q}x h=>by
  obtain⟨⟨c,rfl,_,hx⟩,_⟩:=x
  exact wpAny_isSame_ref_self h
 byv:=λx h=>x.byv h
 Bu:=λx hl h=>x.Bu hl h
 scan:=λ{A E s a o es ep t k v Q}x _ _ _ _ hb _ _=>by
  obtain⟨⟨c,rfl,_,hx⟩,_⟩:=x
  have:byScan (.ref c) es=false:=by simp[byScan,af.scannable]
  rw[this]at hb;cases hb
theorem OW{S:Nat×Nat->Prop}{t:aI}{hsh:Int}{M:Nat}(D:SD (EJ prog w B) h es t S)(F:FF t es.size hsh M):left t es hsh 0 M<100000:=by
 have ex:∀i,∃k:Nat×Nat,∀(hi:i<es.size),m9 prog w B h k es[i].2/\es[i].1=rF k:=λi=>by
  by_cases hi:i<es.size
  ·obtain⟨k,_,h1,h2⟩:=D.el es[i] (by simp)
   exact⟨k,λ_=>⟨h1,h2⟩⟩
  ·exact⟨(0,0),λz=>absurd z hi⟩
 let key:=λi=>Te (ex i)
 have PV:∀i(hi:i<es.size),m9 prog w B h (key i) es[i].2/\es[i].1=rF (key i):=λi=>Tf (ex i)
 clear_value key
 have tj:t.place.size=es.size:=D.T.size
 let L:=(aE es.size).filter λi=>(es[i]?.map (·.1)).getD 0==hsh
 have hL:∀i∈L,∃hi:i<es.size,es[i].1=hsh:=λi hi=>by
  obtain⟨h1,h2⟩:=bH.mp hi
  have h1:=bY.mp h1
  exact⟨h1,by simpa[h1]using h2⟩
 have nd:L.Nodup:=Tg A' AM
 have c1:(L.map key).length<=2400:=by
  refine OK (h:=hsh) ?_ (λp hp=>?_) λp hp=>?_
  ·show rD _ _
   rw[jQ]
   refine A_ (λ{i j}hi hj hij e=>?_) nd
   obtain⟨h1,_⟩:=hL i hi
   obtain⟨h2,_⟩:=hL j hj
   have ds:=AW.mp D.ds
   have two:∀a b(ha:a<es.size)(hb:b<es.size),a<b->key a=key b->False:=λa b ha hb yL e=>by
    obtain⟨k,k',x1,x2,x3⟩:=ds a b (by simpa using ha) (by simpa using hb) yL
    have y1:=(EJ prog w B).inj x1 (PV a ha).1
    have y2:=(EJ prog w B).inj x2 (PV b hb).1
    exact x3 (y1.trans (e.trans y2.symm))
   rcases vH i j with z|z|z
   ·exact two i j h1 h2 z e
   ·exact hij z
   ·exact two j i h2 h1 z e.symm
  ·obtain⟨i,hi,rfl⟩:=aM.mp hp
   obtain⟨h1,_⟩:=hL i hi
   exact(PV i h1).1.2
  ·obtain⟨i,hi,rfl⟩:=aM.mp hp
   obtain⟨h1,h2⟩:=hL i hi
   rw[<-(PV i h1).2,h2]
 rw[aA]at c1
 have v:=ac6 D.T F (L.map λi=>t.place.getD i 0) (yM t es hsh) λq hq hc=>by
  unfold yM at hc
  obtain⟨i,e1,e2⟩:=slot_mem D.T (F.bef q hq)
  rw[e1]at hc
  have hi:i<t.place.size:=(mF.mp e2).1
  refine aM.mpr ⟨i,bH.mpr ⟨bY.mpr oo,hc⟩,?_⟩
  simp only[S7,e2,AJ]
 rw[aA]at v
 unfold left
 rw[Al,<-List.range_eq_range']
 omega
end
end Bt
namespace Bt
open PySem PySem.Spec PyProof.Rows L2
variable{H:Hp}{X:Cx}{a:aa}{e:aQ}{h:aH}{p p1 p2 pos:cK}{pins:List (aa×aG)}{prog:cQ}{s:aj}{te:TE}{v:af}{vs:List af}{w:bC}
theorem qb(hg:Gl X "sorted")(hm:X.mg "sorted"=none)(ZM:Gl X "set")(w_:X.mg "set"=none)(he:PE X e te)(tj:aU [e] X.env=[(false,eval e X.env)]){σ:L2.St}{Q:VK}(I:Inv X pins σ H s)(C:V->Hp->Prop)(h:te σ H C)(go:∀(x:V)(u:af)(s1:aj)(H1:Hp),Inv X pins σ H1 s1->RelV x u->C x H1->wpAny (ay X.prog X.w) X.A (call (.type "set") [u]) (λv s2=>wpAny (ay X.prog X.w) X.A (call (.builtin "sorted") [v]) (EP X pins σ Q) X.xe s2) X.xe s1):
  wpAny (ay X.prog X.w) X.A (eval (.Call (.Name "sorted" p) [.Call (.Name "set" p1) [e] [] p2] [] pos) X.env) (EP X pins σ Q) X.xe s:=by
 refine ie (kj I hg hm boot_sorted ?_)
 refine Gy ?_ rfl rfl
 refine qE ?_
 refine ie (kj I ZM w_ boot_set ?_)
 refine nc (fg ((ae he ai tj) p2 pins s σ H (λvs H1=>match vs with
  |[x]=>C x H1
  |_=>False) I h) λus s1⟨vs,H1,I1,r1,q1⟩=>?_) tj rfl
 match vs,r1,q1 with
 |[x],r1,q1=>
  cases r1 with
  |@cons _ u _ _ rx rr=>
   cases rr
   exact fg (go x u s1 H1 I1 rx q1) λv s2 z=>uP z
theorem ua:∀{ps:List aa}{its:List af},Vals (ps.map V.ref) its->its=ps.map aK
 |[],_,.nil=>rfl
 |p::ps,_,.cons r rr=>by
  have r:_=aK p:=r
  rw[bb,<-ua rr,r]
theorem ub{α β:Type}{R:α->β->Prop}:∀{xs:List α}{ys:List β},Paired R xs ys->∀(i:Nat)(x:α),xs[i]?=some x->∃y,ys[i]?=some y/\R x y
 |_,_,.nil,i,x,h=>by simp at h
 |_,_,.cons r rr,0,x,h=>by simp at h;subst h;exact⟨_,rfl,r⟩
 |_,_,.cons r rr,i+1,x,h=>by
  rw[oM]at h
  obtain⟨y,h1,h2⟩:=ub rr i x h
  exact⟨y,by rw[oM];exact h1,h2⟩
theorem Yq{σ:L2.St}(I:Inv X pins σ H s){x:Nat×Nat}(h:vV H a x):IsTupleKey (o9 X.prog X.w) s.heap (Lj x) a:=by
 obtain⟨z,its,r,o,ho,hc,n,hd⟩:=I.hok a _ h
 refine⟨o,its.toArray,n,ho,hc,hd,?_⟩
 cases r with
 |cons r1 r2=>
  cases r2 with
  |cons r3 r4=>
   cases r4
   obtain⟨t,rfl⟩:=r1
   obtain⟨u,rfl⟩:=r3
   exact .cons (lh _ _ _ _) (.cons (lh _ _ _ _) .nil)
theorem DO{α β:Type}{R:α->β->Prop}:∀(xs:List α),(∀x∈xs,∃y,R x y)->∃ys,Paired R xs ys
 |[],_=>⟨[],.nil⟩
 |x::xs,h=>by
  obtain⟨y,hy⟩:=h x (.head _)
  obtain⟨ys,hys⟩:=DO xs λz hz=>h z (.tail _ hz)
  exact⟨y::ys,.cons hy hys⟩
theorem Nq{h:aH}{B:aa->Nat×Nat->Prop}{prog:cQ}{w:bC}:∀{vs:List af},(∀v∈vs,∃p,m9 prog w B h p v)->∃fs,PyProof.Rows.TupsOf h (λ_=>false) vs fs
 |[],_=>⟨[],.nil⟩
 |v::vs,hv=>by
  obtain⟨fs,hf⟩:=Nq (vs:=vs) λz hz=>hv z (.tail _ hz)
  obtain⟨p,⟨a,rfl,_,o,its,n,ho,hc,hd,hi⟩,_⟩:=hv v (.head _)
  obtain⟨t,u,e⟩:=sV hi
  exact⟨_,.cons ⟨a,o,its,n,rfl,ho,hc,hd,by rw[<-ji,e];rfl,λ_=>⟨_,_,rfl⟩,λz=>nomatch z⟩ hf⟩
theorem UB{B:aa->Nat×Nat->Prop}{p:Nat×Nat}(x:m9 prog w B h p v):∃l,UC h (λ_=>false) v=some l:=by
 obtain⟨⟨a,rfl,_,o,its,n,ho,hc,hd,hi⟩,_⟩:=x
 obtain⟨t,u,e⟩:=sV hi
 refine⟨[kI (p.1:Int),kI (p.2:Int)],?_⟩
 have h1:UD h (.ref a)=true:=by
  unfold UD
  simp[ho,hc]
 unfold UC
 rw[ax h1]
 unfold PyProof.Rows.tupKey
 simp[ho,hd,e,PyProof.Rows.tupItems]
theorem UE{xs:Array aO}(h:xs.Perm (eP vs)):(xs.map (·.2)).toList.Perm vs:=by
 have h1:xs.toList.Perm (vs.zip vs):=by rw[<-wg];exact UG.mp h
 rw[UH]
 refine(h1.map (·.2)).trans ?_
 rw[show(vs.zip vs).map (·.2)=vs by rw[List.map_snd_zip (aV _)]]
theorem IY{H:Hp}{P:Nat×Nat->Prop}:∀{vs:List af}{ys:List (aa×(Nat×Nat))},Paired (λv y=>v=aK y.1/\vV H y.1 y.2/\P y.2) vs ys->vs=(ys.map (·.1)).map aK/\Paired (vV H) (ys.map (·.1)) (ys.map (·.2))/\(∀x∈ys.map (·.2),P x)/\Vals ((ys.map (·.1)).map V.ref) vs
 |_,_,.nil=>⟨rfl,.nil,λx h=>by simp at h,.nil⟩
 |_,_,.cons ⟨e,h1,h2⟩ rr=>by
  obtain⟨a,b,c,d⟩:=IY rr
  refine⟨by rw[bb,bb,<-a,e],.cons h1 b,λx hx=>?_,.cons e d⟩
  rcases aY.mp hx with rfl|hx
  ·exact h2
  ·exact c x hx
theorem wj(hg:Gl X "sorted")(hm:X.mg "sorted"=none)(ZM:Gl X "set")(w_:X.mg "set"=none)(hc:X.calm=true)(hu:X.A.units+64<cp)(he:PE X e te)(tj:aU [e] X.env=[(false,eval e X.env)]:=by rfl):
  PE X (.Call (.Name "sorted" p) [.Call (.Name "set" p1) [e] [] p2] [] pos) (OQ te):=by
 intro pins s σ H Q I h
 refine qb hg hm ZM w_ he tj I _ h λx u s1 H1 I1 rx q1=>?_
 obtain⟨a,r,rfl,⟨ps,hH,hp⟩,hlen,hmk,k⟩:=q1
 have rx:u=aK a:=rx
 subst rx
 obtain⟨z,its,n,rv,ho⟩:=I1.hok a _ hH
 have ei:=ua rv
 subst ei
 have hlp:=hp.length
 have hl:s1.heap.IsList a (ps.map aK).toArray:=⟨_,ho,rfl,n,rfl⟩
 have hsz:(ps.map aK).toArray.size=r.length:=by simp[hlp]
 have kf:∀i v,(ps.map aK).toArray[i]?=some v->m9 X.prog X.w (vV H1) s1.heap (r.getD i (0,0)) v:=λi v hv=>by
  have hv:(ps.map aK)[i]?=some v:=by simpa using hv
  rw[bz]at hv
  cases hq:ps[i]?with
  |none=>rw[hq]at hv;cases hv
  |some q=>
   rw[hq]at hv
   have hv:=bO hv
   obtain⟨y,h1,h2⟩:=ub hp i q hq
   have:r.getD i (0,0)=y:=by rw[bM,h1];rfl
   rw[this]
   exact⟨⟨q,hv.symm,h2,Yq I1 h2⟩,hmk y (cC h1)⟩
 refine ym (ek:=EJ X.prog X.w (vV H1)) (val:=λi=>r.getD i (0,0)) oo (I1.ok.hd hc) hl kf oo (λh S es t hsh M _ D _ F=>OW D F) λh' tk S kp=>?_
 obtain⟨es,ep,t,ho2,D,ld,hn⟩:=S
 rw[hsz]at hn
 refine BI (s:={s1 with heap:=h',toks:=tk}) (I1.ok.hd hc) ho2 D.T D.pl D.led oo (λout=>out.toList.Perm ((fw X.w s1.heap.objs.size ep es).toList.map (·.2))) (λB E2 s2 q P w6 k2 hP=>?_) λq out n2 h2 N7 hgo hlt ho3 k3=>?_
 ·have all:∀v∈(fw X.w s1.heap.objs.size ep es).toList.map (·.2),∃y,m9 X.prog X.w (vV H1) s2.heap y v:=λv hv=>by
   obtain⟨w0,hw,rfl⟩:=aM.mp hv
   obtain⟨y,_,h1,_⟩:=D.el w0 ((iC _ _ _ _).mem_iff.mp hw)
   exact⟨y,m9.keep h1 λb o e _=>k2 b o e⟩
  obtain⟨fs,hfs⟩:=Nq all
  refine PyProof.Rows.G.list_sort_tups w6 hfs (λv hv=>let⟨y,hy⟩:=all v hv;UB hy) ?_ λtD g1 _ _=>hP _ (UE g1)
  rw[aA,dj,gw,dU];omega
 ·have from_:∀v∈out.toList,∃e0∈es.toList,e0.2=v:=λv hv=>by
   obtain⟨w0,hw,e0⟩:=aM.mp (hgo.mem_iff.mp hv)
   exact⟨w0,(iC _ _ _ _).mem_iff.mp hw,e0⟩
  obtain⟨ys,hys⟩:=DO (R:=λv(y:aa×(Nat×Nat))=>v=aK y.1/\vV H1 y.1 y.2/\∃i,i<(ps.map aK).toArray.size/\r.getD i (0,0)=y.2) out.toList λv hv=>by
   obtain⟨e0,he0,rfl⟩:=from_ v hv
   obtain⟨y,hS,⟨⟨b,e1,e2,_⟩,_⟩,_⟩:=D.el e0 he0
   exact⟨(b,y),e1,e2,hS⟩
  obtain⟨y1,y2,y3,y4⟩:=IY (P:=λy=>∃i,i<(ps.map aK).toArray.size/\r.getD i (0,0)=y) hys
  have le:out.toList.length=es.size:=by rw[hgo.length_eq,aA,dj,gw]
  have ly:ys.length=es.size:=by rw[<-le,y1];simp
  refine⟨.ref q,upd H1 q (.lst ((ys.map (·.1)).map V.ref)),I1.laid (t':=N7) (λb o e=>k3 b o (kp b o e)) (iU hlt) ⟨by rw[aA,aA,ly,dU];omega,out.toList,n2,y4,?_⟩,rfl,k q _ _ (I1.hok.fresh (iU hlt)) y2 (λx=>⟨λhx=>?_,λhx=>?_⟩) ?_⟩
  ·rw[we];exact ho3
  ·obtain⟨i,hi,e0⟩:=y3 x hx
   rw[hsz]at hi
   rw[<-e0,bM,bT hi]
   exact rR hi
  ·obtain⟨i,hi,e0⟩:=mG.mp hx
   obtain⟨e1,he1,⟨⟨b,eb,hb,_⟩,_⟩⟩:=D.all x ⟨i,by rw[hsz];exact hi,by rw[bM,bT hi];exact e0⟩
   have hmem:aK b∈out.toList:=by
    refine hgo.mem_iff.mpr (aM.mpr ⟨e1,(iC _ _ _ _).mem_iff.mpr he1,eb⟩)
   obtain⟨j,hj,ej⟩:=mG.mp hmem
   obtain⟨y,z1,z2,z3,_⟩:=ub hys j _ (bT hj)
   rw[ej]at z2
   injection z2 with z2
   refine aM.mpr ⟨y,cC z1,?_⟩
   rw[<-z2]at z3
   unfold vV at hb z3
   rw[hb]at z3
   injection z3 with z3
   injection z3 with z3
   injection z3 with w1 w2
   injection w2 with w2 _
   injection w1 with w1
   injection w2 with w2
   exact rE oo oo
  ·rw[aA,ly];exact hn
theorem xC:∀(l σ:List Int)(x:Int),x∈l.foldl o_ σ↔x∈σ\/x∈l
 |[],σ,x=>by simp
 |y::l,σ,x=>by
  rw[fK,xC l,aY]
  have:x∈o_ σ y↔x∈σ\/x=y:=by
   unfold o_
   by_cases h:σ.any (·==y)=true
   ·rw[ax h]
    obtain⟨z,h1,h2⟩:=kZ.mp h
    have h2:z=y:=by simpa using h2
    subst h2
    exact⟨.inl,λq=>q.elim id λq=>q▸h1⟩
   ·rw[aq h,d7,bA]
  rw[this]
  constructor
  ·rintro((h|h)|h)
   ·exact .inl h
   ·exact .inr (.inl h)
   ·exact .inr (.inr h)
  ·rintro(h|h|h)
   ·exact .inl (.inl h)
   ·exact .inl (.inr h)
   ·exact .inr h
theorem yn:∀(l σ:List Int),σ.Nodup->(l.foldl o_ σ).Nodup
 |[],σ,h=>h
 |y::l,σ,h=>by
  rw[fK]
  refine yn l _ ?_
  unfold o_
  by_cases q:σ.any (·==y)=true
  ·rw[ax q];exact h
  ·rw[aq q,UI]
   refine⟨h,by simp,λa ha b hb e=>q (kZ.mpr ⟨a,ha,?_⟩)⟩
   rw[bA]at hb
   rw[e,hb];exact f9 _
theorem yo:∀(n:Nat)(l:List Nat),l.length<=n->l.eraseDups.Nodup
 |_,[],_=>by simp
 |0,x::l,h=>by simp at h
 |n+1,x::l,h=>by
  rw[IZ,iZ]
  refine⟨λz=>?_,yo n _ (bV (dX _ _) (by simpa using h))⟩
  rw[UJ]at z
  have:=(bH.mp z).2
  simp at this
theorem OX(r:List Nat):((m8 r).foldl o_ []).length=r.eraseDups.length:=by
 have n1:r.eraseDups.Nodup:=yo _ r (aV _)
 have n2:(m8 r.eraseDups).Nodup:=by
  show rD _ (oY _ _)
  rw[jQ]
  exact n1.imp λh e=>h oo
 have m2:∀x,x∈m8 r.eraseDups↔x∈m8 r:=λx=>by
  simp only[m8,aM,UJ]
 have n3:=yn (m8 r) [] l_
 have l1:=A9 n3 (l₂:=m8 r.eraseDups) λx hx=>(m2 x).mpr (((xC _ _ x).mp hx).resolve_left (by simp))
 have l2:=A9 n2 (l₂:=(m8 r).foldl o_ []) λx hx=>(xC _ _ x).mpr (.inr ((m2 x).mp hx))
 have:(m8 r.eraseDups).length=r.eraseDups.length:=by simp[m8]
 omega
theorem Lk(hg:Gl X "len")(hm:X.mg "len"=none)(ZM:Gl X "set")(w_:X.mg "set"=none)(hc:X.calm=true)(he:PE X e te)(tj:aU [e] X.env=[(false,eval e X.env)]:=by rfl):
  PE X (.Call (.Name "len" p) [.Call (.Name "set" p1) [e] [] p2] [] pos) (Yi X.K te):=by
 intro pins s σ H Q I h
 refine ie (kj I hg hm boot_len ?_)
 refine Gy ?_ rfl rfl
 refine qE ?_
 refine ie (kj I ZM w_ boot_set ?_)
 refine nc (fg ((ae he ai tj) p2 pins s σ H (λvs H1=>match vs with
  |[x]=>∃(a:aa)(r:List Nat),x=.ref a/\a_ X.K H1 a (bU r)/\r.length<=60/\Q (.int (r.eraseDups.length:Nat)) H1
  |_=>False) I h) λus s1⟨vs,H1,I1,r1,q1⟩=>?_) tj rfl
 match vs,r1,q1 with
 |[x],r1,⟨a,r,ex,hs,aoc,q⟩=>
  subst ex
  have eu:=Vals.KC r1
  subst eu
  obtain⟨its,rv,hl,_⟩:=I1.list hs
  have hlen:=rv.length
  rw[yZ]at rv
  have hi:=Vals.ints rv
  have hn:its.length=r.length:=by rw[<-hlen];simp[bU]
  refine call_set_list (I1.ok.hd hc) hl.isList hi (by simp only[cw];unfold scanBound;omega) λh' tk hS kp=>?_
  refine uP ?_
  obtain⟨o,es,ep,t,ho,hex,hd,_,_,hb,hf,hsz⟩:=hS
  refine call_len_set (s:={s1 with heap:=h',toks:=tk}) ho hex hd hf (by unfold scanBound at hb;omega) ?_
  refine⟨.int (r.eraseDups.length:Nat),H1,I1.kept λb o e=>kp b o (ba e) e,⟨tk+1,?_⟩,q⟩
  have e1:es.size=r.eraseDups.length:=by
   rw[hsz,<-OX]
   unfold firstMet
   congr 1
   congr 1
   rw[cw,hn]
   apply I0
   ·simp[m8]
   ·intro i h1 h2
    simp[m8]at h2⊢
    simp[h2]
  rw[e1]
end Bt
namespace Bt
open PySem
namespace LF
theorem aeV:uT (.type "list_reverseiterator") "__len__"=pure none:=by rw[Bz,BB];kernel_rfl
theorem hint:uT (.type "list_reverseiterator") "__length_hint__"=pure (some (.builtin "list_reverseiterator.__length_hint__")):=by rw[Bz,BB];kernel_rfl
theorem split:splitId "list_reverseiterator.__length_hint__"=some ("list_reverseiterator","__length_hint__"):=by decide+kernel
theorem sub:isSubtype (.type "list_reverseiterator") (.type "list_reverseiterator")=pure true:=by rw[BC];kernel_rfl
end LF
variable{A:dr}{E Q:af->aj->Prop}{I l:aa}{M:Model}{items:Array af}{prog:cQ}{s:aj}{w:bC}{α:Type}
theorem y8{c:Prop} [Decidable c]{x y:aJ α}{Q:α->aj->Prop}(hc:¬c)(h:wpAny M A y Q E s):wpAny M A (if c then x else y) Q E s:=by rw[aq hc];exact h
theorem UK(tI:s.TypeIs (.ref I) "list_reverseiterator"){Q:Bool->aj->Prop}(h:Q false s):wpAny (ay prog w) A (BF (.ref I)) Q E s:=by
 unfold BF
 refine au (n6 tI LF.aeV ?_)
 dsimp only
 refine y8 (by decide+kernel) ?_
 refine y8 (by decide+kernel) ?_
 refine au (n6 tI LF.hint ?_)
 dsimp only
 rw[LF.split]
 dsimp only
 refine au (BE tI LF.sub ?_)
 rw[aq (show¬((!true)=true)from by decide)]
 refine Nn (by decide+kernel) ?_
 refine y8 (by decide+kernel) ?_
 exact aC h
theorem UL(hh:A.handled=none)(hl:s.heap.IsList l items)(hn:items.size<=az)(h:∀(p:aa)(out:Array af)(c:Nat)(h':aH)(tk:Nat),s.heap.objs.size<=p->h'.get? p=some {cls:=.type "list",dict:=none,data:=.seq out c,slots:=#[]}->out.toList=items.toList.reverse->(∀b o,s.heap.get? b=some o->h'.get? b=some o)->Q (.ref p) {s with heap:=h',toks:=tk}):
  wpAny (ay prog w) A (call (.type "reversed") [.ref l]) (λv s2=>wpAny (ay prog w) A (call (.type "list") [v]) Q E s2) E s:=by
 refine PySem.call_reversed_list hl ?_
 have hls:l<s.heap.objs.size:=by obtain⟨o,ho,_⟩:=hl;exact ba ho
 have s1:(s.heap.push (eD l ((items.size:Int)-1))).objs.size=s.heap.objs.size+1:=eW _ _
 refine callType_codes (Q₁:=λobj s1=>obj=.ref (s.heap.push (eD l ((items.size:Int)-1))).objs.size/\s1={s with heap:=(s.heap.push (eD l ((items.size:Int)-1))).push {cls:=.type "list",data:=.seq #[]}}) F.called_list (F.typeCall_list_1 _) F.entry_list_init (code_list_new _ ⟨rfl,rfl⟩) λobj s2 h2=>?_
 obtain⟨rfl,rfl⟩:=h2
 have gS:((s.heap.push (eD l ((items.size:Int)-1))).push {cls:=.type "list",data:=.seq #[]}).get? (s.heap.push (eD l ((items.size:Int)-1))).objs.size=some {cls:=.type "list",data:=.seq #[]}:=cU _ rfl
 have gI:((s.heap.push (eD l ((items.size:Int)-1))).push {cls:=.type "list",data:=.seq #[]}).get? s.heap.objs.size=some (eD l ((items.size:Int)-1)):=bQ _ (cU _ rfl)
 refine⟨⟨_,gS,rfl⟩,F.args_list_init_2 _ _,?_⟩
 have neI:(s.heap.push (eD l ((items.size:Int)-1))).objs.size≠s.heap.objs.size:=by rw[s1];exact RZ _
 have nel:(s.heap.push (eD l ((items.size:Int)-1))).objs.size≠l:=by rw[s1];exact iW (i7 hls)
 show wpAny _ A.in1.in1 (do let old<-mL (.ref _);cR.List.listUpdate (.ref _) (λ_=>#[]);letGo old.toList.reverse;BG (.ref _) (.ref s.heap.objs.size) .none) _ _ _
 refine au (PyProof.Rows.listItems_at gS rfl ?_)
 refine au (rT gS rfl ?_)
 refine au (vX ?_)
 obtain⟨c1,g1⟩:∃c1,(((s.heap.push (eD l ((items.size:Int)-1))).push {cls:=.type "list",data:=.seq #[]}).update (s.heap.push (eD l ((items.size:Int)-1))).objs.size (cS λ_=>#[])).get? (s.heap.push (eD l ((items.size:Int)-1))).objs.size=some {cls:=.type "list",data:=.seq #[] c1}:=⟨_,wc (c:="list") gS λ_=>#[]⟩
 have up:∀b o,b≠(s.heap.push (eD l ((items.size:Int)-1))).objs.size->(s.heap.push (eD l ((items.size:Int)-1))).get? b=some o->(((s.heap.push (eD l ((items.size:Int)-1))).push {cls:=.type "list",data:=.seq #[]}).update (s.heap.push (eD l ((items.size:Int)-1))).objs.size (cS λ_=>#[])).get? b=some o:=λb o hb e=>
  (iH _ _ (cJ hb)).trans (bQ _ e)
 generalize ((s.heap.push (eD l ((items.size:Int)-1))).push {cls:=.type "list",data:=.seq #[]}).update (s.heap.push (eD l ((items.size:Int)-1))).objs.size (cS λ_=>#[])=hh1 at g1 up⊢
 have r1:hh1.IsRevIter s.heap.objs.size l ((items.size:Int)-1):=⟨_,up _ _ (cJ neI) (cU _ rfl),rfl,rfl⟩
 have l1:hh1.IsList l items:=by
  obtain⟨o,ho,hc,n,hd⟩:=hl
  exact⟨o,up _ _ (cJ nel) (bQ _ ho),hc,n,hd⟩
 have kp:∀b o,s.heap.get? b=some o->hh1.get? b=some o:=λb o e=>up b o (by rw[s1];exact bS (i7 (ba e))) (bQ _ e)
 have tI:v9 {s with heap:=hh1} (.ref s.heap.objs.size) "list_reverseiterator":=aH.IsRevIter.typeIs (s:={s with heap:=hh1}) r1
 unfold BG
 refine au (ma tI ?_)
 have c2:BH (.ref (s.heap.push (eD l ((items.size:Int)-1))).objs.size) (.ref s.heap.objs.size)=false:=by
  simp only[BH,fA]
  exact neI
 rw[aq (by rw[c2];decide)]
 refine au (G6 (s:={s with heap:=hh1}) r1 ?_)
 refine au (fj (UK tI ?_))
 refine y8 (by decide+kernel) ?_
 have W:=Walks.listRev (prog:=prog) (w:=w) (A:=A.in1.in1) (by simpa using hh) s.heap.objs.size l (bS hls) items
 refine aC ⟨gi Up _,Uq W.toS hn _ ?_ _ items.size 0 _ #[] _ rfl (bI _) ⟨bI _,by simpa using r1,l1⟩ g1 (Ur _) λs' P1 c' hm hS' tF=>?_⟩
 ·simp only[aY,iw,gE,iS]
  exact⟨neI,nel⟩
 ·obtain⟨h',g',d',Xg,os'⟩:=s'
  have eg:g'=s.gens:=hm.gens
  have ed:d'=s.drawn:=hm.drawn
  have eo:os'=s.os:=hm.os
  subst eg ed eo
  refine⟨rfl,h _ P1 c' h' Xg (by rw[s1];exact zU _) hS' ?_ λb o e=>hm.heap b o ?_ (kp b o e)⟩
  ·obtain⟨z1,z2⟩:=tF
   apply jc
   intro j
   rw[ji]
   by_cases hj:j<items.size
   ·have:=z2 j P1[j] (g7 oo)
    rw[List.getElem?_reverse (by simpa using hj),dj,ji,this]
    exact g7 oo
   ·rw[qT oo,eR (by simp;omega)]
  ·simp only[aY,iw,gE,iS]
   exact⟨by rw[s1];exact bS (i7 (ba e)),bS (ba e)⟩
end Bt
namespace Bt
open PySem PySem.Spec PyProof.Rows L2
variable{X:Cx}{e:aQ}{p p1 p2 pos:cK}{te:TE}
theorem I_(hg:Gl X "list")(hm:X.mg "list"=none)(ZM:Gl X "reversed")(w_:X.mg "reversed"=none)(hc:X.calm=true)(he:PE X e te)(tj:aU [e] X.env=[(false,eval e X.env)]:=by rfl):
  PE X (.Call (.Name "list" p) [.Call (.Name "reversed" p1) [e] [] p2] [] pos) (TX X.K te):=by
 intro pins s σ H Q I h
 refine ie (kj I hg hm PyProof.Rows.boot_list ?_)
 refine nc ?_ rfl rfl
 refine qE ?_
 refine ie (kj I ZM w_ boot_reversed ?_)
 refine nc (fg ((ae he ai tj) p2 pins s σ H (λvs H1=>match vs with
  |[x]=>∃(a:aa)(xs:List V),x=.ref a/\a_ X.K H1 a xs/\∀p,H1 p=none->Q (.ref p) (upd H1 p (.lst xs.reverse))
  |_=>False) I h) λus s1⟨vs,H1,I1,r1,q1⟩=>?_) tj rfl
 match vs,r1,q1 with
 |[x],r1,⟨a,xs,ex,hs,q⟩=>
  subst ex
  have eu:=Vals.KC r1
  subst eu
  obtain⟨its,rv,hl,hz⟩:=I1.list hs
  have hlen:=rv.length
  refine fg (UL (I1.ok.hd hc) hl.isList (by simpa using(by omega:its.length<=az)) λp out c h' tk hp ho eo kp=>?_) λv s2 z=>uP z
  refine⟨.ref p,upd H1 p (.lst xs.reverse),I1.laid (t':=tk) kp hp ⟨by rw[He];exact hz,out.toList,c,?_,?_⟩,rfl,q p (I1.hok.fresh hp)⟩
  ·rw[eo]
   exact Vals.reverse (by simpa using rv)
  ·rw[we];exact ho
end Bt
namespace Bt
open PySem
variable{A:dr}{E:af->aj->Prop}{es:Array (Int×af)}{h:aH}{prog:cQ}{s:aj}{v:af}{w:bC}
def Ll(_:aH)(k:Int)(v:af):Prop:=∃t:dR,t≠0/\v=.int k t
theorem Yr{k:Int}(x:Ll h k v){Q:Bool->aj->Prop}(hq:Q true s):wpAny (ay prog w) A (isSame v v) Q E s:=by
 obtain⟨t,ht,rfl⟩:=x
 have h0:(t==0||t==0)=false:=by simp[ht]
 have hk:(k==k)=true:=f9 k
 have uz:(t==t)=true:=f9 t
 show wpAny _ _ (if((k==k)&&smallInt k)=true then UM t t else UN (k==k) t t) _ _ _
 by_cases hs:((k==k)&&smallInt k)=true
 ·rw[ax hs]
  unfold UM
  rw[h0]
  simp only[dO,cn]
  exact au (qu (aC hq))
 ·rw[aq hs]
  unfold UN
  rw[h0,uz]
  simp only[dO,cn,de]
  exact aC hq
theorem OY{k:Int}{l:List af}(x:Ll s.heap k v)(hl:∀y∈l,∃q,Ll s.heap q y){Q:Bool->aj->Prop}(h:Q false s):wpAny (ay prog w) A (vZ v l) Q E s:=by
 obtain⟨t,ht,rfl⟩:=x
 unfold vZ
 refine au ?_
 refine BJ _ (λrest(r:Option Bool×Unit)s'=>r.1=none/\s'=s/\∀y∈rest,∃q,Ll s.heap q y) _ ?_ ?_ _ _ ⟨rfl,rfl,hl⟩
 ·rintro y rest r s' ⟨hr,rfl,hv⟩
  obtain⟨q,t',ht',rfl⟩:=hv y (.head _)
  dsimp only
  rw[ax (show(false||(BK (.int k t)&&BK (.int q t')))=true from rfl)]
  exact aC ⟨rfl,rfl,λy hy=>hv y (.tail _ hy)⟩
 ·rintro⟨r1,r2⟩ s' ⟨hr,rfl,_⟩
  cases hr
  exact aC h
def abN(prog:cQ)(w:bC):EK prog w Int where
 at_:=Ll
 hash:=lS
 inj:=λ{h v a b}x y=>by
  obtain⟨t,_,rfl⟩:=x
  obtain⟨u,_,e⟩:=y
  injection e
 keep:=λx _=>x
 pyHash:=λ{A E s k v Q}_ x h=>by
  obtain⟨t,_,rfl⟩:=x
  exact(o9 prog w).pyHash (k:=k) (lh _ _ _ _) (h _)
 eqBool:=λ{A E s a b u v Q}_ x y h=>by
  obtain⟨t,_,rfl⟩:=x
  obtain⟨t',_,rfl⟩:=y
  exact(o9 prog w).eqBool (lh _ _ _ _) (lh _ _ _ _) h
 same:=λx h=>Yr x h
 byv:=λ{A E s k v Q}x h=>by
  obtain⟨t,_,rfl⟩:=x
  have e:vY 8 (.int k t)=pure true:=rfl
  rw[e];exact aC h
 Bu:=λx hl h=>OY x hl h
 scan:=λ{A E s a o es ep t k v Q}x ho hd hf hel _ h1 h2=>by
  obtain⟨u,_,rfl⟩:=x
  have is_:∀(e:Int×af),e∈es.toList->((o9 prog w).is k e.2=true↔Ll s.heap k e.2):=λe he=>by
   obtain⟨k',⟨t',ht',e1⟩,_⟩:=hel e he
   rw[e1]
   constructor
   ·intro q
    have:k=k':=(o9 prog w).inj _ _ _ q (lh prog w k' t')
    subst this
    exact⟨t',ht',rfl⟩
   ·rintro⟨t2,_,e2⟩
    injection e2 with e2
    subst e2
    exact lh _ _ _ _
  refine wpAny_setScan_of (knd:=o9 prog w) (lh _ _ _ _) ho hd hf (λe he=>?_) ?_
  ·obtain⟨k',⟨t',ht',e1⟩,e2⟩:=hel e he
   exact⟨⟨k',by rw[e1];exact lh _ _ _ _,e2⟩,by rw[e1];rfl⟩
  ·cases hr:es.toList.findIdx? (λe=>(o9 prog w).is k e.2)with
   |some j=>
    obtain⟨hj,hp,_⟩:=List.findIdx?_eq_some_iff_getElem.mp hr
    exact h1 _ ⟨_,rR hj,(is_ _ (rR hj)).mp hp⟩
   |none=>
    refine h2 λe he hx=>?_
    have:=List.findIdx?_eq_none_iff.mp hr e he
    rw[(is_ e he).mpr hx]at this
    cases this
theorem UO{h:aH}{S:Int->Prop}{t:aI}{hsh:Int}{M:Nat}(hn:es.size<=8000)(F:FF t es.size hsh M):left t es hsh 0 M<100000:=by
 have h1:=F.le
 have h2:left t es hsh 0 M<=M:=by
  unfold left
  refine bV (dX _ _) ?_
  rw[List.length_range'];omega
 omega
end Bt
namespace Bt
open PySem PySem.Spec PyProof.Rows L2
def NzO(o:aG):Prop:=∀its n,o.data=.seq its n->∀v∈its.toList,∃(k:Int)(t:dR),t≠0/\v=.int k t
variable{A:dr}{D:aa}{E Q:af->aj->Prop}{H:Hp}{M:Model}{P:cQ}{X:Cx}{e elt iter tg:aQ}{g:TG}{h:aH}{its vs:List af}{n:Nat}{ns:List Int}{own:List (ag×Nat)}{p p1 p2 pos pos':cK}{pins:List (aa×aG)}{s:aj}{scope:gF}{te:TE}{v:af}{w:bC}{wi:TI}{α:Type}
def OZ(te:TE):TE:=λσ H Q=>te σ H λx H1=>∃(a:aa)(o:aG)(r:List Nat),x=.ref a/\H1 a=some (.yO o (.lst (bU r)))/\NzO o/\r.length<=8000/\∀(p:aa)(r':List Nat),H1 p=none->(∀x,x∈r'↔x∈r)->r'.Pairwise (·<=·)->r'.length<=r.length->Q (.ref p) (upd H1 p (.lst (bU r')))
theorem ints_of(h:∀v∈vs,∃(k:Int)(t:dR),v=.int k t):∃ns,fL vs ns:=by
 induction vs with
 |nil=>exact⟨[],.nil⟩
 |cons v vs ih=>
  obtain⟨k,t,rfl⟩:=h v (.head _)
  obtain⟨ns,hn⟩:=ih λz hz=>h z (.tail _ hz)
  exact⟨k::ns,.cons k t hn⟩
theorem UP(h:fL vs ns):∀x,x∈ns↔∃t,eL x t∈vs:=by
 induction h with
 |nil=>intro x;simp
 |cons n t _ ih=>
  intro x
  rw[aY,ih]
  constructor
  ·rintro(rfl|⟨u,hu⟩)
   ·exact⟨t,.head _⟩
   ·exact⟨u,.tail _ hu⟩
  ·rintro⟨u,hu⟩
   rcases aY.mp hu with e|e
   ·injection e with e;exact .inl e
   ·exact .inr ⟨u,e⟩
theorem Ys(h:∀x∈ns,0<=x):m8 (ns.map Ja)=ns:=by
 unfold m8
 rw[cg]
 conv=>rhs;rw[<-Jb ns]
 exact mv λx hx=>by simp only[vW,id];have:=h x hx;omega
theorem yp(hg:Gl X "sorted")(hm:X.mg "sorted"=none)(ZM:Gl X "set")(w_:X.mg "set"=none)(hc:X.calm=true)(hu:X.A.units+64<cp)(he:PE X e te)(tj:aU [e] X.env=[(false,eval e X.env)]:=by rfl):
  PE X (.Call (.Name "sorted" p) [.Call (.Name "set" p1) [e] [] p2] [] pos) (OZ te):=by
 intro pins s σ H Q I h
 refine qb hg hm ZM w_ he tj I _ h λx u s1 H1 I1 rx q1=>?_
 obtain⟨a,ob,r,rfl,hH,hz,hlen,k⟩:=q1
 have rx:u=aK a:=rx
 subst rx
 obtain⟨hob,z,its,n,rv,ho⟩:=I1.hok a _ hH
 have eo:ob={cls:=.type "list",data:=.seq its.toArray n}:=bO (hob.symm.trans ho)
 have hnz:∀v∈its,∃(k:Int)(t:dR),t≠0/\v=.int k t:=by
  have:=hz its.toArray n (by rw[eo])
  simpa using this
 have hl:s1.heap.IsList a its.toArray:=⟨_,ho,rfl,n,rfl⟩
 have XT:=rv.length
 have hsz:its.toArray.size=r.length:=by rw[cw,<-XT,aR]
 have kf:∀i v,its.toArray[i]?=some v->Ll s1.heap ((r.getD i 0:Nat):Int) v:=λi v hv=>by
  have hv:its[i]?=some v:=by simpa using hv
  obtain⟨k1,t,ht,rfl⟩:=hnz v (cC hv)
  have hi:i<r.length:=by have:=(gx.mp hv).1;rw[<-XT,aR]at this;exact this
  have hx:(bU r)[i]?=some (.int ((r.getD i 0:Nat):Int)):=by
   unfold bU
   rw[bz,bM,bT hi];rfl
  obtain⟨u,e1,e2⟩:=Vals.get rv hx
  rw[hv]at e1
  have e1:=bO e1
  subst e1
  obtain⟨t',e3⟩:=e2
  injection e3 with e3
  exact⟨t,ht,by rw[e3]⟩
 refine ym (ek:=abN X.prog X.w) (val:=λi=>((r.getD i 0:Nat):Int)) oo (I1.ok.hd hc) hl kf oo (λh S es t hsh M _ D hn F=>UO (h:=h) (S:=S) oo F) λh' tk S kp=>?_
 obtain⟨es,ep,t,ho2,D,ld,hn⟩:=S
 rw[hsz]at hn
 have all:∀v∈(fw X.w s1.heap.objs.size ep es).toList.map (·.2),∃(k:Int)(t:dR),v=.int k t:=λv hv=>by
  obtain⟨w0,hw,rfl⟩:=aM.mp hv
  obtain⟨y,_,⟨t,_,h1⟩,_⟩:=D.el w0 ((iC _ _ _ _).mem_iff.mp hw)
  exact⟨y,t,h1⟩
 obtain⟨ns,hns⟩:=ints_of all
 have nsm:∀x,x∈ns↔∃i,i<r.length/\((r.getD i 0:Nat):Int)=x:=λx=>by
  rw[UP hns]
  constructor
  ·rintro⟨t,ht⟩
   obtain⟨w0,hw,e0⟩:=aM.mp ht
   obtain⟨y,hS,⟨t',_,h1⟩,_⟩:=D.el w0 ((iC _ _ _ _).mem_iff.mp hw)
   rw[e0]at h1
   injection h1 with h1
   subst h1
   obtain⟨i,hi,e⟩:=hS
   exact⟨i,by rw[<-hsz];exact hi,e⟩
  ·rintro⟨i,hi,e⟩
   obtain⟨e1,he1,t',_,h1⟩:=D.all x ⟨i,by rw[hsz];exact hi,e⟩
   exact⟨t',by rw[<-h1];exact aM.mpr ⟨e1,(iC _ _ _ _).mem_iff.mpr he1,rfl⟩⟩
 have nsl:ns.length=es.size:=by
  have:=hns.length
  rw[aA,dj,gw]at this
  omega
 refine BI (s:={s1 with heap:=h',toks:=tk}) (I1.ok.hd hc) ho2 D.T D.pl D.led oo (λout=>∃Qk,fL out.toList Qk/\Qk.Perm ns/\Qk.Pairwise (·<=·)) (λB E2 s2 q P w6 k2 hP=>?_) λq out n2 h2 N7 hgo hlt ho3 k3=>?_
 ·refine list_sort_treeAny w6 hns ?_ λout Qk g1 g2 g3=>hP out ⟨Qk,g1,g2,g3⟩
  rw[aA,dj,gw,dU];omega
 ·obtain⟨Qk,g1,g2,g3⟩:=hgo
  have aiO:∀x∈Qk,0<=x:=λx hx=>by
   obtain⟨i,_,e⟩:=(nsm x).mp (g2.mem_iff.mp hx)
   omega
  have e1:=Ys aiO
  have ln:(Qk.map Ja).length=es.size:=by rw[aA,g2.length_eq,nsl]
  refine⟨.ref q,upd H1 q (.lst (bU (Qk.map Ja))),I1.laid (t':=N7) (λb o e=>k3 b o (kp b o e)) (iU hlt) ⟨by rw[aR,ln,dU];omega,out.toList,n2,?_,?_⟩,rfl,k q _ (I1.hok.fresh (iU hlt)) (λx=>⟨λhx=>?_,λhx=>?_⟩) ?_ ?_⟩
  ·rw[yZ,e1];exact uZ g1
  ·rw[we];exact ho3
  ·obtain⟨y,hy,rfl⟩:=aM.mp hx
   obtain⟨i,hi,e⟩:=(nsm y).mp (g2.mem_iff.mp hy)
   rw[<-e,jK,bM,bT hi]
   exact rR hi
  ·obtain⟨i,hi,e0⟩:=mG.mp hx
   refine aM.mpr ⟨(x:Int),g2.mem_iff.mpr ((nsm _).mpr ⟨i,hi,?_⟩),jK x⟩
   rw[bM,bT hi,<-e0];rfl
  ·rw[jQ]
   exact g3.imp λh=>by omega
  ·omega
abbrev NzV(x:Nat)(u:af):Prop:=∃t:dR,t≠0/\u=eL (x:Int) t
def aeW(D:aa)(xs:List Nat):aH->Prop:=λh=>xs.length<=az/\∃(its:List af)(n:Nat),Paired NzV xs its/\h.get? D=some {cls:=.type "list",data:=.seq its.toArray n}
def mX(D:aa)(xs:List Nat):HO:=.ext (aeW D xs)
theorem Yt{xs:List Nat}(hz:xs.length<=az)(r:Paired NzV xs its)(e:∃n,h.get? D=some {cls:=.type "list",data:=.seq its.toArray n}):fZ P w H h D (mX D xs):=by
 obtain⟨n,e⟩:=e
 exact⟨⟨hz,its,n,r,e⟩,⟨_,e⟩,λh1 h2⟨z,i,m,q,e1⟩k=>⟨z,i,m,q,k _ e1⟩⟩
theorem CT{t:aJ α}{Q Q':α->aj->Prop}(hn:n<=s.toks)(h:wpAny M A t Q E s)(hQ:∀a s',n<=s'.toks->Q a s'->Q' a s'):wpAny M A t Q' E s:=
 eM (wpAny_toks_of hn h) (λa s' x=>hQ a s' x.1 x.2) λ_ _ x=>x.2
theorem Nr{t:aJ α}{Q Q':α->aj->Prop}(hn:n<=s.toks)(h:wpAny M A t Q (λ_ _=>False) s)(hQ:∀a s',n<=s'.toks->Q a s'->Q' a s'):wpAny M A t Q' E s:=
 eM (wpAny_toks_of hn h) (λa s' x=>hQ a s' x.1 x.2) λ_ _ x=>x.2.elim
theorem Lm{α β:Type}{R:α->β->Prop}:∀{a:List α}{b:List β}{c:List α}{d:List β},Paired R a b->Paired R c d->Paired R (a++c) (b++d)
 |_,_,_,_,.nil,h=>h
 |_,_,_,_,.cons r rr,h=>.cons r (Lm rr h)
def PEz(X:Cx)(e:aQ)(te:TE):Prop:=∀(pins:List (aa×aG))(s:aj)(σ:L2.St)(H:Hp)(Q:VK),Inv X pins σ H s->1<=s.toks->te σ H Q->wpAny (ay X.prog X.w) X.A (eval e X.env) (λu s'=>EP X pins σ Q u s'/\∀k t,u=eL k t->t≠0) X.xe s
def abO(wi:TI)(g:TG)(te:TE)(vs:List Nat):TE:=λσ H Q=>wi σ H λJ H1=>∀D,H1 D=none->∃W:Nat->Nat->Hp->Prop,(∃m,W 0 m (upd H1 D (mX D [])))/\∀i m H,W i m H->(J.stop i H/\Q (.ref D) H)\/(J.go i H/\∃Nx:Hp->Prop,(∀H',Nx H'->∃m',m'<m/\W (i+1) m' H')/\∀x H',J.yP i H x H'->g x (wipe σ vs) H' λkH H2=>wipe kH vs=wipe σ vs/\te kH H2 λy H4=>∃(acc:List Nat)(n:Nat),y=.int (n:Int)/\H4 D=some (mX D acc)/\acc.length<az/\Nx (upd H4 D (mX D (acc++[n]))))
theorem Yu{σ:L2.St}{xs:List Nat}{y:Nat}(I:Inv X pins σ H s)(tk:1<=s.toks)(hD:H D=some (mX D xs))(hz:xs.length<az)(r:RelV (.int (y:Int)) v)(nz:∀k t,v=eL k t->t≠0)(h:∀s',Inv X pins σ (upd H D (mX D (xs++[y]))) s'->1<=s'.toks->Q .none s'):wpAny (ay X.prog X.w) X.A (call (.builtin "list.append") [.ref D,v]) Q E s:=by
 obtain⟨⟨Mg,its,n,ri,e⟩,_⟩:=I.hok D _ hD
 have hl:=ri.length
 obtain⟨t,rfl⟩:=r
 refine append_at (hsz:=by rw[cw];omega) e λh' sb PQ=>?_
 refine h {s with heap:=h'} (I.write (t':=s.toks) (by rw[hD];trivial) (.inl rfl) (λb u hb q=>(sb.2 b hb).trans q) ⟨_,PQ⟩ (Yt (its:=its++[eL (y:Int) t]) (by rw[bZ];exact hz) (Lm ri (.cons ⟨t,nz _ _ rfl,rfl⟩ .nil)) ⟨n+1,?_⟩)) tk
 rw[PQ]
 simp
theorem UQ{σ:L2.St}{Q:VK}{use:Option (af->aJ Unit)}{Qf:af->aj->Prop}(hc:X.calm=true)(hN:X.N.Nodup)(I:Inv X pins σ H s)(tk0:1<=s.toks)(hi:PI X tg iter wi)(ok:x_ X.N X.env.scope scope own)(hg:∀(s:aj)(H:Hp)(C:aa)(cl:List (ag×aa))(fp:List aa),PG (X.blk s H scope (eA scope cl C X.env) fp) tg g)(he:∀(s:aj)(H:Hp)(C:aa)(cl:List (ag×aa))(fp:List aa),PEz (X.blk s H scope (eA scope cl C X.env) fp) elt te)(hs:∀x,qB iter X.env x=pure x)(h:abO wi g te (own.map (·.2)) σ H Q)(hRR:∀D C s' m H',Inv X pins σ H' s'->Q (.ref D) H'->s'.heap.Ns C m->tU X pins H' C->qO (ay X.prog X.w) X.A X.xe use Qf (.ref D) C (.ok .next) s'):
  wpAny (ay X.prog X.w) X.A (GU (.ListComp elt [⟨tg,iter,[],0⟩] scope pos) scope X.env pos' (Aa []) false (eval iter X.env) use) Qf X.xe s:=by
 have tT:∀y∈scope.names,y.2=.free->∃c,X.env.cells.lookup y.1=some c:=λy hy e=>by
  rcases ok.free y hy e with k|k
  ·exact I.ok.has _ (.inl k)
  ·exact I.ok.has _ (.inr k)
 refine RG (use:=use) rfl hs (z9 tT) ok.kind (λy hy e=>by rw[ok.uniq y hy,e])
  (CT tk0 (hi pins s σ H _ I h) λxv s1 N3 hx=>CT N3 hx λitv s2 N7 h2=>?_)
 obtain⟨it,fp,tn,J,H2,e,I2,T,lR,f2,q⟩:=h2
 subst e
 refine oF (x9 ?_) (by show 0<=az;decide)
 generalize hD:s2.heap.objs.size=D
 have hDn:H2 D=none:=I2.hok.fresh (kO hD)
 obtain⟨W,⟨m0,w0⟩,turn⟩:=q D hDn
 generalize hs3:({s2 with heap:=s2.heap.push {cls:=.type "list",data:=.seq ([]:List af).toArray}}:aj)=s3
 have I3:Inv X pins σ (upd H2 D (mX D [])) s3:=by
  rw[<-hs3]
  refine I2.laid (t':=s2.toks) (λb o e=>bQ _ e) (kO hD) (Yt (bI _) .nil ?_)
  rw[<-hD]
  exact⟨0,cU _ rfl⟩
 have h3:s3.heap=s2.heap.push {cls:=.type "list",data:=.seq ([]:List af).toArray}:=by rw[<-hs3]
 have sz:∀b∈fp,b<s2.heap.objs.size:=λb hb=>by
  obtain⟨o,e,_⟩:=T.obj _ _ lR b hb
  exact ba e
 have f3:∀b∈fp,tU X pins (upd H2 D (mX D [])) b/\b<s3.heap.objs.size:=λb hb=>by
  have hlt:=sz b hb
  refine⟨⟨?_,(f2 b hb).2⟩,by rw[h3,eW];exact i7 hlt⟩
  rw[aN (by rw[<-hD];exact bS hlt)]
  exact(f2 b hb).1
 have st3:tn 0 s3.heap:=T.keep _ _ _ lR λb _ o e=>by rw[h3];exact bQ _ e
 have I4:=ya I3 ok hN f3
 have pg:=hg s3 (upd H2 D (mX D [])) s3.heap.objs.size (c5 (s3.heap.objs.size+1) scope.names (dD X.env.cells scope.names [])) fp
 have pe:=he s3 (upd H2 D (mX D [])) s3.heap.objs.size (c5 (s3.heap.objs.size+1) scope.names (dD X.env.cells scope.names [])) fp
 show codeAny _ _ (.compStart (.ListComp elt [⟨tg,iter,[],0⟩] scope pos) 0 (.ref it) (.ref D) (eA scope (c5 (s3.heap.objs.size+1) scope.names (dD X.env.cells scope.names [])) s3.heap.objs.size X.env)) (qO (ay X.prog X.w) X.A X.xe use Qf (.ref D) s3.heap.objs.size) {s3 with heap:=jN (s3.heap.push {cls:=.type "dict",data:=.dict #[]}) scope.names}
 have nfp:∀b∈fp,(upd H2 D (mX D [])) b=none:=λb hb=>(f3 b hb).1.1
 generalize hce:eA scope (c5 (s3.heap.objs.size+1) scope.names (dD X.env.cells scope.names [])) s3.heap.objs.size X.env=ce at I4 pg pe⊢
 have cL:ce.locals=s3.heap.objs.size:=by subst hce;rfl
 generalize Ab:upd H2 D (mX D [])=H3 at I3 I4 pg pe w0 nfp f3
 generalize hs4:({s3 with heap:=jN (s3.heap.push {cls:=.type "dict",data:=.dict #[]}) scope.names}:aj)=s4 at I4⊢
 have tk4:1<=s4.toks:=by rw[<-hs4,<-hs3];exact N7
 have st4:tn 0 s4.heap:=T.keep _ _ _ st3 λb _ o e=>by rw[<-hs4];exact vb _ _ _ _ (bQ _ e)
 have Cv:∀{gT:L2.St}{H':Hp}{s':aj},Inv (X.blk s3 H3 scope ce fp) [] gT H' s'->(∀b∈fp,H' b=none)->∀b∈fp,tU (X.blk s3 H3 scope ce fp) [] H' b:=λ{gT H' s'}I' hn b hb=>
  ⟨hn b hb,(I'.ok.exf b hb).1,I'.ok.Oa b hb,.inl hb,λx c e=>(I'.ok.exf b hb).2 x c e,λp hp=>absurd (show p∈([]:List (aa×aG))++[]from hp) (by simp)⟩
 have loop:codeAny (ay X.prog X.w) X.A (.compLoop (.ListComp elt [⟨tg,iter,[],0⟩] scope pos) 0 (.ref it) (.ref D) ce) (qO (ay X.prog X.w) X.A X.xe use Qf (.ref D) s3.heap.objs.size) s4:=by
  refine vc (λn s'=>∃i H',Inv (X.blk s3 H3 scope ce fp) [] (wipe σ (own.map (·.2))) H' s'/\tn i s'.heap/\(∀b∈fp,H' b=none)/\W i n H'/\1<=s'.toks) ?_ m0 ⟨0,H3,I4,st4,nfp,w0,tk4⟩
  rintro n s5 ⟨i,H5,I5,Zz,n5,w5,tk5⟩
  rcases turn i n H5 w5 with⟨stop,qq⟩|⟨go,Nx,hNx,step⟩
  ·have td:=T.done (X.blk s3 H3 scope ce fp) rfl rfl rfl hc i [] s5 _ H5 (λ_ _=>False) I5 (Cv I5 n5) Zz stop
   refine KG td λr s6⟨hr,I6⟩=>?_
   subst hr
   have I7:Inv X pins σ H5 s6:=I3.call' (ch:=fp) I6.os I6.base I6.hok I6.bare λb hb=>⟨(f3 b hb).1.2.2.2.1,(f3 b hb).1.2.1,(f3 b hb).1.2.2.2.2.1,(f3 b hb).1.2.2.2.2.2⟩
   have nC:H5 s3.heap.objs.size=none:=by
    have z:H5 ce.locals=none:=I6.free
    rw[cL]at z
    exact z
   obtain⟨m,hn,_⟩:=I6.loc
   have hn:s6.heap.Ns ce.locals m:=hn
   rw[cL]at hn
   exact hRR D s3.heap.objs.size s6 m H5 I7 qq hn (I3.Kt (aV _) nC)
  ·have ti:=T.item (X.blk s3 H3 scope ce fp) rfl rfl rfl hc i [] s5 _ H5 (λ_ _=>False) I5 (Cv I5 n5) Zz go
   refine Nr tk5 ti λr s6 tk6⟨u,hr,h6⟩=>?_
   subst hr
   refine Nr tk6 h6 λ_ s7 tk7⟨x,H7,I7,r7,y7,st7,n7⟩=>?_
   have I7':=I7.pinned (Cv I7 n7) (T.obj _ _ st7)
   refine Nr tk7 (pg _ s7 _ H7 x u _ I7' r7 (step x H7 y7)) λ_ s8 tk8⟨σ8,H8,I8,hw8,q8⟩=>?_
   refine RF ?_
   have fin:∀{s':aj}{H':Hp},Inv (X.blk s3 H3 scope ce fp) ([]++xf fp s7.heap) σ8 H' s'->1<=s'.toks->Nx H'->∃m,m<n/\∃i H',Inv (X.blk s3 H3 scope ce fp) [] (wipe σ (own.map (·.2))) H' s'/\tn i s'.heap/\(∀b∈fp,H' b=none)/\W i m H'/\1<=s'.toks:=λ{s' H'}I' Xg nx=>by
    obtain⟨m',hm,w'⟩:=hNx H' nx
    have RH:∀b∈fp,∀o,s7.heap.get? b=some o->s'.heap.get? b=some o/\H' b=none:=λb hb o e=>
     let z:=I'.pin (b,o) (iG _ (iG _ (pz hb e)))
     ⟨z.1,z.2.1⟩
    have hl:(wipe σ (own.map (·.2))).length=σ8.length:=by rw[<-hw8,nk]
    refine⟨m',hm,i+1,H',(I'.qA (pins:=[])).weak hl (λj v e=>?_),T.keep _ _ _ st7 λb hb o e=>(RH b hb o e).1,λb hb=>?_,w',Xg⟩
    ·rw[<-hw8]at e
     exact(sM e).1
    ·obtain⟨o,e,_⟩:=T.obj _ _ st7 b hb
     exact(RH b hb o e).2
   simp only[de]
   refine Nr tk8 (pe _ s8 σ8 H8 _ I8 tk8 q8) λz XM aiR⟨⟨yv,Kj,I10,r10,acc,k10,ey,RJ,abc,nx⟩,nz⟩=>?_
   subst ey
   exact Yu (X:=X.blk s3 H3 scope ce fp) I10 aiR RJ abc r10 nz λs11 I11 aiS=>fin I11 aiS nx
 exact RL loop (T.self X.A 0 _ _ _ st4 loop)
theorem abP(hc:X.calm=true)(hN:X.N.Nodup)(hi:PI X tg iter wi)(ok:x_ X.N X.env.scope scope own)(hg:∀(s:aj)(H:Hp)(C:aa)(cl:List (ag×aa))(fp:List aa),PG (X.blk s H scope (eA scope cl C X.env) fp) tg g)(he:∀(s:aj)(H:Hp)(C:aa)(cl:List (ag×aa))(fp:List aa),PEz (X.blk s H scope (eA scope cl C X.env) fp) elt te)(hs:∀x,qB iter X.env x=pure x:=by intro _;rfl){σ:L2.St}{Q:VK}(I:Inv X pins σ H s)(tk:1<=s.toks)(h:abO wi g te (own.map (·.2)) σ H Q):
  wpAny (ay X.prog X.w) X.A (eval (.ListComp elt [⟨tg,iter,[],0⟩] scope pos) X.env) (EP X pins σ Q) X.xe s:=by
 rw[eval_ListComp]
 refine UQ hc hN I tk hi ok hg he hs h λD C s' m H' I' q hn f=>⟨m,hn,λZH sb=>?_⟩
 obtain⟨f0,f1,f2,f3,f4,f5⟩:=f
 exact⟨.ref D,H',I'.turned (t':=s'.toks) (λb o hb e=>(sb.2 b hb).trans e) f0 f1 f3 f4 f5,rfl,q⟩
end Bt
namespace Bt
open PySem PyProof.Rows
open Sem (wp)
variable{hi lo:Nat}{α β γ δ:Type}
section
variable(M:Model)(Γ:Ctx)(s1 s2:aj)(RK:aO->aO->Prop)
def RA(a b:Array aO):Prop:=a.size=b.size/\∀(i:Nat)(x y:aO),a[i]?=some x->b[i]?=some y->RK x y
structure RS (gp gq:Jc) (lE lR:bf):Prop where
 k1:kindOf lE=gp
 k2:kindOf lR=gq
 arr:RA RK (cu lE) (cu lR)
 pend:rV lE=rV lR
 gal:BL lE=BL lR
 f1:mM lE=none
 f2:mM lR=none
variable(gp gq:Jc)
def Sm(R:α->β->Prop)(m1:StateT bf aJ α)(m2:StateT bf aJ β):Prop:=
 ∀lE lR,RS RK gp gq lE lR->∀(K:α->bf->cK->aj->Prop)(p1:cK),wp M Γ (m1.run lE) (λr p' s'=>K r.1 r.2 p' s') (λ_ _ _=>False) p1 s1->∀(Q:β->bf->Prop),(∀a b O0 Jd p',R a b->RS RK gp gq O0 Jd->K a O0 p' s1->Q b Jd)->∀(E2:af->cK->aj->Prop)(p2:cK),wp M Γ (m2.run lR) (λr _ s'=>s'=s2/\Q r.1 r.2) E2 p2 s2
variable{M Γ s1 s2 RK gp gq}
theorem cX{R:α->β->Prop}{a:α}{b:β}(h:R a b):Sm M Γ s1 s2 RK gp gq R (pure a:StateT bf aJ α) (pure b:StateT bf aJ β):=by
 intro lE lR r K p1 h1 Q hQ E2 p2
 rw[UR]at h1⊢
 have h1:K a lE p1 s1:=h1
 exact(⟨rfl,hQ a b lE lR p1 h r h1⟩:s2=s2/\Q b lR)
theorem dF{R:α->β->Prop}{R':γ->δ->Prop}{m1:StateT bf aJ α}{m2:StateT bf aJ β}{f:α->StateT bf aJ γ}{g:β->StateT bf aJ δ}(h:Sm M Γ s1 s2 RK gp gq R m1 m2)(hf:∀a b,R a b->Sm M Γ s1 s2 RK gp gq R' (f a) (g b)):
  Sm M Γ s1 s2 RK gp gq R' (m1>>=f) (m2>>=g):=by
 intro lE lR r K p1 h1 Q hQ E2 p2
 rw[StateT.run_bind]at h1⊢
 have h1:wp M Γ (BM (m1.run lE) λx=>(f x.1).run x.2) _ _ p1 s1:=h1
 show wp M Γ (BM (m2.run lR) λx=>(g x.1).run x.2) _ _ p2 s2
 rw[Je]at h1⊢
 have:=h lE lR r (λa st p' s'=>wp M Γ ((f a).run st) (λr p' s'=>K r.1 r.2 p' s') (λ_ _ _=>False) p' s') p1 h1 (λb Jd=>∀(E2:af->cK->aj->Prop)(p2:cK),wp M Γ ((g b).run Jd) (λr _ s'=>s'=s2/\Q r.1 r.2) E2 p2 s2) (λa b O0 Jd p' yL tj hk=>hf a b yL O0 Jd tj K p' hk Q hQ) E2 p2
 refine US M Γ _ (λx p' s' hx=>?_) (λ_ _ _ h=>h) p2 s2 this
 obtain⟨rfl,hx⟩:=hx
 exact hx E2 p'
theorem sm_get:Sm M Γ s1 s2 RK gp gq (RS RK gp gq) (get:StateT bf aJ bf) get:=by
 intro lE lR r K p1 h1 Q hQ E2 p2
 have h1:K lE lE p1 s1:=h1
 exact(⟨rfl,hQ lE lR lE lR p1 r r h1⟩:s2=s2/\Q lR lR)
theorem pb{f g:bf->bf}(h:∀a b,RS RK gp gq a b->RS RK gp gq (f a) (g b)):Sm M Γ s1 s2 RK gp gq (λ_ _=>True) (modify f:StateT bf aJ PUnit) (modify g:StateT bf aJ PUnit):=by
 intro lE lR r K p1 h1 Q hQ E2 p2
 have h1:K ⟨⟩ (f lE) p1 s1:=h1
 exact(⟨rfl,hQ ⟨⟩ ⟨⟩ (f lE) (g lR) p1 trivial (h _ _ r) h1⟩:s2=s2/\Q ⟨⟩ (g lR))
theorem BN{ι α β:Type}{R:α->β->Prop}{f:ι->α->StateT bf aJ (ForInStep α)}{g:ι->β->StateT bf aJ (ForInStep β)}(h:∀i a b,R a b->Sm M Γ s1 s2 RK gp gq (λx y=>(∃a b,x=.yield a/\y=.yield b/\R a b)\/∃a b,x=.done a/\y=.done b/\R a b) (f i a) (g i b)):
  ∀(l:List ι)(a:α)(b:β),R a b->Sm M Γ s1 s2 RK gp gq R (forIn l a f) (forIn l b g)
 |[],a,b,r=>by rw[va,va];exact cX r
 |i::l,a,b,r=>by
  rw[z8,z8]
  refine dF (h i a b r) λx y hxy=>?_
  rcases hxy with⟨a',b',rfl,rfl,r'⟩|⟨a',b',rfl,rfl,r'⟩
  ·exact BN h l a' b' r'
  ·exact cX r'
theorem rW{R:α->β->Prop}{f:Nat->α->StateT bf aJ (ForInStep α)}{g:Nat->β->StateT bf aJ (ForInStep β)}{a:α}{b:β}(h:∀i a b,R a b->Sm M Γ s1 s2 RK gp gq (λx y=>(∃a b,x=.yield a/\y=.yield b/\R a b)\/∃a b,x=.done a/\y=.done b/\R a b) (f i a) (g i b))(r:R a b):
  Sm M Γ s1 s2 RK gp gq R (forIn [lo:hi] a f) (forIn [lo:hi] b g):=by
 rw[UT,UT]
 exact BN h _ a b r
theorem j8{a b:Array aO}(h:RA RK a b)(i:Nat):Sm M Γ s1 s2 RK gp gq RK (elem' a i) (elem' b i):=by
 rw[elem'_eq,elem'_eq]
 cases ha:a[i]?with
 |none=>
  intro lE lR r K p1 h1
  exact False.elim h1
 |some x=>
  have hb:b[i]?=some (b[i]'(by have:=(mF.mp ha).1;rw[<-h.1];exact this)):=g7 _
  rw[hb]
  exact cX (h.2 i _ _ ha hb)
end
variable{M:Model}{RK:aO->aO->Prop}{gp gq:Jc}{s1 s2:aj}{Γ:Ctx}
section
theorem eE{R':γ->δ->Prop}{m1 m2:StateT bf aJ α}{f:α->StateT bf aJ γ}{g:α->StateT bf aJ δ}(h:Sm M Γ s1 s2 RK gp gq Eq m1 m2)(hf:∀a,Sm M Γ s1 s2 RK gp gq R' (f a) (g a)):Sm M Γ s1 s2 RK gp gq R' (m1>>=f) (m2>>=g):=
 dF h λa b e=>by subst e;exact hf a
theorem Sm.mono{R R':α->β->Prop}{m1:StateT bf aJ α}{m2:StateT bf aJ β}(h:Sm M Γ s1 s2 RK gp gq R m1 m2)(hr:∀a b,R a b->R' a b):Sm M Γ s1 s2 RK gp gq R' m1 m2:=λlE lR r K p1 h1 Q hQ=>h lE lR r K p1 h1 Q λa b O0 Jd p' yL=>hQ a b O0 Jd p' (hr a b yL)
theorem rX{f g:Nat->α->StateT bf aJ (ForInStep α)}{a:α}(h:∀i a,Sm M Γ s1 s2 RK gp gq Eq (f i a) (g i a)):Sm M Γ s1 s2 RK gp gq Eq (forIn [lo:hi] a f) (forIn [lo:hi] a g):=
 rW (λi a b e=>by
  subst e
  exact(h i a).mono λx y e=>by
   subst e
   cases x with
   |yield a=>exact .inl ⟨a,a,rfl,rfl,rfl⟩
   |done a=>exact .inr ⟨a,a,rfl,rfl,rfl⟩) rfl
theorem y9{m1 m2:StateT bf aJ Unit}(h:Sm M Γ s1 s2 RK gp gq (λ_ _=>True) m1 m2):Sm M Γ s1 s2 RK gp gq Eq m1 m2:=h.mono λ_ _ _=>rfl
variable(hlt:∀x1 y1 x2 y2,RK x1 x2->RK y1 y2->Sm M Γ s1 s2 RK gp gq Eq (gn x1 y1) (gn x2 y2))
include hlt
theorem Nt(i j:Nat):Sm M Γ s1 s2 RK gp gq Eq (ltAt' i j) (ltAt' i j):=by
 rw[ltAt'_eq]
 refine dF sm_get λa b r=>dF (j8 r.arr i) λx1 x2 hx=>dF (j8 r.arr j) λy1 y2 hy=>hlt _ _ _ _ hx hy
omit hlt
theorem RA.swap{a b:Array aO}(h:RA RK a b)(i j:Nat):RA RK (a.swapIfInBounds i j) (b.swapIfInBounds i j):=by
 refine⟨by simp[h.1],λk x y hx hy=>?_⟩
 unfold Array.swapIfInBounds at hx hy
 by_cases hi:i<a.size
 ·have FD:i<b.size:=by rw[<-h.1];exact hi
  by_cases hj:j<a.size
  ·have hj':j<b.size:=by rw[<-h.1];exact hj
   rw[n4 hi,n4 hj,UU]at hx
   rw[n4 FD,n4 hj',UU]at hy
   by_cases e1:j=k
   ·rw[ax e1]at hx hy
    exact h.2 i x y (by rw[g7 hi];exact hx) (by rw[g7 FD];exact hy)
   ·rw[aq e1]at hx hy
    by_cases e2:i=k
    ·rw[ax e2]at hx hy
     exact h.2 j x y (by rw[g7 hj];exact hx) (by rw[g7 hj'];exact hy)
    ·rw[aq e2]at hx hy
     exact h.2 k x y hx hy
  ·have hj':¬j<b.size:=by rw[<-h.1];exact hj
   rw[n4 hi,dif_neg hj]at hx
   rw[n4 FD,dif_neg hj']at hy
   exact h.2 k x y hx hy
 ·have FD:¬i<b.size:=by rw[<-h.1];exact hi
  rw[dif_neg hi]at hx
  rw[dif_neg FD]at hy
  exact h.2 k x y hx hy
theorem jm{R:α->β->Prop}{c:Prop} [Decidable c]{x1 y1:StateT bf aJ α}{x2 y2:StateT bf aJ β}(h1:c->Sm M Γ s1 s2 RK gp gq R x1 x2)(h2:¬c->Sm M Γ s1 s2 RK gp gq R y1 y2):Sm M Γ s1 s2 RK gp gq R (if c then x1 else y1) (if c then x2 else y2):=by
 by_cases hc:c
 ·rw[ax hc,ax hc];exact h1 hc
 ·rw[aq hc,aq hc];exact h2 hc
theorem RS.setArr{lE lR:bf}(r:RS RK gp gq lE lR){a b:Array aO}(h:RA RK a b):RS RK gp gq (setArr lE a) (setArr lR b):=⟨r.k1,r.k2,h,r.pend,r.gal,r.f1,r.f2⟩
theorem RA.fold{ι:Type}{f:ι->Nat×Nat}:∀(l:List ι){a b:Array aO},RA RK a b->RA RK (l.foldl (λa k=>a.swapIfInBounds (f k).1 (f k).2) a) (l.foldl (λa k=>a.swapIfInBounds (f k).1 (f k).2) b)
 |[],a,b,h=>h
 |k::l,a,b,h=>RA.fold l (h.swap _ _)
theorem Jf(src dst:Nat):Sm M Γ s1 s2 RK gp gq Eq (moveDown' src dst) (moveDown' src dst):=by
 refine y9 (?_:Sm M Γ s1 s2 RK gp gq (λ_ _=>True) (modify λs=>setArr s ((aE (src-dst)).foldl (λa k=>a.swapIfInBounds (src-k) (src-k-1)) (cu s))) (modify λs=>setArr s ((aE (src-dst)).foldl (λa k=>a.swapIfInBounds (src-k) (src-k-1)) (cu s))))
 exact pb λa b r=>r.setArr (RA.fold (f:=λk=>(src-k,src-k-1)) _ r.arr)
theorem Ln(i j:Nat):Sm M Γ s1 s2 RK gp gq Eq (reverseSlice' i j) (reverseSlice' i j):=by
 refine y9 (?_:Sm M Γ s1 s2 RK gp gq (λ_ _=>True) (modify λs=>setArr s ((aE ((j-i)/2)).foldl (λa k=>a.swapIfInBounds (i+k) (j-1-k)) (cu s))) (modify λs=>setArr s ((aE ((j-i)/2)).foldl (λa k=>a.swapIfInBounds (i+k) (j-1-k)) (cu s))))
 exact pb λa b r=>r.setArr (RA.fold (f:=λk=>(i+k,j-1-k)) _ r.arr)
include hlt
theorem CU(lo n ok:Nat):Sm M Γ s1 s2 RK gp gq Eq (binarySort' lo n ok) (binarySort' lo n ok):=by
 rw[binarySort'_eq]
 refine eE (rX λk a=>?_) λr=>?_
 ·dsimp only
  refine eE (rX λ_ r=>?_) λr=>?_
  ·refine jm (λ_=>cX rfl) λ_=>eE (Nt hlt _ _) λb=>?_
   cases b with
   |none=>exact cX rfl
   |some b=>exact jm (λ_=>cX rfl) λ_=>cX rfl
  ·obtain⟨b,l,r⟩:=r
   cases b with
   |some b=>exact cX rfl
   |none=>exact eE (Jf _ _) λ_=>cX rfl
 ·obtain⟨b,r⟩:=r
  cases b with
  |some b=>exact cX rfl
  |none=>exact cX rfl
end
variable{a1 a2:Array aO}
section
theorem sW(t:String):Sm M Γ s1 s2 RK gp gq Eq (liftM (rule t):StateT bf aJ Unit) (liftM (rule t)):=by
 intro lE lR r K p1 h1 Q hQ E2 p2
 have h1:K () lE p1 s1:=h1
 exact(⟨rfl,hQ () () lE lR p1 rfl r h1⟩:s2=s2/\Q () lR)
theorem gC{R':γ->δ->Prop}{m1 m2:StateT bf aJ (Option α)}{f:Option α->StateT bf aJ γ}{g:Option α->StateT bf aJ δ}(h:Sm M Γ s1 s2 RK gp gq Eq m1 m2)(h1:Sm M Γ s1 s2 RK gp gq R' (f none) (g none))(h2:∀a,Sm M Γ s1 s2 RK gp gq R' (f (some a)) (g (some a))):Sm M Γ s1 s2 RK gp gq R' (m1>>=f) (m2>>=g):=
 eE h λa=>by cases a with
  |none=>exact h1
  |some a=>exact h2 a
theorem rY{R':γ->δ->Prop}{m1 m2:StateT bf aJ (Option α×β)}{f:Option α×β->StateT bf aJ γ}{g:Option α×β->StateT bf aJ δ}(h:Sm M Γ s1 s2 RK gp gq Eq m1 m2)(h1:∀b,Sm M Γ s1 s2 RK gp gq R' (f (none,b)) (g (none,b)))(h2:∀a b,Sm M Γ s1 s2 RK gp gq R' (f (some a,b)) (g (some a,b))):Sm M Γ s1 s2 RK gp gq R' (m1>>=f) (m2>>=g):=
 eE h λa=>by
  obtain⟨a,b⟩:=a
  cases a with
  |none=>exact h1 b
  |some a=>exact h2 a b
variable(hlt:∀x1 y1 x2 y2,RK x1 x2->RK y1 y2->Sm M Γ s1 s2 RK gp gq Eq (gn x1 y1) (gn x2 y2))
include hlt
theorem Jg(lo n:Nat):Sm M Γ s1 s2 RK gp gq Eq (countRun' lo n) (countRun' lo n):=by
 rw[countRun'_eq]
 repeat' (first
  |with_reducible exact cX rfl
  |with_reducible exact Nt hlt _ _
  |with_reducible exact Ln _ _
  |with_reducible exact sW _
  |with_reducible refine jm (λ_=>?_) (λ_=>?_)
  |with_reducible refine rY ?_ (λ_=>?_) (λ_ _=>?_)
  |with_reducible refine gC ?_ ?_ (λ_=>?_)
  |with_reducible refine eE ?_ (λ_=>?_)
  |with_reducible refine rX (λ_ _=>?_)
  |dsimp only)
theorem sX(left:Bool){k1 k2:aO}(hk:RK k1 k2)(ha:RA RK a1 a2)(base n hint:Nat):Sm M Γ s1 s2 RK gp gq Eq (gallop' left k1 a1 base n hint) (gallop' left k2 a2 base n hint):=by
 rw[gallop'_eq,gallop'_eq]
 have by_:∀i,Sm M Γ s1 s2 RK gp gq Eq (beyond' left k1 a1 base i) (beyond' left k2 a2 base i):=λi=>by
  unfold beyond'
  exact dF (j8 ha _) λx y hx=>jm (λ_=>hlt _ _ _ _ hx hk) λ_=>eE (hlt _ _ _ _ hk hx) λb=>cX rfl
 repeat' (first
  |with_reducible exact cX rfl
  |with_reducible exact by_ _
  |with_reducible refine jm (λ_=>?_) (λ_=>?_)
  |with_reducible refine rY ?_ (λ_=>?_) (λ_ _=>?_)
  |with_reducible refine gC ?_ ?_ (λ_=>?_)
  |with_reducible refine eE ?_ (λ_=>?_)
  |with_reducible refine rX (λ_ _=>?_)
  |dsimp only)
end
variable{o1 o2:Array aO}
section
theorem RA.nil:RA RK #[] #[]:=⟨rfl,λi x y h=>by simp at h⟩
theorem RA.push{a b:Array aO}(h:RA RK a b){x y:aO}(hx:RK x y):RA RK (a.push x) (b.push y):=by
 refine⟨by rw[UW,UW,h.1],λi u v hu hv=>?_⟩
 rw[Array.getElem?_push]at hu hv
 rw[<-h.1]at hv
 by_cases e:i=a.size
 ·rw[ax e]at hu hv
  cases hu;cases hv;exact hx
 ·rw[aq e]at hu hv
  exact h.2 i u v hu hv
theorem RA.append{a b c d:Array aO}(h:RA RK a b)(h':RA RK c d):RA RK (a++c) (b++d):=by
 refine⟨by rw[UX,UX,h.1,h'.1],λi u v hu hv=>?_⟩
 rw[Array.getElem?_append]at hu hv
 rw[<-h.1]at hv
 by_cases e:i<a.size
 ·rw[ax e]at hu hv;exact h.2 i u v hu hv
 ·rw[aq e]at hu hv;exact h'.2 _ u v hu hv
theorem RA.extract{a b:Array aO}(h:RA RK a b)(i j:Nat):RA RK (a.extract i j) (b.extract i j):=by
 refine⟨by rw[UY,UY,h.1],λk u v hu hv=>?_⟩
 rw[Array.getElem?_extract]at hu hv
 rw[<-h.1]at hv
 by_cases e:k<min j a.size-i
 ·rw[ax e]at hu hv;exact h.2 _ u v hu hv
 ·rw[aq e]at hu;cases hu
theorem RA.reverse{a b:Array aO}(h:RA RK a b):RA RK a.reverse b.reverse:=by
 refine⟨by rw[Jh,Jh,h.1],λi u v hu hv=>?_⟩
 have hi:i<a.size:=by have:=(mF.mp hu).1;rwa[Jh]at this
 rw[UZ hi]at hu
 rw[UZ (by rw[<-h.1];exact hi),<-h.1]at hv
 exact h.2 _ u v hu hv
theorem RA.one{x y:aO}(hx:RK x y):RA RK #[x] #[y]:=RA.push RA.nil hx
def RX(RK:aO->aO->Prop)(x y:Option (Array aO)×Array aO×γ):Prop:=((x.1=none/\y.1=none)\/∃a b,x.1=some a/\y.1=some b/\RA RK a b)/\RA RK x.2.1 y.2.1/\x.2.2=y.2.2
def RXS(RK:aO->aO->Prop)(x y:ForInStep (Option (Array aO)×Array aO×γ)):Prop:=(∃a b,x=.yield a/\y=.yield b/\RX RK a b)\/∃a b,x=.done a/\y=.done b/\RX RK a b
theorem y_{g:γ}(h:RA RK o1 o2):RX RK (none,o1,g) (none,o2,g):=⟨.inl ⟨rfl,rfl⟩,h,rfl⟩
theorem Nu{r1 r2:Array aO}{g:γ}(hr:RA RK r1 r2)(h:RA RK o1 o2):RX RK (some r1,o1,g) (some r2,o2,g):=⟨.inr ⟨_,_,rfl,rfl,hr⟩,h,rfl⟩
theorem Ji{a b:Option (Array aO)×Array aO×γ}(h:RX RK a b):Sm M Γ s1 s2 RK gp gq (RXS RK) (pure (kX a)) (pure (kX b)):=cX (.inl ⟨_,_,rfl,rfl,h⟩)
theorem Nv{a b:Option (Array aO)×Array aO×γ}(h:RX RK a b):Sm M Γ s1 s2 RK gp gq (RXS RK) (pure (wk a)) (pure (wk b)):=cX (.inr ⟨_,_,rfl,rfl,h⟩)
theorem Nw{f g:Nat->Option (Array aO)×Array aO×γ->StateT bf aJ (ForInStep (Option (Array aO)×Array aO×γ))}{a b:Option (Array aO)×Array aO×γ}(r:RX RK a b)(h:∀i r1 r2 o1 o2 c,RA RK o1 o2->Sm M Γ s1 s2 RK gp gq (RXS RK) (f i (r1,o1,c)) (g i (r2,o2,c))):Sm M Γ s1 s2 RK gp gq (RX RK) (forIn [lo:hi] a f) (forIn [lo:hi] b g):=
 rW (λi x y e=>by
  obtain⟨r1,o1,c1⟩:=x
  obtain⟨r2,o2,c2⟩:=y
  obtain⟨_,e2,e3⟩:=e
  have e3:c1=c2:=e3
  subst e3
  exact h i r1 r2 o1 o2 c1 e2) r
theorem Jj{R':α->β->Prop}{m1 m2:StateT bf aJ (Option (Array aO)×Array aO×γ)}{f:_->StateT bf aJ α}{g:_->StateT bf aJ β}(h:Sm M Γ s1 s2 RK gp gq (RX RK) m1 m2)(h1:∀o1 o2 c,RA RK o1 o2->Sm M Γ s1 s2 RK gp gq R' (f (none,o1,c)) (g (none,o2,c)))(h2:∀r1 r2 o1 o2 c,RA RK r1 r2->RA RK o1 o2->Sm M Γ s1 s2 RK gp gq R' (f (some r1,o1,c)) (g (some r2,o2,c))):Sm M Γ s1 s2 RK gp gq R' (m1>>=f) (m2>>=g):=
 dF h λx y e=>by
  obtain⟨r1,o1,c1⟩:=x
  obtain⟨r2,o2,c2⟩:=y
  obtain⟨e1,e2,e3⟩:=e
  have e3:c1=c2:=e3
  subst e3
  rcases e1 with⟨p,q⟩|⟨a,b,p,q,yL⟩
  ·have p:r1=none:=p
   have q:r2=none:=q
   subst p q
   exact h1 _ _ _ e2
  ·have p:r1=some a:=p
   have q:r2=some b:=q
   subst p q
   exact h2 _ _ _ _ _ yL e2
theorem wo(g:Nat):Sm M Γ s1 s2 RK gp gq Eq (setMinGallop' g) (setMinGallop' g):=by
 rw[setMinGallop'_eq]
 exact y9 (pb λa b r=>⟨r.k1,r.k2,r.arr,r.pend,rfl,r.f1,r.f2⟩)
theorem wq{R:α->β->Prop}(t:String){m:StateT bf aJ β}:Sm M Γ s1 s2 RK gp gq R (liftM (unsupported t:aJ α):StateT bf aJ α) m:=by
 intro lE lR r K p1 h1
 exact False.elim h1
variable(hlt:∀x1 y1 x2 y2,RK x1 x2->RK y1 y2->Sm M Γ s1 s2 RK gp gq Eq (gn x1 y1) (gn x2 y2))
include hlt
theorem Lo{b1 b2:Array aO}(ha:RA RK a1 a2)(hb:RA RK b1 b2):Sm M Γ s1 s2 RK gp gq (RA RK) (mergeLo' a1 b1) (mergeLo' a2 b2):=by
 rw[mergeLo'_eq,mergeLo'_eq,<-ha.1,<-hb.1]
 refine eE (sW _) λ_=>?_
 dsimp only
 refine dF (j8 hb _) λx y hx=>?_
 refine jm (λ_=>cX (((RA.one hx).append (ha.extract _ _)).append (hb.extract _ _))) λ_=>?_
 refine jm (λ_=>cX (((RA.one hx).append (hb.extract _ _)).append (ha.extract _ _))) λ_=>?_
 refine dF sm_get λu v r=>?_
 rw[r.gal]
 refine Jj (Nw (y_ (RA.one hx)) λ_ _ _ o1 o2 c ho=>?_) (λ_ _ _ _=>wq _) (λr1 r2 _ _ _ hr _=>cX hr)
 repeat' (first
  |with_reducible assumption
  |with_reducible exact sW _
  |with_reducible exact wo _
  |with_reducible refine Ji (y_ ?_)
  |with_reducible refine Ji (Nu ?_ ?_)
  |with_reducible refine Nv (y_ ?_)
  |with_reducible refine Nv (Nu ?_ ?_)
  |with_reducible refine jm (λ_=>?_) (λ_=>?_)
  |with_reducible refine Jj (Nw (y_ ?_) (λ_ _ _ _ _ _ _=>?_)) (λ_ _ _ _=>?_) (λ_ _ _ _ _ _ _=>?_)
  |with_reducible refine gC (hlt _ _ _ _ ?_ ?_) ?_ (λ_=>?_)
  |with_reducible refine gC (sX hlt _ ?_ ?_ _ _ _) ?_ (λ_=>?_)
  |with_reducible refine dF (j8 ha _) (λ_ _ _=>?_)
  |with_reducible refine dF (j8 hb _) (λ_ _ _=>?_)
  |with_reducible refine eE ?_ (λ_=>?_)
  |with_reducible refine RA.append ?_ ?_
  |with_reducible refine RA.push ?_ ?_
  |with_reducible refine RA.extract ?_ _ _
  |dsimp only)
end
variable{n:Nat}
section
def RY(RK:aO->aO->Prop)(x y:Option (Array aO)×Nat×Nat×Array aO×γ):Prop:=((x.1=none/\y.1=none)\/∃a b,x.1=some a/\y.1=some b/\RA RK a b)/\RA RK x.2.2.2.1 y.2.2.2.1/\x.2.1=y.2.1/\x.2.2.1=y.2.2.1/\x.2.2.2.2=y.2.2.2.2
def RYS(RK:aO->aO->Prop)(x y:ForInStep (Option (Array aO)×Nat×Nat×Array aO×γ)):Prop:=(∃a b,x=.yield a/\y=.yield b/\RY RK a b)\/∃a b,x=.done a/\y=.done b/\RY RK a b
theorem za{m:Nat}{g:γ}(h:RA RK o1 o2):RY RK (none,n,m,o1,g) (none,n,m,o2,g):=⟨.inl ⟨rfl,rfl⟩,h,rfl,rfl,rfl⟩
theorem Ny{m:Nat}{r1 r2:Array aO}{g:γ}(hr:RA RK r1 r2)(h:RA RK o1 o2):RY RK (some r1,n,m,o1,g) (some r2,n,m,o2,g):=⟨.inr ⟨_,_,rfl,rfl,hr⟩,h,rfl,rfl,rfl⟩
theorem DP{a b:Option (Array aO)×Nat×Nat×Array aO×γ}(h:RY RK a b):Sm M Γ s1 s2 RK gp gq (RYS RK) (pure (kX a)) (pure (kX b)):=cX (.inl ⟨_,_,rfl,rfl,h⟩)
theorem Jk{a b:Option (Array aO)×Nat×Nat×Array aO×γ}(h:RY RK a b):Sm M Γ s1 s2 RK gp gq (RYS RK) (pure (wk a)) (pure (wk b)):=cX (.inr ⟨_,_,rfl,rfl,h⟩)
theorem Nz{f g:Nat->Option (Array aO)×Nat×Nat×Array aO×γ->StateT bf aJ (ForInStep (Option (Array aO)×Nat×Nat×Array aO×γ))}{a b:Option (Array aO)×Nat×Nat×Array aO×γ}(r:RY RK a b)(h:∀i r1 r2 n m o1 o2 c,RA RK o1 o2->Sm M Γ s1 s2 RK gp gq (RYS RK) (f i (r1,n,m,o1,c)) (g i (r2,n,m,o2,c))):Sm M Γ s1 s2 RK gp gq (RY RK) (forIn [lo:hi] a f) (forIn [lo:hi] b g):=
 rW (λi x y e=>by
  obtain⟨r1,n1,m1,o1,c1⟩:=x
  obtain⟨r2,n2,m2,o2,c2⟩:=y
  obtain⟨_,e2,e3,e4,e5⟩:=e
  have e3:n1=n2:=e3
  have e4:m1=m2:=e4
  have e5:c1=c2:=e5
  subst e3 e4 e5
  exact h i r1 r2 n1 m1 o1 o2 c1 e2) r
theorem Jl{R':α->β->Prop}{m1 m2:StateT bf aJ (Option (Array aO)×Nat×Nat×Array aO×γ)}{f:_->StateT bf aJ α}{g:_->StateT bf aJ β}(h:Sm M Γ s1 s2 RK gp gq (RY RK) m1 m2)(h1:∀n m o1 o2 c,RA RK o1 o2->Sm M Γ s1 s2 RK gp gq R' (f (none,n,m,o1,c)) (g (none,n,m,o2,c)))(h2:∀r1 r2 n m o1 o2 c,RA RK r1 r2->RA RK o1 o2->Sm M Γ s1 s2 RK gp gq R' (f (some r1,n,m,o1,c)) (g (some r2,n,m,o2,c))):Sm M Γ s1 s2 RK gp gq R' (m1>>=f) (m2>>=g):=
 dF h λx y e=>by
  obtain⟨r1,n1,m1,o1,c1⟩:=x
  obtain⟨r2,n2,m2,o2,c2⟩:=y
  obtain⟨e1,e2,e3,e4,e5⟩:=e
  have e3:n1=n2:=e3
  have e4:m1=m2:=e4
  have e5:c1=c2:=e5
  subst e3 e4 e5
  rcases e1 with⟨p,q⟩|⟨a,b,p,q,yL⟩
  ·have p:r1=none:=p
   have q:r2=none:=q
   subst p q
   exact h1 _ _ _ _ _ e2
  ·have p:r1=some a:=p
   have q:r2=some b:=q
   subst p q
   exact h2 _ _ _ _ _ _ _ yL e2
variable(hlt:∀x1 y1 x2 y2,RK x1 x2->RK y1 y2->Sm M Γ s1 s2 RK gp gq Eq (gn x1 y1) (gn x2 y2))
include hlt
theorem Lp{b1 b2:Array aO}(ha:RA RK a1 a2)(hb:RA RK b1 b2):Sm M Γ s1 s2 RK gp gq (RA RK) (mergeHi' a1 b1) (mergeHi' a2 b2):=by
 rw[mergeHi'_eq,mergeHi'_eq,<-ha.1,<-hb.1]
 refine eE (sW _) λ_=>?_
 dsimp only
 refine dF (j8 ha _) λx y hx=>?_
 refine jm (λ_=>cX (((ha.extract _ _).append (hb.extract _ _)).append (RA.one hx).reverse)) λ_=>?_
 refine jm (λ_=>cX (((hb.extract _ _).append (ha.extract _ _)).append (RA.one hx).reverse)) λ_=>?_
 refine dF sm_get λu v r=>?_
 rw[r.gal]
 refine Jl (Nz (za (RA.one hx)) λ_ _ _ _ _ o1 o2 c ho=>?_) (λ_ _ _ _ _ _=>wq _) (λr1 r2 _ _ _ _ _ hr _=>cX hr)
 repeat' (first
  |with_reducible assumption
  |with_reducible exact sW _
  |with_reducible exact wo _
  |with_reducible refine DP (za ?_)
  |with_reducible refine DP (Ny ?_ ?_)
  |with_reducible refine Jk (za ?_)
  |with_reducible refine Jk (Ny ?_ ?_)
  |with_reducible refine jm (λ_=>?_) (λ_=>?_)
  |with_reducible refine Jl (Nz (za ?_) (λ_ _ _ _ _ _ _ _ _=>?_)) (λ_ _ _ _ _ _=>?_) (λ_ _ _ _ _ _ _ _ _=>?_)
  |with_reducible refine gC (hlt _ _ _ _ ?_ ?_) ?_ (λ_=>?_)
  |with_reducible refine gC (sX hlt _ ?_ ?_ _ _ _) ?_ (λ_=>?_)
  |with_reducible refine dF (j8 ha _) (λ_ _ _=>?_)
  |with_reducible refine dF (j8 hb _) (λ_ _ _=>?_)
  |with_reducible refine eE ?_ (λ_=>?_)
  |with_reducible refine RA.append ?_ ?_
  |with_reducible refine RA.push ?_ ?_
  |with_reducible refine RA.reverse ?_
  |with_reducible refine RA.extract ?_ _ _
  |dsimp only)
end
section
theorem abQ{u v:bf}(h:RS RK gp gq u v):Sm M Γ s1 s2 RK gp gq Eq (set u:StateT bf aJ PUnit) (set v:StateT bf aJ PUnit):=by
 intro lE lR r K p1 h1 Q hQ E2 p2
 have h1:K ⟨⟩ u p1 s1:=h1
 exact(⟨rfl,hQ ⟨⟩ ⟨⟩ u v p1 rfl h h1⟩:s2=s2/\Q ⟨⟩ v)
theorem RS.setPending{u v:bf}(r:RS RK gp gq u v)(p:Array (Nat×Nat×Nat)):RS RK gp gq (setPending u p) (setPending v p):=⟨r.k1,r.k2,r.arr,rfl,r.gal,r.f1,r.f2⟩
theorem RA.setAt{a b:Array aO}(h:RA RK a b){x y:aO}(hx:RK x y)(i:Nat):RA RK (a.setIfInBounds i x) (b.setIfInBounds i y):=by
 refine⟨by rw[HP,HP,h.1],λk u v hu hv=>?_⟩
 rw[Array.getElem?_setIfInBounds]at hu hv
 rw[<-h.1]at hv
 by_cases e:i=k
 ·rw[ax e]at hu hv
  by_cases e2:i<a.size
  ·rw[ax e2]at hu hv
   cases hu;cases hv;exact hx
  ·rw[aq e2]at hu;cases hu
 ·rw[aq e]at hu hv
  exact h.2 k u v hu hv
theorem RA.cells{a b:Array aO}(sa:Nat):∀(l1 l2:List aO)(j:Nat),l1.length=l2.length->(∀(i:Nat)(x y:aO),l1[i]?=some x->l2[i]?=some y->RK x y)->∀{a b:Array aO},RA RK a b->RA RK ((l1.zipIdx j).foldl (λa(p:aO×Nat)=>a.setIfInBounds (sa+p.2) p.1) a) ((l2.zipIdx j).foldl (λa(p:aO×Nat)=>a.setIfInBounds (sa+p.2) p.1) b)
 |[],[],j,_,_,a,b,h=>h
 |[],_::_,j,e,_,_,_,_=>by simp at e
 |_::_,[],j,e,_,_,_,_=>by simp at e
 |x::l1,y::l2,j,e,hr,a,b,h=>by
  rw[BO,BO,fK,fK]
  exact RA.cells (a:=a) (b:=b) sa l1 l2 (j+1) (by simpa using e) (λi u v hu hv=>hr (i+1) u v (by simpa using hu) (by simpa using hv)) (h.setAt (hr 0 x y rfl rfl) _)
theorem RA.put{m1 m2:Array aO}(hm:RA RK m1 m2)(sa:Nat){a b:Array aO}(h:RA RK a b):
  RA RK (m1.toList.zipIdx.foldl (λa(p:aO×Nat)=>a.setIfInBounds (sa+p.2) p.1) a) (m2.toList.zipIdx.foldl (λa(p:aO×Nat)=>a.setIfInBounds (sa+p.2) p.1) b):=
 RA.cells (a:=a) (b:=b) sa _ _ 0 (by simpa using hm.1) (λi x y hx hy=>hm.2 i x y (by simpa using hx) (by simpa using hy)) h
variable(hlt:∀x1 y1 x2 y2,RK x1 x2->RK y1 y2->Sm M Γ s1 s2 RK gp gq Eq (gn x1 y1) (gn x2 y2))
include hlt
theorem Lq(i:Nat):Sm M Γ s1 s2 RK gp gq Eq (mergeAt' i) (mergeAt' i):=by
 rw[mergeAt'_eq]
 refine dF sm_get λu v r=>?_
 rw[r.pend]
 cases h1:(rV v)[i]?with
 |none=>exact wq _
 |some x=>
  obtain⟨sa,na,pw⟩:=x
  cases h2:(rV v)[i+1]?with
  |none=>exact wq _
  |some y=>
   obtain⟨sb,nb,pw2⟩:=y
   dsimp only
   refine eE (abQ (r.setPending _)) λ_=>?_
   have fin:∀{m1 m2:Array aO}(j:Nat),RA RK m1 m2->Sm M Γ s1 s2 RK gp gq Eq (do
     modify λs=>setArr s (m1.toList.zipIdx.foldl (λa(p,k)=>a.setIfInBounds (j+k) p) (cu s))
     return (mM (<-get)).isNone:StateT bf aJ Bool) (do
     modify λs=>setArr s (m2.toList.zipIdx.foldl (λa(p,k)=>a.setIfInBounds (j+k) p) (cu s))
     return (mM (<-get)).isNone):=λ{m1 m2}j hm=>
    dF (pb λa b r=>r.setArr (hm.put j r.arr)) λ_ _ _=>dF sm_get λu v r=>cX (by rw[r.f1,r.f2])
   refine dF (j8 r.arr _) λx y hx=>gC (sX hlt _ hx r.arr _ _ _) (cX rfl) λk=>?_
   dsimp only
   refine jm (λ_=>cX rfl) λ_=>?_
   refine dF (j8 r.arr _) λx y hx=>gC (sX hlt _ hx r.arr _ _ _) (cX rfl) λnb=>?_
   dsimp only
   refine jm (λ_=>cX rfl) λ_=>?_
   refine jm (λ_=>?_) λ_=>?_
   ·exact dF (Lo hlt (r.arr.extract _ _) (r.arr.extract _ _)) λm1 m2 hm=>fin _ hm
   ·exact dF (Lp hlt (r.arr.extract _ _) (r.arr.extract _ _)) λm1 m2 hm=>fin _ hm
theorem Jm:Sm M Γ s1 s2 RK gp gq Eq Jn Jn:=by
 rw[sortRuns'_eq]
 refine dF sm_get λu v r=>?_
 rw[r.arr.1]
 repeat' (first
  |with_reducible exact cX rfl
  |with_reducible exact sW _
  |with_reducible exact Jg hlt _ _
  |with_reducible exact CU hlt _ _ _
  |with_reducible exact Lq hlt _
  |(with_reducible refine y9 (pb λ_ _ r=>?_);rw[r.pend];exact r.setPending _)
  |(with_reducible refine dF sm_get (λ_ _ r=>?_);rw[r.pend])
  |with_reducible refine jm (λ_=>?_) (λ_=>?_)
  |with_reducible refine rY ?_ (λ_=>?_) (λ_ _=>?_)
  |with_reducible refine gC ?_ ?_ (λ_=>?_)
  |with_reducible refine eE ?_ (λ_=>?_)
  |with_reducible refine rX (λ_ _=>?_)
  |split
  |dsimp only)
end
abbrev nObj(r:Nat):aG:={cls:=.type "tuple",data:=.seq (k_ r eh) 0}
def hR(rk:Nat->Nat)(n:Nat):aH:={objs:=((aE n).map λi=>nObj (rk i)).toArray}
def sR(rk:Nat->Nat)(n:Nat):aj:={heap:=hR rk n}
variable{A:dr}{E:af->aj->Prop}{a:aa}{i j:Nat}{items:Array af}{p:cK}{prog:cQ}{rk:Nat->Nat}{s:aj}{v:af}{w:bC}
theorem U0(rk:Nat->Nat)(hi:i<n):(hR rk n).get? i=some (nObj (rk i)):=by
 rw[aH.get?_eq_some]
 refine⟨?_,rfl⟩
 unfold hR
 simp[hi]
theorem Jo{o:aG}(ho:s.heap.get? a=some o)(hd:o.data=.seq items n){Q:Array af->cK->aj->Prop}{E:af->cK->aj->Prop}:
  wp M Γ (mL (.ref a)) Q E p s↔Q items p s:=by
 unfold mL IW
 simp only[rZ,aJ.wp_cmd_load]
 constructor
 ·rintro⟨o',h1,h2⟩
  rw[ho]at h1
  obtain rfl:=bO h1
  rw[hd]at h2
  exact h2
 ·intro h
  refine⟨o,ho,?_⟩
  rw[hd]
  exact h
theorem O1{Q:Bool->cK->aj->Prop}{E:af->cK->aj->Prop}:wp M Γ (eqBool .none .none) Q E p s↔Q true p s:=by
 unfold eqBool
 rw[aJ.wp_holding]
 rw[ax (show(eh==eh)=true from rfl)]
 exact BP
theorem Jp{b:Bool}:∀(l:List ((af×af)×Nat)),(∀e∈l,e.1=(eh,eh))->∀{Q:Option Bool×Unit->cK->aj->Prop}{E:af->cK->aj->Prop}{p:cK},wp M Γ (forIn l ((none,()):Option Bool×Unit) λ(x:(af×af)×Nat)(_:Option Bool×Unit)=>do
   if(!(<-eqBool x.1.1 x.1.2))=true then do
    let r<-oneLt' (b&&x.2==0) x.1.1 x.1.2
    pure (wk (some r,()))
   else pure (kX ((none,()):Option Bool×Unit))) Q E p s↔Q (none,()) p s
 |[],_,Q,E,p=>by rw[va];exact BP
 |x::l,h,Q,E,p=>by
  rw[z8,rZ]
  obtain⟨⟨u,v⟩,k⟩:=x
  have e:=h _ (.head _)
  injection e with e1 e2
  subst e1 e2
  dsimp only
  rw[rZ,O1]
  simp only[v8,dO,cn]
  exact Jp l λe he=>h e (.tail _ he)
theorem Jq{b:Bool}(hi:i<n)(hj:j<n){Q:Bool->cK->aj->Prop}{E:af->cK->aj->Prop}:
  wp M Γ (r6 (pd b) (.ref i) (.ref j)) Q E p (sR rk n)↔Q (decide (rk i<rk j)) p (sR rk n):=by
 rw[kat_lt_eq,rZ,Jo (s:=sR rk n) (U0 rk hi) rfl,rZ,Jo (s:=sR rk n) (U0 rk hj) rfl,rZ]
 refine Iff.trans (Jp (b:=b) _ λe he=>?_) ?_
 ·have h1:e.1∈k9 (k_ (rk i) eh).toList (k_ (rk j) eh).toList:=List.fst_mem_of_mem_zipIdx he
  obtain⟨h2,h3⟩:=uR (a:=e.1.1) (b:=e.1.2) h1
  rw[Array.toList_replicate]at h2 h3
  exact rE (U1 h2) (U1 h3)
 ·show Q (decide ((k_ (rk i) eh).size<(k_ (rk j) eh).size)) p _↔_
  rw[U2,U2]
@[reducible] def xD (rk:Nat->Nat) (n:Nat):KeyKind where
 α:=Int
 blt a b:=decide (a<b)
 irrefl a:=by simp
 trans a b c h1 h2:=by simp only[bN]at*;omega
 negTrans a b c h:=by simp only[bN]at*;omega
 total a b h1 h2:=by simp only[fz]at*;omega
 keyOf v:=match v with| .ref i=>if i<n then some (rk i:Int)else none|_=>none
 dflt:=0
theorem NA{a:Int}(h:(xD rk n).keyOf v=some a):∃i,i<n/\v=.ref i/\a=(rk i:Int):=by
 cases v with
 |ref i=>
  have h:(if i<n then some (rk i:Int)else none)=some a:=h
  by_cases hi:i<n
  ·rw[ax hi]at h
   exact⟨i,hi,rfl,(bO h).symm⟩
  ·rw[aq hi]at h;cases h
 |_=>cases h
theorem Yv(prog:cQ)(w:bC)(rk:Nat->Nat)(n:Nat):PyProof.Rows.G.LtAt prog w (sR rk n) (xD rk n) (pd true):=by
 intro A E x y a b Q ha hb h
 obtain⟨i,hi,rfl,rfl⟩:=NA ha
 obtain⟨j,hj,rfl,rfl⟩:=NA hb
 intro Γ p hΓ
 refine(Jq hi hj).mpr ?_
 have:decide ((rk i:Int)<(rk j:Int))=decide (rk i<rk j):=by simp
 have h:Q (decide ((rk i:Int)<(rk j:Int))) (sR rk n):=h
 rw[this]at h
 exact h
section
variable{q:Nat->aa}
def RQ(n:Nat)(q:Nat->aa)(x y:aO):Prop:=∃i,i<n/\x=(.ref i,.ref i)/\y=(.ref (q i),.ref (q i))
theorem aaa{x y:aO}{st:bf}{Q:Option Bool×bf->cK->aj->Prop}{E:af->cK->aj->Prop}:wp M Γ ((gn x y).run st) Q E p s↔
  wp M Γ (r6 (kindOf st) x.1 y.1) (λb p' s'=>Q (some b,st) p' s') (λe p' s'=>Q (none,r8 (kindOf st) (cu st) (rV st) (BL st) (some e)) p' s') p s:=by
 have e:(gn x y).run st=BM (BM ((r6 (kindOf st) x.1 y.1).attempt) (λa=>pure (a,st))) (λr=>((match r.1 with
   | .ok b=>pure (some b)
   | .error e=>do modify (λs=>r8 (kindOf s) (cu s) (rV s) (BL s) (some e));return none):StateT bf aJ (Option Bool)).run r.2):=by
  rw[lt'_eq];rfl
 rw[e,Je,Je,aJ.wp_attempt]
 exact BP
theorem abR(hc:∀i j,i<n->j<n->wpAny (ay prog w) A (r6 mN (.ref (q i)) (.ref (q j))) (λb s'=>b=decide (rk i<rk j)/\s'=s2) (λ_ _=>False) s2)(hΓ:Γ.In A):
  ∀x1 y1 x2 y2,RQ n q x1 x2->RQ n q y1 y2->Sm (ay prog w) Γ (sR rk n) s2 (RQ n q) (pd true) mN Eq (gn x1 y1) (gn x2 y2):=by
 rintro x1 y1 x2 y2 ⟨i,hi,rfl,rfl⟩ ⟨j,hj,rfl,rfl⟩ lE lR r K p1 h1 Q hQ E2 p2
 rw[aaa,r.k1]at h1
 have h1:=(Jq hi hj).mp h1
 have h1:K (some (decide (rk i<rk j))) lE p1 (sR rk n):=h1
 rw[aaa,r.k2]
 refine US _ Γ _ (λb p' s' hb=>?_) (λe p' s' h=>h.elim) p2 s2 (hc i j hi hj Γ p2 hΓ)
 obtain⟨rfl,rfl⟩:=hb
 exact(⟨rfl,hQ _ _ lE lR p1 rfl r h1⟩:_/\_)
def Lr:af->Nat
 | .ref i=>i
 |_=>0
theorem Ls(hn:2<=n)(hc:∀i j,i<n->j<n->wpAny (ay prog w) A (r6 mN (.ref (q i)) (.ref (q j))) (λb s'=>b=decide (rk i<rk j)/\s'=s2) (λ_ _=>False) s2){Q:Unit->bf->Prop}(h:∀(tD:bf)(is:List Nat),is.Perm (aE n)->is.Pairwise (λi j=>rk i<=rk j)->(cu tD).toList=is.map (λi=>((.ref (q i),.ref (q i)):aO))->mM tD=none->Q () tD):
  wpS (ay prog w) A E s2 Jn Q (r8 mN (eP ((aE n).map λi=>aK (q i))) #[] 7 none):=by
 intro Γ p hΓ
 have kk:KeysOf (xD rk n) (eP ((aE n).map aK)):=λx hx=>by
  rw[wg]at hx
  obtain⟨h1,_⟩:=uR (a:=x.1) (b:=x.2) hx
  obtain⟨i,hi,e⟩:=aM.mp h1
  rw[<-e]
  exact⟨(rk i:Int),by show(if i<n then _ else _)=_;rw[ax (bY.mp hi)]⟩
 have aiV:=PyProof.Rows.G.wpS_sortRunsSt (prog:=prog) (w:=w) (A:=A) (E:=λ_ _=>False) (s:=sR rk n) (κ:=xD rk n) (kd:=pd true) (a₀:=eP ((aE n).map aK)) (st:=r8 (pd true) (eP ((aE n).map aK)) #[] 7 none)
  (Q:=λ_ tD=>(cu tD).Perm (eP ((aE n).map aK))/\mM tD=none/\SortedToK (xD rk n) (cu tD) (eP ((aE n).map aK)).size)
  (Yv prog w rk n) kk ⟨Array.Perm.refl _,rfl,rfl⟩ rfl (Stable.refl _) (by rw[wt];simpa using hn) λtD a1 a2 a3 _=>⟨a1,a2,a3⟩
 have rs:RS (RQ n q) (pd true) mN (r8 (pd true) (eP ((aE n).map aK)) #[] 7 none) (r8 mN (eP ((aE n).map λi=>aK (q i))) #[] 7 none):=by
  refine⟨rfl,rfl,⟨?_,λi x y hx hy=>?_⟩,rfl,rfl,rfl,rfl⟩
  ·show(eP _).size=(eP _).size
   rw[wt,wt];simp
  ·have hx:(eP ((aE n).map aK)).toList[i]?=some x:=by rw[ji];exact hx
   have hy:(eP ((aE n).map λi=>aK (q i))).toList[i]?=some y:=by rw[ji];exact hy
   rw[wg,vC,bz]at hx hy
   by_cases hi:i<n
   ·rw[mw hi]at hx hy
    obtain⟨hx1,ZN⟩:=hx
    obtain⟨hy1,ZO⟩:=hy
    exact⟨i,hi,rE (bO hx1).symm (bO ZN).symm,rE (bO hy1).symm (bO ZO).symm⟩
   ·rw[eR (by simpa using hi)]at hx
    cases hx.1
 refine Jm (abR hc hΓ) _ _ rs (λ_ tD _ s'=>s'=sR rk n/\(cu tD).Perm (eP ((aE n).map aK))/\mM tD=none/\SortedToK (xD rk n) (cu tD) (eP ((aE n).map aK)).size) p (aiV Γ p hΓ) Q (λa b lE lR p' _ r hk=>?_) _ p
 obtain⟨_,hp,_,hs⟩:=hk
 have e0:(eP ((aE n).map aK)).toList=(aE n).map λi=>((.ref i,.ref i):aO):=by
  rw[wg,AH]
 have Xi:(cu lE).toList.Perm ((aE n).map λi=>((.ref i,.ref i):aO)):=by rw[<-e0];exact UG.mp hp
 have el:∀x∈(cu lE).toList,∃i,i<n/\x=(.ref i,.ref i):=λx hx=>by
  obtain⟨i,hi,e⟩:=aM.mp (Xi.mem_iff.mp hx)
  exact⟨i,bY.mp hi,e.symm⟩
 have isP:((cu lE).toList.map λx=>Lr x.1).Perm (aE n):=by
  refine(Xi.map λx=>Lr x.1).trans ?_
  rw[cg]
  have e:((λx:aO=>Lr x.1)∘λi:Nat=>((.ref i,.ref i):aO))=id:=rfl
  rw[e,Jb]
 have sz:(cu lE).size=n:=by have:=isP.length_eq;simpa using this
 have back:∀(k:Nat)(i:Nat),((cu lE).toList.map λx=>Lr x.1)[k]?=some i->(cu lE)[k]?=some (.ref i,.ref i)/\i<n:=λk i e=>by
  rw[bz]at e
  cases hx:(cu lE).toList[k]?with
  |none=>rw[hx]at e;cases e
  |some x=>
   rw[hx]at e
   obtain⟨j,hj,rfl⟩:=el x (cC hx)
   have e:j=i:=bO e
   subst e
   exact⟨by rw[<-ji];exact hx,hj⟩
 refine h lR _ isP ?_ ?_ r.f2
 ·rw[AW]
  intro a b ha hb yL
  obtain⟨e1,l1⟩:=back a _ (bT ha)
  obtain⟨e2,l2⟩:=back b _ (bT hb)
  have Ec:b<n:=by rw[aA,dj,sz]at hb;exact hb
  have z:=hs a b (iU yL) (by rw[wt];simpa using Ec)
  generalize ((cu lE).toList.map λx=>Lr x.1)[a]=ia at e1 l1⊢
  generalize ((cu lE).toList.map λx=>Lr x.1)[b]=ib at e2 l2⊢
  unfold KK at z
  rw[e1,e2]at z
  have z:decide ((((if ib<n then some (rk ib:Int)else none):Option Int).getD 0)<(((if ia<n then some (rk ia:Int)else none):Option Int).getD 0))=false:=z
  rw[ax l1,ax l2]at z
  have z:=of_decide_eq_false z
  have z:¬((rk ib:Int)<(rk ia:Int)):=z
  omega
 ·apply jc
  intro k
  rw[ji,bz]
  cases hk:((cu lE).toList.map λx=>Lr x.1)[k]?with
  |none=>
   have:¬k<(cu lE).size:=by
    have:=FW.mp hk
    rw[aA,dj]at this
    omega
   rw[qT (by rw[<-r.arr.1];omega)];rfl
  |some i=>
   obtain⟨e1,l1⟩:=back k i hk
   have hlt:k<(cu lR).size:=by rw[<-r.arr.1];exact(mF.mp e1).1
   have e2:(cu lR)[k]?=some (cu lR)[k]:=g7 hlt
   obtain⟨i',_,x1,x2⟩:=r.arr.2 k _ _ e1 e2
   injection x1 with x1 _
   injection x1 with x1
   subst x1
   rw[e2,x2];rfl
end
end Bt
namespace Bt
open PySem PyProof.Rows
variable{A:dr}{E:af->aj->Prop}{R:Result->aj->Prop}{a b l:aa}{i j n:Nat}{ns:List Int}{prog:cQ}{qs:List aa}{s:aj}{vs:List af}{w:bC}
theorem Yw{xs ys:Array af}(hl:s.heap.IsList l xs)(hb:s.heap.IsList b ys):∀(vs us:List af)(k:Nat)(ns ms:List Int),k<=xs.size->k<=ys.size->xs.toList.drop k=vs->ys.toList.drop k=us->fL vs ns->fL us ms->R (.ok (.ret (.bool (HT.lexLt ns ms)))) s->codeAny (ay prog w) A (.builtin "list.__eq__.loop" ⟨[.ref l,.ref b,oj (k:Int),oj 0],[]⟩) R s:=by
 obtain⟨ol,Xk,_,nl,ZL⟩:=id hl
 obtain⟨ob,hob,_,nb,CC⟩:=id hb
 have get_:∀{zs:Array af}{k:Nat}{vs:List af},zs.toList.drop k=vs->zs[k]?=vs.head?:=λ{zs k vs}e=>by
  rw[<-e,List.head?_drop,ji]
 have O2:∀{zs:Array af}{k:Nat}{vs:List af},zs.toList.drop k=vs->k<=zs.size->zs.size=k+vs.length:=λ{zs k vs}e hk=>by
  rw[<-e,gG,dj];omega
 intro vs
 induction vs with
 |nil=>
  intro us k ns ms k1 k2 e1 e2 i1 i2 hR
  cases i1
  refine gK Jr ?_
  rw[jO wu _]
  refine(?_:wpAny _ A.in1 (mL (.ref l)>>=_) _ _ _)
  refine au (gO Xk ZL (au (gO hob CC ?_)))
  rw[jK,get_ e1]
  refine(?_:wpAny _ A.in1 (mL (.ref l)>>=_) _ _ _)
  refine au (gO Xk ZL (au (gO hob CC (aC ?_))))
  have q:decide (xs.size<ys.size)=HT.lexLt [] ms:=by
   rw[O2 e1 k1,O2 e2 k2,i2.length]
   cases ms<;>simp[HT.lexLt]
  refine(?_:R (.ok (.ret (.bool (decide (xs.size<ys.size))))) s)
  rw[q];exact hR
 |cons v vs ih=>
  intro us k ns ms k1 k2 e1 e2 i1 i2 hR
  cases i1 with
  |@cons n t _ Qk i1=>
   cases i2 with
   |nil=>
    refine gK Jr ?_
    rw[jO wu _]
    refine(?_:wpAny _ A.in1 (mL (.ref l)>>=_) _ _ _)
    refine au (gO Xk ZL (au (gO hob CC ?_)))
    rw[jK,get_ e1,get_ e2]
    refine(?_:wpAny _ A.in1 (mL (.ref l)>>=_) _ _ _)
    refine au (gO Xk ZL (au (gO hob CC (aC ?_))))
    have q:decide (xs.size<ys.size)=HT.lexLt (n::Qk) []:=by
     rw[O2 e1 k1,O2 e2 k2]
     simp[HT.lexLt]
    refine(?_:R (.ok (.ret (.bool (decide (xs.size<ys.size))))) s)
    rw[q];exact hR
   |@cons m u us' ms' i2=>
    refine gK Jr ?_
    rw[jO wu _]
    refine(?_:wpAny _ A.in1 (mL (.ref l)>>=_) _ _ _)
    refine au (gO Xk ZL (au (gO hob CC ?_)))
    rw[jK,get_ e1,get_ e2]
    refine(?_:wpAny _ A.in1 (eqBool (.int n t) (.int m u)>>=_) _ _ _)
    refine au (Qq ?_)
    rw[HT.lZ]at hR
    by_cases hnm:n=m
    ·subst hnm
     rw[ax (f9 n)]
     rw[ax rfl]at hR
     have s1:=O2 e1 k1
     have s2:=O2 e2 k2
     rw[aS]at s1 s2
     have d1:xs.toList.drop (k+1)=vs:=by
      have:=congrArg (vN 1) e1
      simpa[HS,qH]using this
     have d2:ys.toList.drop (k+1)=us':=by
      have:=congrArg (vN 1) e2
      simpa[HS,qH]using this
     refine aC ⟨gi wu _,?_⟩
     have:=ih us' (k+1) Qk ms' oo oo d1 d2 i1 i2 hR
     rw[Js]at this
     exact this
    ·rw[aq (by simpa using hnm)]
     rw[aq hnm]at hR
     refine au (gO Xk ZL (au (gO hob CC ?_)))
     rw[get_ e1,get_ e2]
     refine(?_:wpAny _ A.in1 (fh .Lt (.int n t) (.int m u)>>=_) _ _ _)
     refine au (wpAny_lt_int (aC ?_))
     exact hR
theorem abS(hu:A.units<cp){xs ys:Array af}{ms:List Int}(hl:s.heap.IsList l xs)(hb:s.heap.IsList b ys)(i1:fL xs.toList ns)(i2:fL ys.toList ms){Q:Bool->aj->Prop}(h:Q (HT.lexLt ns ms) s):
  wpAny (ay prog w) A (r6 mN (.ref l) (.ref b)) Q E s:=by
 rw[keyLt'_oneType,oneLt'_eq]
 simp only[de]
 refine au (wpAny_cRoomFor_or (.inr hu) ?_)
 refine au (wpAny_callSpecialIfBound?_slot hl.typeIs Jt ?_)
 refine zS (Uc Jt.plain PySem.F.entry_list_lt (Jt.check _ _ _ _ _ _ _ _ hl.typeIs (PySem.F.args_list_lt_2 _ _) ?_))
 refine(?_:wpAny _ A.in1 (isInstance (.ref b) (.type "list")>>=_) _ _ _)
 refine au (BE (b:=true) hb.typeIs (by rw[BC];kernel_rfl) ?_)
 refine aC ⟨gi wu _,Yw hl hb xs.toList ys.toList 0 ns ms (bI _) (bI _) rfl rfl i1 i2 ?_⟩
 exact kJ h
theorem lex_irrefl:∀a:List Int,HT.lexLt a a=false
 |[]=>rfl
 |x::a=>by rw[HT.lZ,ax rfl];exact lex_irrefl a
theorem NB:∀{a b c:List Int},HT.lexLt a c=true->HT.lexLt a b=true\/HT.lexLt b c=true
 |[],[],[],h=>by cases h
 |[],[],_::_,h=>.inr rfl
 |[],_::_,_,h=>.inl rfl
 |_::_,_,[],h=>by cases h
 |_::_,[],_::_,h=>.inr rfl
 |x::a,y::b,z::c,h=>by
  rw[HT.lZ]at h⊢
  rw[HT.lZ]
  by_cases e1:x=y
  ·subst e1
   rw[ax rfl]
   by_cases e2:x=z
   ·subst e2
    rw[ax rfl]at h⊢
    exact NB h
   ·rw[aq e2]at h⊢
    exact .inr h
  ·rw[aq e1]
   by_cases e2:x=z
   ·subst e2
    rw[aq (λq=>e1 q.symm)]
    rcases Int.lt_or_gt_of_ne e1 with q|q
    ·exact .inl (by simpa using q)
    ·exact .inr (by simpa using q)
   ·rw[aq e2]at h
    have h:x<z:=by simpa using h
    by_cases e3:y=z
    ·exact .inl (by simp;omega)
    ·rw[aq e3]
     by_cases e4:x<y
     ·exact .inl (by simpa using e4)
     ·exact .inr (by simp;omega)
theorem lex_trans:∀{a b c:List Int},HT.lexLt a b=true->HT.lexLt b c=true->HT.lexLt a c=true
 |[],[],_,h,_=>by cases h
 |[],_::_,[],_,h=>by cases h
 |[],_::_,_::_,_,_=>rfl
 |_::_,[],_,h,_=>by cases h
 |_::_,_::_,[],_,h=>by cases h
 |x::a,y::b,z::c,h1,h2=>by
  rw[HT.lZ]at h1 h2⊢
  by_cases e1:x=y
  ·subst e1
   rw[ax rfl]at h1
   by_cases e2:x=z
   ·rw[ax e2]at h2⊢;exact lex_trans h1 h2
   ·rw[aq e2]at h2⊢;exact h2
  ·rw[aq e1]at h1
   have h1:x<y:=by simpa using h1
   by_cases e2:y=z
   ·subst e2
    rw[aq e1];simpa using h1
   ·rw[aq e2]at h2
    have h2:y<z:=by simpa using h2
    rw[aq oo];simp;omega
theorem EL{α:Type}{p q:α->Bool}:∀{l:List α},(∀x∈l,p x=true->q x=true)->(l.filter p).length<=(l.filter q).length
 |[],_=>aV _
 |a::l,h=>by
  have ih:=EL (l:=l) λx hx=>h x (.tail _ hx)
  by_cases hp:p a=true
  ·rw[eK hp,eK (h a (.head _) hp),aS,aS];omega
  ·rw[fC hp]
   by_cases hq:q a=true
   ·rw[eK hq,aS];omega
   ·rw[fC hq];exact ih
theorem NC{α:Type}{p q:α->Bool}:∀{l:List α},(∀x∈l,p x=true->q x=true)->(∃x∈l,p x=false/\q x=true)->(l.filter p).length<(l.filter q).length
 |[],_,⟨x,hx,_⟩=>by cases hx
 |a::l,h,⟨x,hx,h1,h2⟩=>by
  have le:=EL (l:=l) λx hx=>h x (.tail _ hx)
  rcases aY.mp hx with rfl|hx
  ·rw[fC (by rw[h1];decide),eK h2,aS];omega
  ·have ih:=NC (l:=l) (λx hx=>h x (.tail _ hx)) ⟨x,hx,h1,h2⟩
   by_cases hp:p a=true
   ·rw[eK hp,eK (h a (.head _) hp),aS,aS];omega
   ·rw[fC hp]
    by_cases hq:q a=true
    ·rw[eK hq,aS];omega
    ·rw[fC hq];exact ih
def EM(row:Nat->List Int)(n:Nat)(i:Nat):Nat:=((aE n).filter λj=>HT.lexLt (row j) (row i)).length
theorem aab{row:Nat->List Int}(hi:i<n)(hj:j<n):HT.lexLt (row i) (row j)=decide (EM row n i<EM row n j):=by
 cases h:HT.lexLt (row i) (row j)with
 |true=>
  refine(qr ?_).symm
  exact NC (λk _ hk=>lex_trans hk h) ⟨i,bY.mpr hi,lex_irrefl _,h⟩
 |false=>
  refine(fG ?_).symm
  have:EM row n j<=EM row n i:=EL λk _ hk=>by
   rcases NB (b:=row i) hk with q|q
   ·exact q
   ·rw[h]at q;cases q
  omega
theorem xE{α β:Type}{M:Model}{f:α->aJ β}{g:α->β}:∀(l:List α){Q:List β->aj->Prop},(∀x∈l,∀Q':β->aj->Prop,Q' (g x) s->wpAny M A (f x) Q' E s)->Q (l.map g) s->wpAny M A (l.mapM f) Q E s
 |[],Q,_,h=>by rw[List.mapM_nil];exact aC h
 |x::l,Q,hf,h=>by
  rw[List.mapM_cons]
  refine au (hf x (.head _) _ (au (xE l (λy hy=>hf y (.tail _ hy)) (aC h))))
theorem O3(h2:2<=vs.length)(hv:∀v∈vs,s.TypeIs v "list"){Q:Jc->aj->Prop}(h:Q mN s):wpAny (ay prog w) A (keyKind' vs.toArray) Q E s:=by
 rw[keyKind'_eq]
 have hf:∀x∈vs,∀Q':Option af->aj->Prop,Q' none s->wpAny (ay prog w) A (firstOfTuple' x) Q' E s:=λx hx Q' q=>by
  refine(?_:wpAny _ _ (typeOf x>>=_) _ _ _)
  refine au (ma (hv x hx) ?_)
  exact aC q
 have ht:∀x∈vs,∀Q':af->aj->Prop,Q' (.type "list") s->wpAny (ay prog w) A (typeOf x) Q' E s:=λx hx Q' q=>ma (hv x hx) q
 obtain⟨v1,v2,rest,rfl⟩:∃v1 v2 rest,vs=v1::v2::rest:=by
  match vs,h2 with
  |v1::v2::rest,_=>exact⟨v1,v2,rest,rfl⟩
 rw[U3]
 rw[map_eq_pure_bind]
 refine au (au (xE (g:=λ_=>none) _ hf (aC ?_)))
 rw[aq (by simp),aq (by simp),oneTypeOnly'_eq,U3,map_eq_pure_bind]
 refine au (au (au (xE (g:=λ_=>dI "list") _ ht (aC ?_))))
 have e1:((oY (λ_=>dI "list") (v1::v2::rest)).toArray)[0]?=some (dI "list"):=rfl
 have e2:((oY (λ_=>dI "list") (v1::v2::rest)).toArray).all (λx=>x==dI "list")=true:=by
  rw[<-Array.all_toList,c_]
  intro x hx
  obtain⟨y,_,rfl⟩:=aM.mp (show x∈oY (λ_=>dI "list") (v1::v2::rest)from hx)
  exact f9 _
 refine(?_:wpAny _ _ (match((oY (λ_=>dI "list") (v1::v2::rest)).toArray)[0]?with
  |some t=>pure (if((oY (λ_=>dI "list") (v1::v2::rest)).toArray).all (λx=>x==t)=true then some t else none)
  |none=>pure none) _ _ _)
 rw[e1]
 dsimp only
 rw[ax e2]
 exact aC (aC h)
theorem BQ(hu:A.units<cp){row:Nat->List Int}{n0:Nat}{P:Fin->aj->Prop}(ho:s.heap.get? a=some (b8 "list" (qs.map aK).toArray n0))(hr:∀i,i<qs.length->∃xs,s.heap.IsList (qs.getD i 0) xs/\fL xs.toList (row i))(qh:∀i,i<qs.length->qs.getD i 0≠a)(hL:qs.length<=az)(h:∀is:List Nat,is.Perm (aE qs.length)->is.Pairwise (λi j=>EM row qs.length i<=EM row qs.length j)->P (.done (.ret .none)) {s with heap:=wd s.heap a (qs.map aK) ((is.map λi=>aK (qs.getD i 0)).toArray)}):
  wpAny (ay prog w) A (cR.«list.sort» ⟨[.ref a],[]⟩) P E s:=by
 have ev:qs.map aK=(aE qs.length).map λi=>aK (qs.getD i 0):=by
  apply I0
  ·simp
  ·intro i h1 h2
   simp at h1
   simp[h1]
 have ha:=ba ho
 rw[list_sort_plain]
 refine au (gO ho rfl (au (rT ho rfl ?_ (by simpa using hL))))
 obtain⟨e1,ho1⟩:∃e1,(s.heap.update a (cS λ_=>#[])).get? a=some (b8 "list" #[] e1):=⟨_,get?_update_seq ho (λ_=>#[])⟩
 refine au (Ju ho1 rfl (au (wpAny_newTuple ?_ (by simpa using hL))))
 refine au (IU ?_)
 refine fj ?_
 have up:∀b o,b≠a->s.heap.get? b=some o->(((s.heap.update a (cS λ_=>#[])).push (b8 "tuple" (qs.map aK).toArray 0)).push (b8 "list" #[] 0)).get? b=some o:=λb o hb e=>
  bQ _ (bQ _ ((iH _ _ (cJ hb)).trans e))
 have ho6:(((s.heap.update a (cS λ_=>#[])).push (b8 "tuple" (qs.map aK).toArray 0)).push (b8 "list" #[] 0)).get? a=some (b8 "list" #[] e1):=bQ _ (bQ _ ho1)
 refine(?_:wpAny (ay prog w) A _ P E {s with heap:=((s.heap.update a (cS λ_=>#[])).push (b8 "tuple" (qs.map aK).toArray 0)).push (b8 "list" #[] 0)})
 have hsz:(qs.map aK).toArray.size=qs.length:=by simp
 have aeX:∀{arr:Array aO}{is:List Nat},arr.toList=is.map (λi=>((.ref (qs.getD i 0),.ref (qs.getD i 0)):aO))->arr.map (·.2)=(is.map λi=>aK (qs.getD i 0)).toArray:=λ{arr is}e=>by
  apply Array.ext'
  rw[UH,e,cg];rfl
 have e0:(eP (qs.map aK)).toList=(aE qs.length).map λi=>((.ref (qs.getD i 0),.ref (qs.getD i 0)):aO):=by
  rw[wg,ev,AH]
 by_cases h2:qs.length<2
 ·rw[ax (by rw[hsz];exact h2),ax (by rw[hsz];exact h2)]
  refine au (aC ?_)
  dsimp only
  rw[UR]
  refine au (aC ?_)
  dsimp only
  have eo:=aeX e0
  refine au (Ju ho6 rfl ?_)
  refine au (rT ho6 rfl ?_ (hsz2:= ?_))
  ·simp only[qp,dO,cn]
   refine aC ?_
   have:=h (aE qs.length) (vL _) ?_
   ·rw[<-eo]at this;exact this
   ·match qs.length,h2 with
    |0,_=>exact By
    |1,_=>exact T8 _ _
  ·show((eP (qs.map aK)).map (·.2)).size<=_
   rw[Tb,wt,aA];omega
 ·rw[aq (by rw[hsz];exact h2),aq (by rw[hsz];exact h2)]
  have hty:∀v∈qs.map aK,v9 {s with heap:=((s.heap.update a (cS λ_=>#[])).push (b8 "tuple" (qs.map aK).toArray 0)).push (b8 "list" #[] 0)} v "list":=λv hv=>by
   rw[ev]at hv
   obtain⟨i,hi,rfl⟩:=aM.mp hv
   have hi:=bY.mp hi
   obtain⟨xs,⟨o,h1,h2,_⟩,_⟩:=hr i hi
   exact⟨o,up _ _ (qh i hi) h1,h2⟩
  refine au (O3 (by rw[aA];omega) hty ?_)
  dsimp only
  have run:=Ls (prog:=prog) (w:=w) (A:=A) (s2:={s with heap:=((s.heap.update a (cS λ_=>#[])).push (b8 "tuple" (qs.map aK).toArray 0)).push (b8 "list" #[] 0)}) (rk:=EM row qs.length) (n:=qs.length) (q:=λi=>qs.getD i 0) (E:=E)
   (Q:=λ_ tD=>∃is:List Nat,is.Perm (aE qs.length)/\is.Pairwise (λi j=>EM row qs.length i<=EM row qs.length j)/\(cu tD).toList=is.map (λi=>((.ref (qs.getD i 0),.ref (qs.getD i 0)):aO))/\mM tD=none)
   oo (λi j hi hj=>by
    obtain⟨xs,⟨o,h1,h2,n,h3⟩,i1⟩:=hr i hi
    obtain⟨ys,⟨o',WN,h2',n',h3'⟩,i2⟩:=hr j hj
    exact abS hu ⟨o,up _ _ (qh i hi) h1,h2,n,h3⟩ ⟨o',up _ _ (qh j hj) WN,h2',n',h3'⟩ i1 i2 ⟨aab hi hj,rfl⟩)
   (λtD is p1 p2 p3 p4=>⟨is,p1,p2,p3,p4⟩)
  rw[<-ev]at run
  refine au (eM run ?_ λ_ _ e=>e)
  rintro⟨⟨⟩,tD⟩ s' ⟨rfl,is,p1,p2,p3,p4⟩
  dsimp only
  have eo:=aeX p3
  refine au (Ju ho6 rfl ?_)
  refine au (rT ho6 rfl ?_ (hsz2:= ?_))
  ·rw[p4]
   simp only[qp,dO,cn]
   refine aC ?_
   have:=h is p1 p2
   rw[<-eo]at this;exact this
  ·rw[eo,cw,aA,p1.length_eq,e_];omega
end Bt
namespace Bt
open PySem PySem.Spec PyProof.Rows L2
variable{C CD CS CW D a b da dx f pa ra rp:aa}{G H H' H1 H2:Hp}{Item:Nat->V->Hp->Prop}{J:It}{K:aL}{P:cQ}{Qd:Hp->Prop}{X:Cx}{apos lr p pos pos':cK}{bG:List (List Bool×V)}{base:aH}{e:aQ}{fd:ox}{g:TG}{i j n:Nat}{ks m r:List Nat}{mg:ag->Option af}{o:HO}{pins:List (aa×aG)}{ps:List ag}{s:aj}{sp:Sp}{st:bj}{ta tb te:TE}{tt:TT}{w:bC}{x:ag}{xs:List V}{α β:Type}
theorem xF{α β:Type}{R:α->β->Prop}:∀{xs:List α}{ys:List β}(d:α)(e:β),Paired R xs ys->∀i,i<xs.length->R (xs.getD i d) (ys.getD i e)
 |_,_,d,e,.nil,i,h=>absurd h (jV _)
 |_,_,d,e,.cons r rr,0,h=>r
 |_,_,d,e,.cons r rr,i+1,h=>xF d e rr i (by simpa using h)
theorem BR{α β:Type}{R:α->β->Prop}(f:Nat->α)(g:Nat->β):∀(l:List Nat),(∀i∈l,R (f i) (g i))->Paired R (l.map f) (l.map g)
 |[],_=>.nil
 |i::l,h=>.cons (h i (.head _)) (BR f g l λj hj=>h j (.tail _ hj))
theorem range_getD(l:List α)(d:α):(aE l.length).map (λi=>l.getD i d)=l:=by
 apply I0
 ·simp
 ·intro i h1 h2
  simp[h2]
theorem DQ:∀ps:List aa,Vals (ps.map V.ref) (ps.map aK)
 |[]=>.nil
 |p::ps=>.cons rfl (DQ ps)
theorem EN(hu:X.A.units+64<cp):uL X (.builtin "sorted") OP:=by
 intro pins s σ H xs us Q I rv h
 obtain⟨a,qs,rows,rfl,hH,hp,hlen,anh,k⟩:=h
 have eu:=Vals.KC rv
 subst eu
 obtain⟨z,its,n,ri,ho⟩:=I.hok a _ hH
 have ei:=ua ri
 subst ei
 have mY:=hp.length
 have hl:s.heap.IsList a (qs.map aK).toArray:=⟨_,ho,rfl,n,rfl⟩
 have agD:∀i,i<qs.length->∃ys,s.heap.IsList (qs.getD i 0) ys/\fL ys.toList (m8 (rows.getD i [])):=λi hi=>by
  have:=xF 0 [] hp i hi
  obtain⟨z',its',n',r',o'⟩:=I.hok _ _ this
  rw[yZ]at r'
  exact⟨its'.toArray,⟨_,o',rfl,n',rfl⟩,by simpa using Vals.ints r'⟩
 refine Us Ut Uu Uv (Uw _) ?_
 unfold cR.«sorted»
 refine au (m:=checkCount "sorted" 1 1 _) (aC ?_)
 refine au (collect_list hl ?_)
 refine au (IU (hsz:=by rw[aA];rw[dU];omega) ?_)
 have up:∀b o,s.heap.get? b=some o->(((s.heap.push (b8 "list" #[] 0)).update s.heap.objs.size (cS (·++(qs.map aK).toArray))).push (b8 "list" (qs.map aK).toArray 0)).get? b=some o:=λb o e=>
  bQ _ ((iH _ _ (iW (ba e))).trans (bQ _ e))
 have hsz:((s.heap.push (b8 "list" #[] 0)).update s.heap.objs.size (cS (·++(qs.map aK).toArray))).objs.size=s.heap.objs.size+1:=by rw[T9,eW]
 have hoL:(((s.heap.push (b8 "list" #[] 0)).update s.heap.objs.size (cS (·++(qs.map aK).toArray))).push (b8 "list" (qs.map aK).toArray 0)).get? ((s.heap.push (b8 "list" #[] 0)).update s.heap.objs.size (cS (·++(qs.map aK).toArray))).objs.size=some (b8 "list" (qs.map aK).toArray 0):=cU _ rfl
 refine au (fj (qt Ux ⟨_,hoL,rfl⟩ Uy (BQ (row:=λi=>m8 (rows.getD i [])) (by show _+1+1<cp;omega) hoL (λi hi=>?_) (λi hi e=>?_) (by rw[dU];omega) λis p1 p2=>⟨_,rfl,?_⟩) (Uz _)))
 ·obtain⟨ys,⟨o,h1,h2,n',h3⟩,i1⟩:=agD i hi
  exact⟨ys,⟨o,up _ _ h1,h2,n',h3⟩,i1⟩
 ·obtain⟨ys,⟨o,h1,_⟩,_⟩:=agD i hi
  have:=ba h1
  rw[e,hsz]at this
  exact absurd this (Nat.not_lt.mpr (zU _))
 ·obtain⟨⟨n',z1⟩,z2⟩:=sortedHeap_at hoL ((is.map λi=>aK (qs.getD i 0)).toArray)
  have mem:∀i∈is,i<qs.length:=λi hi=>bY.mp (p1.mem_iff.mp hi)
  have le:s.heap.objs.size<=((s.heap.push (b8 "list" #[] 0)).update s.heap.objs.size (cS (·++(qs.map aK).toArray))).objs.size:=by rw[hsz];exact zU _
  refine aC ⟨_,rfl,.ref _,upd H _ (.lst ((is.map λi=>qs.getD i 0).map V.ref)),I.laid (t':=s.toks) (λb o e=>z2 b o (bS (dS (ba e) le)) (up b o e)) le ⟨?_,(is.map λi=>qs.getD i 0).map aK,n',?_,?_⟩,rfl,k _ _ (is.map λi=>rows.getD i []) (I.hok.fresh le) ?_ ?_ ?_ ?_⟩
  ·rw[aA,aA,p1.length_eq,e_,dU];omega
  ·exact DQ _
  ·rw[z1,cg];rfl
  ·refine(p1.map _).trans ?_
   rw[range_getD]
  ·exact BR _ _ is λi hi=>xF 0 [] hp i (mem i hi)
  ·refine(p1.map _).trans ?_
   rw[show qs.length=rows.length from mY,range_getD]
  ·rw[jQ]
   refine A_ (λ{i j}hi hj hij=>?_) p2
   have:=aab (row:=λi=>m8 (rows.getD i [])) (mem j hj) (mem i hi)
   rw[show HT.lexLt (m8 (rows.getD j [])) (m8 (rows.getD i []))=_ from this]
   exact fG oo
theorem Jv:∀{a b:List Nat},a.length=b.length->HT.lexLt (m8 a) (m8 b)=Sw63.less a b
 |[],[],_=>rfl
 |[],_::_,h=>by simp at h
 |_::_,[],h=>by simp at h
 |x::a,y::b,h=>by
  have ih:=Jv (a:=a) (b:=b) (by simpa using h)
  show(if(x:Int)=(y:Int)then HT.lexLt (m8 a) (m8 b)else decide ((x:Int)<(y:Int)))=_
  unfold Sw63.less
  by_cases e:x=y
  ·subst e;simp[ih]
  ·rw[aq oo]
   have:(x==y)=false:=by simpa using e
   rw[this,jD,Jw,dN];omega
theorem r9:∀r:List Nat,lj r=((aE r.length).filter λi=>fR (r.getD i 0)).map λi=>r.take i++[r.getD i 0+10]++r.drop (i+1)
 |[]=>rfl
 |m::l=>by
  have ih:=r9 l
  unfold lj
  rw[ih,aS,qI,i_,iq]
  have e:((λi=>fR ((m::l).getD i 0))∘vA)=λi=>fR (l.getD i 0):=by funext i;simp
  rw[e]
  by_cases h:fR m=true
  ·simp[h,U4]
  ·simp[h,U4]
theorem BS(n:Nat)(hn:n<=5):(dC n).length<=300/\∀r∈dC n,r.length=n:=by
 have h1:=(Iy n hn).1.2
 rw[<-yl]at h1
 refine⟨h1,?_⟩
 have:((dC n).all λr=>decide (r.length=n))=true:=by
  have:n=0\/n=1\/n=2\/n=3\/n=4\/n=5:=by omega
  rcases this with rfl|rfl|rfl|rfl|rfl|rfl<;>decide+kernel
 intro r hr
 simpa using c_.mp this r hr
theorem DR:∀(r:List Nat),(lj r).length<=r.length/\∀m∈lj r,m.length=r.length:=by
 intro r
 rw[r9]
 refine⟨?_,λm hm=>?_⟩
 ·rw[aA];have:=dX (λi=>fR (r.getD i 0)) (aE r.length);simpa using this
 ·obtain⟨i,hi,rfl⟩:=aM.mp hm
  have:=bY.mp (bH.mp hi).1
  simp;omega
theorem nU:∀(l:List (List Nat))(n:Nat),(∀r∈l,r.length=n)->(l.flatMap lj).length<=n*l.length
 |[],n,_=>by simp
 |r::l,n,h=>by
  have:=nU l n λx hx=>h x (bg _ hx)
  have h1:=(DR r).1
  rw[h r bp]at h1
  rw[eS,bZ,aS,iu];omega
theorem DS(m:Nat):ZD (.int (m:Int)) ([1,2,5].map V.int)=fR m:=by
 unfold ZD fR
 simp only[bb,gH,kU,U5,Jw]
 have e:∀k:Nat,Oh (.int (k:Int)) (.int (m:Int))=(m==k):=by
  intro k
  show((k:Int)==(m:Int))=(m==k)
  rw[cV,bX,bX];omega
 have e1:=e 1;have e2:=e 2;have e5:=e 5
 rw[show((1:Nat):Int)=1 from rfl]at e1
 rw[show((2:Nat):Int)=2 from rfl]at e2
 rw[show((5:Nat):Int)=5 from rfl]at e5
 rw[e1,e2,e5]
def EO:Sp:=λvs H Q _=>∃n:Nat,vs=[.int (n:Int)]/\n<=5/\yX H Q (MR n)
theorem U6:a0 ["syllables","marked","row","place","mark"] ["syllables"] (aB (top 22)):={}
theorem U7(F:il K "mark_rows" "mark_rows" (top 22) f fd)(T:lB K mg)(Gf:Fn P w K mg base "footings" ["syllables"] 1 t8):cz P w K mg base hC 2 f fd ["syllables"] EO:=by
 refine F.ok U6 (λfF A outer s H vs Q E hr h=>?_)
 ·obtain⟨n,rfl,hn,k⟩:=h
  refine⟨_,ak (cH 1 U6.nd (bP ai))<|ak (fW ee rfl (cB (c9 Gf hr rfl (ae (pv 0) ai))) (cZ 2 U6.nd)<|aD (fW ee rfl (kC rfl T.enumerate (ae (pv 2) ai)) (fV rfl (bu (cZ 3 U6.nd) (bu (cZ 4 U6.nd) eI)))<|aD (eG (bK oz (pv 4) (ED T.heads rfl) rfl)
      (aD (eQ (gc dq kE kF gf (pv 1) (ae
       (b7 lz (b7 lz (i6 kx (pv 2) nh (gy (pv 3))) (bP (ae (b7 jF (pv 4) (eC T.main rfl)) ai))) (i6 kx (pv 2) (gy (b7 jF (pv 3) bo)) nh)) ai)))) cf)))<|aD (aX (bw (EN hr.units) rfl T.sorted PyProof.Rows.boot_sorted (ae (pv 1) ai))),?_⟩
  obtain⟨fl,frl⟩:=BS n hn
  refine⟨bI _,λl hl=>?_⟩
  refine⟨_,rfl,n,rfl,hn,λH2 a sm ha0 hA=>?_⟩
  have N6:a≠l:=λe=>by rw[e,ao]at ha0;cases ha0
  have sH2:aP H H2:=(aw hl).trans sm
  have P_:H2 l=some (.lst []):=sm _ _ ao
  obtain⟨ps,hA1,hA2⟩:=Nf hA
  have Mq:ps.length=(dC n).length:=bF hA2
  have fml:=nU (dC n) n frl
  have tot:∀(i j:Nat)(r:List Nat),i<(dC n).length->(dC n)[i]?=some r->j<=r.length->(((dC n).take i).flatMap lj++((aE j).filter λt=>fR (r.getD t 0)).map λt=>r.take t++[r.getD t 0+10]++r.drop (t+1)).length<=3000:=λi j r hi hr hj=>by
   have h1:=nU ((dC n).take i) n (λx hx=>frl x (Au hx))
   have h2:=dX (λt=>fR (r.getD t 0)) (aE j)
   have h3:r.length=n:=frl r (cC hr)
   rw[e_]at h2
   rw[bZ,aA]
   have h4:n*((dC n).take i).length<=5*300:=BU hn (by rw[d8];omega)
   omega
  refine⟨a,rfl,⟨_,a_.of hA1⟩,?_⟩
  refine fY (ex:=[l]) (vP (a_.of hA1) (by simp only[bA];exact N6))
   (λi σ H'=>∃(v2 v3 v4:Option V),σ=[some (.int (n:Int)),some (.ref l),v2,v3,v4]/\aP H H'/\Sx [l] H2 H'/\g_ (ju H) H' l (((dC n).take i).flatMap lj))
   ⟨none,none,none,rfl,sH2,.refl,gm P_⟩ (λi σ H'⟨_,_,_,_,_,q,_⟩=>q) ?_ ?_
  ·rintro i x σ H3 H4 hi ⟨v2,v3,v4,rfl,s3,t7,on3⟩ jh hx
   obtain⟨p,rfl,yt⟩:=fD hx
   obtain⟨r,vT,kf⟩:=cN hA2 yt
   have mY:p≠l:=by
    obtain⟨qs,Mo,Qh⟩:=hA
    have e:qs=ps:=by
     rw[Mo]at hA1
     have:qs.map V.ref=ps.map V.ref:=by injection hA1 with h;injection h
     exact Im this
    subst e
    obtain⟨r',_,hf⟩:=cN Qh yt
    intro e
    have:=hf.2
    rw[e,ao]at this;cases this
   have hr4:H4 p=some (.lst (bU r)):=jh _ _ (t7 _ _ kf (by simp only[bA];exact mY))
   have hrn:r.length=n:=frl r (cC vT)
   have hif:i<(dC n).length:=by rw[aA,Mq]at hi;exact hi
   refine⟨_,rfl,p,_,rfl,a_.of hr4,?_⟩
   refine fY (ex:=[l]) (Nc (a_.of hr4) (by simp only[bA];exact mY))
    (λj σ H'=>∃(v3 v4:Option V),σ=[some (.int (n:Int)),some (.ref l),some (.ref p),v3,v4]/\aP H H'/\Sx [l] H4 H'/\g_ (ju H) H' l (((dC n).take i).flatMap lj++((aE j).filter λt=>fR (r.getD t 0)).map λt=>r.take t++[r.getD t 0+10]++r.drop (t+1)))
    ⟨v3,v4,rfl,s3.trans jh,.refl,by simpa using bx (cT H) jh on3⟩ (λj σ H'⟨_,_,_,_,q,_⟩=>q) ?_ ?_
   ·rintro j x σ H5 H6 hj ⟨u3,u4,rfl,s5,ER,on5⟩ EH ⟨T',y,rfl,hT,hy⟩
    obtain⟨m,rfl,hm⟩:=c6 hy
    have s6:=s5.trans EH
    have on6:=bx (cT H) EH on5
    have egm:r.getD j 0=m:=by rw[bM,hm];rfl
    have hr6:H6 p=some (.lst (bU r)):=EH _ _ (ER _ _ hr4 (by simp only[bA];exact mY))
    have hjr:j<r.length:=by rw[aR]at hj;exact hj
    refine⟨T',_,rfl,lu.of hT,rfl,_,_,rfl,_,_,rfl,rfl,?_⟩
    refine⟨_,rfl,λah hah=>⟨ah,_,rfl,.inr (hah _),rfl,rfl,_,rfl,?_⟩⟩
    have ns:(aE (j+1)).filter (λt=>fR (r.getD t 0))=(aE j).filter (λt=>fR (r.getD t 0))++[j].filter (λt=>fR (r.getD t 0)):=by rw[iy,jf]
    refine kg (b:=fR m) (DS m) (λh1=>?_) (λh1=>?_)
    ·obtain⟨vs,WQ,Qa⟩:=on6.lst
     refine⟨_,rfl,.inl ⟨rfl,_,a_.of WQ⟩,_,rfl,_,rfl,_,rfl,p,_,rfl,a_.of hr6,λt1 Qc=>?_⟩
     rw[show((j:Nat):Int)=((j:Nat):Int)from rfl,TH]
     generalize IA:upd H6 t1 (.lst ((bU r).take j))=H7 at*
     have Bk:aP H6 H7:=by rw[<-IA];exact aw Qc
     have h7:H7 t1=some (.lst ((bU r).take j)):=by rw[<-IA];exact ao
     refine⟨_,rfl,_,_,rfl,rfl,(by show 1<=az;decide),λt2 uz=>?_⟩
     generalize hH8:upd H7 t2 (.lst [.int ((m:Int)+10)])=H8 at*
     have Yd:aP H7 H8:=by rw[<-hH8];exact aw uz
     have h8:H8 t2=some (.lst [.int ((m:Int)+10)]):=by rw[<-hH8];exact ao
     refine⟨t1,t2,_,_,rfl,rfl,Yd _ _ h7,h8,(by rw[c7];simp;omega),λt3 ht3=>?_⟩
     generalize hH9:upd H8 t3 (.lst ((bU r).take j++[.int ((m:Int)+10)]))=H9 at*
     have W7:aP H8 H9:=by rw[<-hH9];exact aw ht3
     have h9:H9 t3=some (.lst ((bU r).take j++[.int ((m:Int)+10)])):=by rw[<-hH9];exact ao
     have s69:=(Bk.trans Yd).trans W7
     refine⟨_,rfl,_,rfl,_,_,rfl,rfl,_,rfl,p,_,rfl,a_.of (s69 _ _ hr6),λt4 ht4=>?_⟩
     rw[show((j:Nat):Int)+1=((j+1:Nat):Int) by omega,rL]
     generalize ES:upd H9 t4 (.lst ((bU r).drop (j+1)))=Kj at*
     have Ye:aP H9 Kj:=by rw[<-ES];exact aw ht4
     have h10:Kj t4=some (.lst ((bU r).drop (j+1))):=by rw[<-ES];exact ao
     refine⟨t3,t4,_,_,rfl,rfl,Ye _ _ h9,h10,(by rw[c7];simp;omega),λy ZO=>?_⟩
     have U8:=s69.trans Ye
     have aiZ:=bx (cT H) U8 on6
     have TV:=bx (cT H) (aw (o:=.lst ((bU r).take j++[.int ((m:Int)+10)]++(bU r).drop (j+1))) ZO) aiZ
     obtain⟨vs2,ae0,TU⟩:=TV.lst
     have hly:l≠y:=aF (U8 _ _ WQ) ZO
     refine⟨l,_,_,rfl,rfl,ae0,?_,?_⟩
     ·rw[TU,c7];have:=tot i j r hif vT oo;omega
     ·refine⟨_,_,rfl,jZ ((s6.trans U8).trans (aw ZO)) hl,c8 (((ER.then EH).then U8).then (aw ZO)) (by simp),?_⟩
      rw[ns,eK (by rw[egm];exact h1),Bg,eU,<-gz]
      refine je TV ae0 ⟨?_,(s6.trans U8).free ZO⟩
      show _=some (HO.lst (bU (r.take j++[r.getD j 0+10]++r.drop (j+1))))
      rw[hide_ne (cJ hly),ao,egm,fX,fX]
      simp[bU,mH,jd]
    ·refine⟨_,_,rfl,s6,ER.then EH,?_⟩
     rw[ns,fC (by rw[egm,h1];decide),Bg,cW]
     exact on6
   ·rintro σ H5 ⟨u3,u4,rfl,s5,ER,on5⟩
    refine⟨_,_,_,rfl,s5,(t7.then jh).trans ER,?_⟩
    rw[aR,<-r9]at on5
    rw[cD vT,Bf]
    simpa using on5
  ·rintro σ H3 ⟨v2,v3,v4,rfl,s3,t7,on3⟩
   rw[aA,Mq,f7]at on3
   have at3:=on3.at (cT H)
   obtain⟨qs,Mo,Qh⟩:=id at3
   have sI:∀r∈(dC n).flatMap lj,r.length=n:=λr hr=>by
    obtain⟨x,hx,hr⟩:=fO.mp hr
    rw[(DR x).2 r hr];exact frl x hx
   refine⟨_,rfl,l,qs,_,rfl,Mo,Paired.uD Qh (λ_ _ q=>q.1),?_,λr hr=>by have:=sI r hr;omega,λp Cy IB hp0 hpq Xl WU ae1=>?_⟩
   ·have:n*(dC n).length<=5*300:=BU hn fl
    omega
   ·have e:IB=MR n:=by
     refine Ou hn WU (ae1.imp_of_mem λ{a b}ha hb h=>?_)
     rw[<-Jv (by rw[sI _ (WU.mem_iff.mp ha),sI _ (WU.mem_iff.mp hb)])];exact h
    subst e
    have hr3:Paired (ju H H3) Cy (MR n):=yj Xl λa ha=>by
     obtain⟨b,_,g⟩:=pN Qh a (hpq.mem_iff.mp ha)
     exact g.2
    exact k _ p (s3.trans (aw hp0)) (s3.free hp0) ⟨Cy,ao,gv (cT H) (aw hp0) hr3⟩
structure Mt (P:cQ) (w:bC) (K:aL) (mg:ag->Option af) (base:aH) (C:aa) (m:ag) (ps:List ag) (k:Nat) (sp:Sp):Prop where
 ex:∃f fd,cz P w K mg base hC k f fd ps sp/\Meth K C m f/\Binds K fd ps []
 cl:Cls K C
structure Kp (P:cQ) (w:bC) (K:aL) (mg:ag->Option af) (base:aH) (C:aa) (x:ag) (ps:List ag) (k:Nat) (sp:Sp):Prop where
 ex:∃f fd,cz P w K mg base hC k f fd ps sp/\Mk K C f/\mg x=some (.ref C)/\Binds K fd ps []
theorem dZ{m:ag}{k:Nat}{o:aQ}{es:List aQ}{t:TA}{pl:aJ Bool}(M:Mt X.prog X.w X.K X.mg X.base C m ps k sp)(hr:g9 k X.A)(he:PE X o ta)(ha:PA X (e::es) t)(tj:aU (e::es) X.env=(false,eval e X.env)::aU es X.env:=by rfl)(mY:(b9 pos (aU es X.env)).any (·.1)=false:=by rfl)(ht:eval (.Call (.Attribute o m apos) (e::es) [] pos) X.env=(do
   let ov<-eval o X.env
   oe apos.atName
   let(f,first)<-h_ [ov] (ot ov m pl)
   uQ pos f first (b9 pos (aU (e::es) X.env)) (jI pos (jJ [] X.env))):=by rfl):
  PE X (.Call (.Attribute o m apos) (e::es) [] pos) (ng C m sp [] E0 ta t):=by
 obtain⟨f,fd,G,hm,hb⟩:=M.ex
 exact XC he M.cl hm G hr hb .nil Dn ha tj mY ht
theorem gD{m:ag}{k:Nat}{o:aQ}{pl:aJ Bool}(M:Mt X.prog X.w X.K X.mg X.base C m ps k sp)(hr:g9 k X.A)(he:PE X o ta)(ht:eval (.Call (.Attribute o m apos) [] [] pos) X.env=(do
   let ov<-eval o X.env
   oe apos.atName
   let(f,first)<-h_ [ov] (ot ov m pl)
   uQ pos f first (b9 pos (aU [] X.env)) (jI pos (jJ [] X.env))):=by rfl):
  PE X (.Call (.Attribute o m apos) [] [] pos) (ng C m sp [] E0 ta f6):=by
 obtain⟨f,fd,G,hm,hb⟩:=M.ex
 exact Q8 he M.cl hm G hr hb .nil Dn ht
theorem lC{k:Nat}{es:List aQ}{t:TA}(M:Kp X.prog X.w X.K X.mg X.base C x ps k sp)(hr:g9 (k+1) X.A)(hg:Gl X x)(ha:PA X (e::es) t)(CC:(x==("__debug__":ag))=false:=by decide)(he:aU (e::es) X.env=(false,eval e X.env)::aU es X.env:=by rfl)(mY:(b9 pos (aU es X.env)).any (·.1)=false:=by rfl):
  PE X (.Call (.Name x p) (e::es) [] pos) (Gg C sp [] E0 t):=by
 obtain⟨f,fd,G,hm,hx,hb⟩:=M.ex
 exact XD hm G hr hg hx hb .nil Dn ha CC he mY
theorem Yx{k:Nat}(M:Kp X.prog X.w X.K X.mg X.base C x ps k sp)(hr:g9 (k+1) X.A)(hg:Gl X x)(CC:(x==("__debug__":ag))=false:=by decide):PE X (.Call (.Name x p) [] [] pos) (Gg C sp [] E0 f6):=by
 obtain⟨f,fd,G,hm,hx,hb⟩:=M.ex
 exact Q_ hm G hr hg hx hb .nil Dn CC
structure WT (K:aL) (C:aa):Prop where
 cl:Cls K C
 nS:dQ K C "sounds"
 nY:dQ K C "syllables"
 nM:dQ K C "marks"
def wf1(a:aa):List (ag×V):=[("sounds",.ref a)]
def wf2(a s:aa):List (ag×V):=[("sounds",.ref a),("syllables",.ref s)]
def wf(a s m:aa):List (ag×V):=[("sounds",.ref a),("syllables",.ref s),("marks",.ref m)]
def mO(C:aa)(H:Hp)(p:aa)(w:br):Prop:=∃dx a s m,H p=some (.ins C dx (wf a s m))/\fE H a w/\j0 H s (dk w)/\j0 H m (MR (bc w))
theorem jn(C:aa):Keeps (mO C):=λ_ _ _ _ s⟨dx,a,sy,m,h1,h2,h3,h4⟩=>⟨dx,a,sy,m,s _ _ h1,aW bJ _ _ _ _ s h2,aW ck _ _ _ _ s h3,aW ck _ _ _ _ s h4⟩
theorem ak9(a:aa):eV "sounds" (.ref a) []=wf1 a:=rfl
theorem put2(a s:aa):eV "syllables" (.ref s) (wf1 a)=wf2 a s:=by
 show(if("sounds":ag)="syllables" then _ else _)=_
 rw[aq dd];rfl
theorem put3(a s m:aa):eV "marks" (.ref m) (wf2 a s)=wf a s m:=by
 show(if("sounds":ag)="marks" then _ else _)=_
 rw[aq dd]
 show _::(if("syllables":ag)="marks" then _ else _)=_
 rw[aq dd];rfl
def j9(C:aa):Sp:=λvs H Q _=>∃(p dx a:aa)(w:br),vs=[.ref p,.ref a]/\H p=some (.ins C dx [])/\fE (hide H p) a w/\dn w=true/\∀H',Sx [p] H H'->mO C H' p w->Q .non H'
abbrev sWI:bj:=inClass (top 23) 0
theorem ai0:a0 ["self","sounds"] ["self","sounds"] (aB sWI):={}
theorem U9(F:il K "__init__" "Ways.__init__" sWI f fd)(T:lB K mg)(W:WT K C)(Gs:Fn P w K mg base "syllable_rows" ["sounds"] 2 TQ)(Gm:Fn P w K mg base "mark_rows" ["syllables"] 2 EO)(Gv:Fn P w K mg base "vowel_places" ["sounds"] 1 vS):
  cz P w K mg base hC 3 f fd ["self","sounds"] (j9 C):=by
 refine F.ok ai0 (λfF A outer s H vs Q E hr h=>?_)
 ·obtain⟨p,dx,a,w,rfl,hp,hw,hok,k⟩:=h
  have hr1:g9 1 _:=hr.mono dd
  refine⟨_,ak (iQ (pv 0) (pv 1) rfl)<|ak (iQ (pv 0) (c9 Gs hr rfl (ae (pv 1) ai)) rfl)<|aD (iQ (pv 0) (c9 Gm hr rfl (ae (bw aZ rfl T.len cP (ae (c9 Gv hr1 rfl (ae (pv 1) ai)) ai)) ai)) rfl),?_⟩
  obtain⟨Lu,lK,lH⟩:=bR hok
  refine⟨_,rfl,_,rfl,p,C,dx,[],rfl,hp,W.cl,W.nS,dd,?_⟩
  rw[ak9]
  generalize hJ:upd H p (.ins C dx (wf1 a))=H1 at*
  have DU:H1 p=some (.ins C dx (wf1 a)):=by rw[<-hJ];exact ao
  have hid:hide H1 p=hide H p:=by rw[<-hJ];exact j4
  have sx1:Sx [p] H H1:=by rw[<-hJ];exact c8 .refl (by simp)
  have Ke:fE H1 a w:=aW bJ _ _ _ _ (iL H1 p) (by rw[hid];exact hw)
  refine⟨_,rfl,a,w,rfl,Ke,hok,λH2 q nX hq0 hq=>?_⟩
  refine⟨_,rfl,p,C,dx,_,rfl,nX _ _ DU,W.cl,W.nY,(by show 1<1000;decide),?_⟩
  rw[put2]
  generalize Ab:upd H2 p (.ins C dx (wf2 a q))=H3 at*
  have P7:H3 p=some (.ins C dx (wf2 a q)):=by rw[<-Ab];exact ao
  have ae3:hide H3 p=hide H2 p:=by rw[<-Ab];exact j4
  have t7:Sx [p] H H3:=by rw[<-Ab];exact c8 (sx1.then nX) (by simp)
  have ae4:fE (hide H3 p) a w:=by rw[ae3];exact aW bJ _ _ _ _ (gk p nX) (by rw[hid];exact hw)
  have ai1:j0 (hide H3 p) q (dk w):=by
   rw[ae3]
   obtain⟨ps,e1,e2⟩:=hq
   have hqp:q≠p:=λe=>by rw[e,DU]at hq0;cases hq0
   refine⟨ps,by rw[hide_ne hqp];exact e1,Paired.uD e2 λx r g=>?_⟩
   have hxp:x≠p:=λe=>by have:=g.2;rw[e,DU]at this;cases this
   show hide H2 p x=_
   rw[hide_ne hxp];exact g.1
  have hw3:fE H3 a w:=aW bJ _ _ _ _ (iL H3 p) ae4
  refine⟨_,rfl,a,w,rfl,hw3,by omega,λH4 v jh hv0 hv=>?_⟩
  refine⟨v,_,rfl,.inl (a_.of hv),?_⟩
  rw[aR,cY]
  refine⟨bc w,rfl,lH,λH5 m P6 hm0 hm=>?_⟩
  have s35:=jh.trans P6
  refine⟨_,rfl,p,C,dx,_,rfl,s35 _ _ P7,W.cl,W.nM,(by show 2<1000;decide),?_⟩
  rw[put3]
  generalize Kq:upd H5 p (.ins C dx (wf a q m))=H6 at*
  have h6p:H6 p=some (.ins C dx (wf a q m)):=by rw[<-Kq];exact ao
  have ai2:hide H6 p=hide H5 p:=by rw[<-Kq];exact j4
  have le6:=iL H6 p
  rw[ai2]at le6
  have W8:H4 p=some _:=jh _ _ P7
  refine k H6 (by rw[<-Kq];exact c8 (t7.then s35) (by simp)) ⟨dx,a,q,m,h6p,?_,?_,?_⟩
  ·exact aW bJ _ _ _ _ le6 (aW bJ _ _ _ _ (gk p s35) ae4)
  ·exact aW ck _ _ _ _ le6 (aW ck _ _ _ _ (gk p s35) ai1)
  ·obtain⟨ps,e1,e2⟩:=hm
   have hmp:m≠p:=λe=>by rw[e,W8]at hm0;cases hm0
   refine aW ck _ _ _ _ le6 ⟨ps,by rw[hide_ne hmp];exact e1,Paired.uD e2 λx r g=>?_⟩
   have hxp:x≠p:=λe=>by have:=g.2;rw[e,W8]at this;cases this
   show hide H5 p x=_
   rw[hide_ne hxp];exact g.1
theorem Yy(a s m:aa):(wf a s m).lookup ("sounds":ag)=some (V.ref a):=rfl
theorem U'(a s m:aa):(wf a s m).lookup ("syllables":ag)=some (V.ref s):=rfl
theorem Jx(a s m:aa):(wf a s m).lookup ("marks":ag)=some (V.ref m):=rfl
def Lv(C:aa):Sp:=λvs H Q _=>∃(p:aa)(w:br),vs=[.ref p]/\mO C H p w/\dn w=true/\Q (.int ((ow w).length:Nat)) H
abbrev sW1:bj:=inClass (top 23) 1
theorem ai3:a0 ["self"] ["self"] (aB sW1):={}
theorem mP:∀n,1<=n->n<=5->0<(MR n).length/\(MR n).length<=300:=by
 intro n h1 hn
 have:n=1\/n=2\/n=3\/n=4\/n=5:=by omega
 rcases this with rfl|rfl|rfl|rfl|rfl<;>decide+kernel
theorem r_{α β:Type}(f:α->List β){m:Nat}(hm:0<m):∀(l:List α)(i:Nat),(∀a∈l,(f a).length=m)->(l.flatMap f)[i]?=(l[i/m]?).bind λa=>(f a)[i %m]?
 |[],i,_=>by simp
 |a::l,i,h=>by
  rw[eS]
  have ha:=h a bp
  by_cases hi:i<m
  ·rw[Rb oo,A4 hi,iB hi];rfl
  ·rw[Gu oo,ha,r_ f hm l (i-m) λb hb=>h b (bg _ hb)]
   have e1:i/m=(i-m)/m+1:=by rw[Nat.div_eq_sub_div hm oo]
   have e2:i %m=(i-m)%m:=SX oo
   rw[e1,e2];rfl
theorem U_(w:br):(ow w).length=(dk w).length*(MR (bc w)).length:=by
 unfold ow dk
 rw[aA]
 induction dw w with
 |nil=>simp
 |cons a l ih=>rw[eS,bZ,aA,ih,aS,jb];omega
theorem se{w:br}(hok:dn w=true):(dk w).length<=256:=by
 obtain⟨_,lK,lH⟩:=bR hok
 cases e:vp w with
 |nil=>have:=cY w 0;rw[show cA 0 w=[]from e]at this;simp at this;omega
 |cons v vr=>
  have Qa:vr.length+1<=5:=by have:=cY w 0;rw[show cA 0 w=v::vr from e,aS]at this;omega
  rw[pC e]
  split
  ·rw[aA]
   have h:=(vU (mW (v::vr)) [[v]] 1 (by simp)).1
   have:4^(mW (v::vr)).length<=4^4:=jX dd (by rw[o4,aS];omega)
   simp only[jL,iA]at h
   omega
  ·simp
theorem ae5{w:br}(hok:dn w=true){y:fS}(h:(ow w)[i]?=some y):(dk w)[i/(MR (bc w)).length]?=some (flat y.sylls)/\(MR (bc w))[i %(MR (bc w)).length]?=some y.marks:=by
 obtain⟨_,lK,lH⟩:=bR hok
 unfold ow at h
 rw[r_ (λs=>(MR (bc w)).map λm=>(⟨s,m⟩:fS)) (mP _ lK lH).1 _ _ (λa _=>by rw[aA])]at h
 unfold dk
 rw[bz]
 cases e1:(dw w)[i/(MR (bc w)).length]?with
 |none=>rw[e1]at h;simp at h
 |some s=>
  rw[e1]at h
  simp only[rb,bz]at h
  cases e2:(MR (bc w))[i %(MR (bc w)).length]?with
  |none=>rw[e2]at h;simp at h
  |some m=>rw[e2]at h;simp at h;subst h;exact⟨rfl,rfl⟩
theorem Yz(F:il K "how_many" "Ways.how_many" sW1 f fd)(T:lB K mg)(W:WT K C):cz P w K mg base hC 1 f fd ["self"] (Lv C):=by
 refine F.ok ai3 (λfF A outer s H vs Q E hr h=>?_)
 ·obtain⟨p,w,rfl,⟨dx,a,sy,m,hp,hw,hs,hm⟩,hok,q⟩:=h
  obtain⟨sps,Kc,Me⟩:=hs
  obtain⟨ZP,PX,w_⟩:=hm
  refine⟨_,aD (aX (b7 lV (bw aZ rfl T.len cP (ae (bL (pv 0) rfl) ai)) (bw aZ rfl T.len cP (ae (bL (pv 0) rfl) ai)))),?_⟩
  have e1:sps.length=(dk w).length:=bF Me
  have e2:ZP.length=(MR (bc w)).length:=bF w_
  have hb:=se hok
  refine⟨_,rfl,p,C,dx,_,_,rfl,hp,W.cl,W.nY,U' _ _ _,sy,_,rfl,.inl (a_.of Kc),_,rfl,p,C,dx,_,_,rfl,hp,W.cl,W.nM,Jx _ _ _,m,_,rfl,.inl (a_.of PX),_,_,rfl,rfl,?_,?_⟩
  ·left;rw[aA,e1];omega
  ·show Q (.int (((sps.map V.ref).length:Int)*((ZP.map V.ref).length:Int))) H
   rw[aA,aA,e1,e2,<-BV,<-U_];exact q
def yq(C:aa):Sp:=λvs H Q _=>∃(p:aa)(w:br)(i:Nat)(y:fS),vs=[.ref p,.int (i:Int)]/\mO C H p w/\dn w=true/\(ow w)[i]?=some y/\∀r,H r=none->Q (.ref r) (upd H r (.lst (bU y.row)))
abbrev sW2:bj:=inClass (top 23) 2
theorem ai4:a0 ["self","number"] ["self","number"] (aB sW2):={}
theorem sY{α β:Type}{G:α->β->Prop}:∀{kh:List α}{l₂:List β}{i:Nat}{b:β},Paired G kh l₂->l₂[i]?=some b->∃a,kh[i]?=some a/\G a b
 |_,_,i,b,.nil,h=>by simp at h
 |_,_,0,b,.cons r t,h=>by simp at h;subst h;exact⟨_,rfl,r⟩
 |_,_,i+1,b,.cons r t,h=>by
  obtain⟨a,h1,h2⟩:=sY (i:=i) t (by simpa using h)
  exact⟨a,by simpa using h1,h2⟩
theorem abT(F:il K "row" "Ways.row" sW2 f fd)(T:lB K mg)(W:WT K C):cz P w K mg base hC 1 f fd ["self","number"] (yq C):=by
 refine F.ok ai4 (λfF A outer s H vs Q E hr h=>?_)
 ·obtain⟨p,w,i,y,rfl,⟨dx,a,sy,m,hp,hw,hs,hm⟩,hok,hy,q⟩:=h
  obtain⟨sps,Kc,Me⟩:=hs
  obtain⟨ZP,PX,w_⟩:=hm
  obtain⟨_,lK,lH⟩:=bR hok
  obtain⟨z1,z2⟩:=mP _ lK lH
  obtain⟨o1,o2⟩:=ae5 hok hy
  obtain⟨x1,hx1,g1⟩:=sY Me o1
  obtain⟨x2,ZN,g2⟩:=sY w_ o2
  have e2:ZP.length=(MR (bc w)).length:=bF w_
  have hym:=nQ (cC hy)
  refine⟨_,aD (aX (b7 lz
   (iP fJ (bL (pv 0) rfl) (b7 Xw (pv 1) (bw aZ rfl T.len cP (ae (bL (pv 0) rfl) ai))) (λ_ _=>rfl))
   (iP fJ (bL (pv 0) rfl) (b7 QX (pv 1) (bw aZ rfl T.len cP (ae (bL (pv 0) rfl) ai))) (λ_ _=>rfl)))),?_⟩
  refine⟨_,rfl,p,C,dx,_,_,rfl,hp,W.cl,W.nY,U' _ _ _,_,rfl,_,rfl,p,C,dx,_,_,rfl,hp,W.cl,W.nM,Jx _ _ _,m,_,rfl,.inl (a_.of PX),_,_,rfl,rfl,?_,sy,_,_,.ref x1,rfl,rfl,a_.of Kc,?_,?_⟩
  ·rw[aA,e2];exact⟨by omega,by omega⟩
  ·refine at_of (j:=i/(MR (bc w)).length) ?_ (by rw[bz,hx1];rfl)
   rw[aA,e2,<-Int.natCast_ediv]
  refine⟨_,rfl,p,C,dx,_,_,rfl,hp,W.cl,W.nM,Jx _ _ _,_,rfl,_,rfl,p,C,dx,_,_,rfl,hp,W.cl,W.nM,Jx _ _ _,m,_,rfl,.inl (a_.of PX),_,_,rfl,rfl,?_,m,_,_,.ref x2,rfl,rfl,a_.of PX,?_,?_⟩
  ·rw[aA,e2];show(0:Int)<_;omega
  ·refine at_of (j:=i %(MR (bc w)).length) ?_ (by rw[bz,ZN];rfl)
   rw[aA,e2,<-Int.natCast_emod]
  ·refine⟨x1,x2,_,_,rfl,rfl,g1,g2,?_,λr iE=>?_⟩
   ·rw[aR,aR,ip,fc hym.1,Ap lH hym.2,c7];omega
   ·have:=q r iE
    rw[pF,fX]at this;exact this
theorem YA{a b:aQ}(ha:PE X a ta)(hb:PE X b tb):PEz X (.BinOp a .Add b pos) (qk (Ef λi j=>.int (i+j)) ta tb):=by
 intro pins s σ H Q I tk h
 refine wpAny_BinOp (CT tk (ha pins s σ H _ I h) λv s1 N3⟨x,H1,I1,r1,q1⟩=>?_)
 refine CT N3 (hb pins s1 σ H1 _ I1 q1) λu s2 N7⟨y,H2,I2,r2,q2⟩=>?_
 obtain⟨i,j,rfl,rfl,q⟩:=q2
 obtain⟨t,rfl⟩:=r1
 obtain⟨t',rfl⟩:=r2
 refine add_int ⟨⟨.int _,H2,I2.tok _,⟨_,rfl⟩,q⟩,λk t e=>?_⟩
 injection e with _ e
 rw[<-e]
 exact iW N7
def Va:V->List V->Hp->VK->Prop:=λx vs H Q=>∃l b xs zs,x=.ref l/\vs=[.ref b]/\H l=some (mX l xs)/\H b=some (mX b zs)/\xs.length+zs.length<=az/\Q .non (upd H l (mX l (xs++zs)))
theorem Lw:MtR X "list.extend" Va:=by
 intro pins s σ H x vs v us Q I rx rv h
 obtain⟨l,b,xs,zs,rfl,rfl,hH,hB,hz,q⟩:=h
 cases rx
 obtain⟨u,rfl,ru⟩:=rv.one
 cases ru
 obtain⟨⟨z,its,n,r,e⟩,_⟩:=I.hok l _ hH
 obtain⟨⟨z2,nW,n2,r2,e2⟩,_⟩:=I.hok b _ hB
 have hl:=r.length
 have P_:=r2.length
 have hsz:its.toArray.size+nW.toArray.size<=az:=by rw[cw,cw];omega
 have GJ:¬(!its.toArray.isEmpty&&uX (its.toArray.size+nW.toArray.size))=true:=by
  rw[z6 hsz,uY]
  exact dv
 refine kW kz ⟨_,e,rfl⟩ Rr (Rt _ _)
  (Ru l its.toArray n b nW.toArray n2 GJ (by rw[cw];omega) oo) ⟨e,e2,?_⟩
 obtain⟨n3,q3⟩:∃n3,(s.heap.update l (cS λx=>x++nW.toArray)).get? l=some {cls:=.type "list",data:=.seq (its++nW).toArray n3}:=by
  rw[show(its++nW).toArray=its.toArray++nW.toArray by simp]
  exact⟨_,Rq e (λxs=>xs++nW.toArray)⟩
 refine⟨.non,upd H l (mX l (xs++zs)),I.write (t':=s.toks) (x:=l) (e:=l) (o:=mX l (xs++zs)) (by rw[hH];exact trivial) (.inl rfl) (λb' u hb hu=>(iH s.heap _ (cJ hb)).trans hu) ⟨_,q3⟩ (Yt (its:=its++nW) (by rw[bZ];omega) (Lm r r2) ⟨n3,q3⟩),rfl,q⟩
theorem YB{o:aQ}{to:TE}(ho:PE X o to)(ha:∀{pins:List (aa×aG)}{s:aj}{σ:L2.St}{H:Hp}{Q:VK},Inv X pins σ H s->1<=s.toks->te σ H Q->wpAny (ay X.prog X.w) X.A (eval e X.env) (EP X pins σ Q) X.xe s)(Ka:ou o "extend" X.env (eval o X.env)=eval o X.env:=by rfl)(WH:((b9 lr (aU [e] X.env)).all (λx=>!x.1)&&(jI lr (jJ [] X.env)).all (λx=>x.1.isSome)
   &&decide ([e].length+([]:List iY).length+(if([]:List iY).isEmpty then 0 else 1)<30))=true:=by rfl)(Kb:(apos.endLine==lr.line)=true:=by rfl)(hs:aU [e] X.env=(false,eval e X.env)::aU [] X.env:=by rfl)(hsw:iV (.Call (.Attribute o "extend" apos) [e] [] lr) none pos.line X.env=pure false:=by rfl){σ:L2.St}{D:Ends}(I:Inv X pins σ H s)(tk:1<=s.toks)(h:to σ H λx H1=>∃l xs0,x=.ref l/\H1 l=some (mX l xs0)/\te σ H1 λy H2=>∃b xs zs,y=.ref b/\H2 l=some (mX l xs)/\H2 b=some (mX b zs)/\xs.length+zs.length<=az/\D.nx σ (upd H2 l (mX l (xs++zs)))):
  wpAny (ay X.prog X.w) X.A (exec (.Expr (.Call (.Attribute o "extend" apos) [e] [] lr) pos) X.env) (SP X pins D) X.xe s:=by
 refine wpAny_Expr_any (Q:=SP X pins D) ?_ I.quiet hsw
 refine Rn Ka WH Kb rfl (CT tk (ho pins s σ H _ I h) λv s1 N3⟨x,H1,I1,r1,l,xs0,ex,hl,q1⟩=>?_)
 subst ex
 cases r1
 obtain⟨⟨_,its,n,_,el⟩,_⟩:=I1.hok l _ hl
 refine⟨"list","list.extend",dq,kz,lg,⟨_,el,rfl⟩,λa e=>⟨_,by injection e with e;subst e;exact el,rfl⟩,?_⟩
 rw[hs]
 refine Ro rfl (Rp (qE (CT N3 (ha I1 N3 q1) λu s2 N7⟨y,H2,I2,r2,b,xs,zs,ey,h1,h2,h3,h4⟩=>uP ?_)))
 subst ey
 refine fg (Lw pins s2 σ H2 (.ref l) [.ref b] (.ref l) [u] (λx H3=>D.nx σ H3) I2 rfl (.cons r2 .nil) ⟨l,b,xs,zs,rfl,rfl,h1,h2,h3,h4⟩) λw s3⟨x,H3,I3,_,q3⟩=>?_
 exact⟨σ,H3,I3,q3⟩
def PEs(X:Cx)(e:aQ)(te:TE):Prop:=∀(pins:List (aa×aG))(s:aj)(σ:L2.St)(H:Hp)(Q:VK),Inv X pins σ H s->te σ H Q->wpAny (ay X.prog X.w) X.A (eval e X.env) (λu s'=>EP X pins σ Q u s'/\1<=s'.toks) X.xe s
theorem YC{i:Int}{es:List aQ}{t:TA}(hr:PA X es t)(hs:aU (.Constant (.int i) j p::es) X.env=(false,eval (.Constant (.int i) j p) X.env)::aU es X.env){σ:L2.St}{Q:List V->Hp->Prop}(I:Inv X pins σ H s)(h:fk (tC (.int i)) t σ H Q):
  wpAny (ay X.prog X.w) X.A (zH (b9 pos (aU (.Constant (.int i) j p::es) X.env))) (λus s'=>AP X pins σ Q us s'/\1<=s'.toks) X.xe s:=by
 rw[hs]
 show wpAny _ _ (zH ((false,eval (.Constant (.int i) j p) X.env)::b9 pos (aU es X.env))) _ _ s
 refine qE (QD ?_)
 have I1:Inv X pins σ H {s with toks:=s.toks+1}:=I.tok _
 refine CT (n:=1) (show 1<=s.toks+1 by omega) (hr pos pins _ σ H _ I1 h) λus s2 tk⟨xs,H2,I2,r2,q2⟩=>⟨⟨.int i::xs,H2,I2,.cons ⟨_,rfl⟩ r2,q2⟩,tk⟩
theorem abU{m:ag}{k:Nat}{o:aQ}{i:Int}{es:List aQ}{t:TA}{pl:aJ Bool}(M:Mt X.prog X.w X.K X.mg X.base C m ps k sp)(hr:g9 k X.A)(he:PE X o ta)(ha:PA X es t)(tj:aU (.Constant (.int i) j p::es) X.env=(false,eval (.Constant (.int i) j p) X.env)::aU es X.env:=by rfl)(mY:(b9 pos (aU es X.env)).any (·.1)=false:=by rfl)(ht:eval (.Call (.Attribute o m apos) (.Constant (.int i) j p::es) [] pos) X.env=(do
   let ov<-eval o X.env
   oe apos.atName
   let(f,first)<-h_ [ov] (ot ov m pl)
   uQ pos f first (b9 pos (aU (.Constant (.int i) j p::es) X.env)) (jI pos (jJ [] X.env))):=by rfl):
  PEs X (.Call (.Attribute o m apos) (.Constant (.int i) j p::es) [] pos) (ng C m sp [] E0 ta (fk (tC (.int i)) t)):=by
 obtain⟨f,fd,G,hm,hb⟩:=M.ex
 intro pins s σ H Q I h
 refine Gi (pl:=pl) (fg (he pins s σ H _ I h) λu s1⟨x,H1,I1,rx,a,dx,fs,ex,ea,l,q⟩=>?_) ht
 subst ex
 obtain rfl:u=aK a:=rx
 refine tV I1 ea M.cl hm l ?_
 refine zT (first:=[.ref a]) (h₀:=X.base) I.ok.mod.kin hm.kp (fg (YC ha tj I1 q) λus s2⟨⟨vs,H2,I2,r,q2⟩,tk⟩=>⟨I2.Ki,?_⟩) tj mY
 exact CT tk (Ei (us:=.ref a::us) (vs:=.ref a::vs) G hr hb .nil Dn I2 (.cons rfl r) q2) λu s' Xg h'=>⟨h',Xg⟩
def YD(X:Cx)(st:List bj)(t:TS):Prop:=∀(pins:List (aa×aG))(s:aj)(σ:L2.St)(H:Hp)(D:Ends),Inv X pins σ H s->1<=s.toks->t D σ H->wpAny (ay X.prog X.w) X.A (execs st X.env) (SP X pins D) X.xe s
theorem O4{rest:List bj}{t u:TS}(h1:PS X st t)(h2:YD X rest u):YD X (st::rest) (aaS t u):=by
 intro pins s σ H D I tk h
 refine uI (CT tk (h1 pins s σ H {D with nx:=u D} I h) λf s1 N3 q=>?_)
 cases f with
 |next=>
  obtain⟨gT,H',I',q⟩:=q
  exact h2 pins s1 gT H' D I' N3 q
 |ret v=>exact q
 |brk=>exact q
 |cont=>exact q
theorem Vb{rest:List bj}{u:TS}(hN:X.N.Nodup)(hi:X.N[i]?=some x)(hx:Loc X.env.scope x)(he:PEs X e te)(h2:YD X rest u)(hs:iV e (some (.Name x pos')) pos.line X.env=pure false:=by rfl)(hf:X.fn x=true\/X.env.scope.names.lookup x=some .local:=by first|exact .inl rfl|exact .inr rfl):
  FG X (.Assign [.Name x pos'] e pos::rest) (aaS (QO te (cy i)) u):=by
 intro pins s σ H D I h
 refine uI (QP (fg (he pins s σ H _ I h) λv s1⟨⟨y,H1,I1,r1,q1⟩,N3⟩=>?_) hs)
 refine CT N3 (uE (Q:=λ(_:Unit)s2=>∃gT,Inv X pins gT H1 s2/\u D gT H1) I1 hN hi hx r1 (λs2 I2=>⟨_,I2,q1⟩) hf) λ_ s2 N7⟨gT,I2,q2⟩=>?_
 exact h2 pins s2 gT H1 D I2 N7 q2
def ae6(to te:TE):TS:=λD σ H=>to σ H λx H1=>∃l xs0,x=.ref l/\H1 l=some (mX l xs0)/\te σ H1 λy H2=>∃b xs zs,y=.ref b/\H2 l=some (mX l xs)/\H2 b=some (mX b zs)/\xs.length+zs.length<=az/\D.nx σ (upd H2 l (mX l (xs++zs)))
theorem Vc{o:aQ}{to:TE}(ho:PE X o to)(ha:∀{pins:List (aa×aG)}{s:aj}{σ:L2.St}{H:Hp}{Q:VK},Inv X pins σ H s->1<=s.toks->te σ H Q->wpAny (ay X.prog X.w) X.A (eval e X.env) (EP X pins σ Q) X.xe s)(Ka:ou o "extend" X.env (eval o X.env)=eval o X.env:=by rfl)(WH:((b9 lr (aU [e] X.env)).all (λx=>!x.1)&&(jI lr (jJ [] X.env)).all (λx=>x.1.isSome)
   &&decide ([e].length+([]:List iY).length+(if([]:List iY).isEmpty then 0 else 1)<30))=true:=by rfl)(Kb:(apos.endLine==lr.line)=true:=by rfl)(hs:aU [e] X.env=(false,eval e X.env)::aU [] X.env:=by rfl)(hsw:iV (.Call (.Attribute o "extend" apos) [e] [] lr) none pos.line X.env=pure false:=by rfl):
  YD X [.Expr (.Call (.Attribute o "extend" apos) [e] [] lr) pos] (ae6 to te):=by
 intro pins s σ H D I tk h
 refine uI (fg (YB (D:=D) ho ha Ka WH Kb hs hsw I tk h) λf s1 q=>?_)
 cases f with
 |next=>exact uH q
 |ret v=>exact q
 |brk=>exact q
 |cont=>exact q
theorem ae7{σ:L2.St}(I:Inv X pins σ H s)(h:H a=some (.lst [])):Inv X pins σ (upd H a (mX a [])) s:=by
 obtain⟨z,its,n,r,e⟩:=I.hok a _ h
 cases r
 have:=I.write (t':=s.toks) (h':=s.heap) (x:=a) (e:=a) (o:=mX a []) (by rw[h];exact trivial) (.inl rfl) (λb u _ q=>q) ⟨_,e⟩ (Yt (its:=[]) (bI _) .nil ⟨n,e⟩)
 cases s;exact this
theorem abV{σ:L2.St}(I:Inv X pins σ H s){xs:List Nat}(h:H a=some (mX a xs)):∃o,NzO o/\Inv X pins σ (upd H a (.yO o (.lst (bU xs)))) s:=by
 obtain⟨⟨z,its,n,r,e⟩,_⟩:=I.hok a _ h
 have rv:∀{xs:List Nat}{its:List af},Paired NzV xs its->Vals (bU xs) its/\∀v∈its,∃(k:Int)(t:dR),t≠0/\v=.int k t:=λ{xs its}r=>by
  induction r with
  |nil=>exact⟨.nil,λv hv=>by simp at hv⟩
  |cons q _ ih=>
   obtain⟨t,ht,rfl⟩:=q
   refine⟨.cons ⟨t,rfl⟩ ih.1,λv hv=>?_⟩
   rcases aY.mp hv with rfl|hv
   ·exact⟨_,t,ht,rfl⟩
   ·exact ih.2 v hv
 refine⟨{cls:=.type "list",data:=.seq its.toArray n},λits' n' e' v hv=>?_,?_⟩
 ·injection e' with e1 e2
  subst e1
  exact(rv r).2 v (by simpa using hv)
 ·have:=I.write (t':=s.toks) (h':=s.heap) (x:=a) (e:=a) (o:=.yO {cls:=.type "list",data:=.seq its.toArray n} (.lst (bU xs))) (by rw[h];exact trivial) (.inl rfl) (λb u _ q=>q) ⟨_,e⟩ ⟨e,by rw[aR];exact z,its,n,(rv r).1,e⟩
  cases s;exact this
theorem abW{st:List bj}{t:TS}(h:FG X st t):FG X st (λD σ H=>∃a,H a=some (.lst [])/\t D σ (upd H a (mX a []))):=λpins s σ H D I⟨a,ha,q⟩=>h pins s σ _ D (ae7 I ha) q
theorem YE{st:List bj}{t:TS}(h:FG X st t):FG X st (λD σ H=>∃a xs,H a=some (mX a xs)/\∀o,NzO o->t D σ (upd H a (.yO o (.lst (bU xs))))):=λpins s σ H D I⟨a,xs,ha,q⟩=>by
 obtain⟨o,ho,I'⟩:=abV I ha
 exact h pins s σ _ D I' (q o ho)
theorem Vd{vs:List Nat}{σ:L2.St}(hD:H1 D=none)(W:Wk [D] J (upd H1 D (mX D [])) n Item)(f:Nat->Nat)(hn:n<=1000000)(hs:∀i x H(p6:VK),i<n->aP H1 H->Item i x H->p6 (.int (f i:Int)) H->g x (wipe σ vs) H λkH H2=>wipe kH vs=wipe σ vs/\te kH H2 p6)(hd:∀H,aP H1 H->H D=some (mX D ((aE n).map f))->Qd H):
  ∃W:Nat->Nat->Hp->Prop,(∃m,W 0 m (upd H1 D (mX D [])))/\∀i m H,W i m H->(J.stop i H/\Qd H)\/(J.go i H/\∃Nx:Hp->Prop,(∀H',Nx H'->∃m',m'<m/\W (i+1) m' H')/\∀x H',J.yP i H x H'->g x (wipe σ vs) H' λkH H2=>wipe kH vs=wipe σ vs/\te kH H2 λy H4=>∃(acc:List Nat)(n:Nat),y=.int (n:Int)/\H4 D=some (mX D acc)/\acc.length<az/\Nx (upd H4 D (mX D (acc++[n])))):=by
 have Pv:Nat->Hp->Prop:=λ_ _=>True
 refine⟨λi m H=>m=n-i/\i<=n/\aP H1 H/\Sx [D] (upd H1 D (mX D [])) H/\H D=some (mX D ((aE i).map f)),⟨n,by simp,bI _,aw hD,.refl,ao⟩,?_⟩
 rintro i m H ⟨rfl,hi,s1,s2,Qi⟩
 by_cases hlt:i<n
 ·refine .inr ⟨W.go i H hlt s2,λH'=>aP H1 H'/\Sx [D] (upd H1 D (mX D [])) H'/\H' D=some (mX D ((aE (i+1)).map f)),λH' p'=>⟨n-(i+1),by omega,rfl,hlt,p'⟩,λx H' y=>?_⟩
  obtain⟨s,it⟩:=W.yP i H x H' hlt s2 y
  have N5:aP H1 H':=s1.trans s
  have lD:=s _ _ Qi
  refine hs i x H' _ hlt N5 it ⟨_,f i,rfl,lD,?_,jZ N5 hD,c8 (s2.then s) (by simp),?_⟩
  ·rw[aA,e_,dU];omega
  ·rw[ao,iy,eU];rfl
 ·have e:i=n:=by omega
  subst e
  exact .inl ⟨W.stop H s2,hd H s1 Qi⟩
def wx(K:aL)(C:aa):Sp:=λvs H Q _=>∃(p q:aa)(w:br)(r:List Nat),vs=[.ref p,.ref q]/\mO C H p w/\dn w=true/\a_ K H q (bU r)/\Be H Q (r.take (2*bc w))
def sg(K:aL)(C:aa):Sp:=λvs H Q _=>∃(p q:aa)(w:br)(r:List Nat),vs=[.ref p,.ref q]/\mO C H p w/\dn w=true/\a_ K H q (bU r)/\Be H Q (r.drop (2*bc w))
abbrev sW3:bj:=inClass (top 23) 3
abbrev sW4:bj:=inClass (top 23) 4
theorem ai5:a0 ["self","row"] ["self","row"] (aB sW3):={}
theorem ai6:a0 ["self","row"] ["self","row"] (aB sW4):={}
theorem bE(s:aP H H')(h:a_ K H a xs):a_ K H' a xs:=s.seq h
theorem Ve(F:il K "sizes_part" "Ways.sizes_part" sW3 f fd)(T:lB K mg)(W:WT K C)(Gv:Fn P w K mg base "vowel_places" ["sounds"] 1 vS):cz P w K mg base hC 2 f fd ["self","row"] (wx K C):=by
 refine F.ok ai5 (λfF A outer s H vs Q E hr h=>?_)
 ·obtain⟨p,q,w,r,rfl,⟨dx,a,sy,m,hp,hw,hs,hm⟩,hok,hq,k⟩:=h
  obtain⟨hl,_,_⟩:=bR hok
  refine⟨_,aD (aX (i6 kx (pv 1) nh (gy (b7 lV bo (bw aZ rfl T.len cP (ae (c9 Gv hr rfl (ae (bL (pv 0) rfl) ai)) ai)))))),?_⟩
  refine⟨_,rfl,_,rfl,p,C,dx,_,_,rfl,hp,W.cl,W.nS,Yy _ _ _,a,w,rfl,hw,by omega,λH1 v s1 v0 hv=>?_⟩
  refine⟨v,_,rfl,.inl (a_.of hv),_,_,rfl,rfl,.inl ⟨by decide,by decide⟩,_,rfl,q,_,rfl,bE s1 hq,λt ht=>?_⟩
  rw[aR,cY,show(2:Int)*((bc w:Nat):Int)=((2*bc w:Nat):Int) by omega,TH,<-mH]
  exact k _ t (s1.trans (aw ht)) (s1.free ht) ao
theorem O5(F:il K "marks_part" "Ways.marks_part" sW4 f fd)(T:lB K mg)(W:WT K C)(Gv:Fn P w K mg base "vowel_places" ["sounds"] 1 vS):cz P w K mg base hC 2 f fd ["self","row"] (sg K C):=by
 refine F.ok ai6 (λfF A outer s H vs Q E hr h=>?_)
 ·obtain⟨p,q,w,r,rfl,⟨dx,a,sy,m,hp,hw,hs,hm⟩,hok,hq,k⟩:=h
  obtain⟨hl,_,_⟩:=bR hok
  refine⟨_,aD (aX (i6 kx (pv 1) (gy (b7 lV bo (bw aZ rfl T.len cP (ae (c9 Gv hr rfl (ae (bL (pv 0) rfl) ai)) ai)))) nh)),?_⟩
  refine⟨_,rfl,_,rfl,p,C,dx,_,_,rfl,hp,W.cl,W.nS,Yy _ _ _,a,w,rfl,hw,by omega,λH1 v s1 v0 hv=>?_⟩
  refine⟨v,_,rfl,.inl (a_.of hv),_,_,rfl,rfl,.inl ⟨by decide,by decide⟩,_,rfl,q,_,rfl,bE s1 hq,λt ht=>?_⟩
  rw[aR,cY,show(2:Int)*((bc w:Nat):Int)=((2*bc w:Nat):Int) by omega,rL,<-jd]
  exact k _ t (s1.trans (aw ht)) (s1.free ht) ao
def ND(K:aL)(C:aa):Sp:=λvs H Q _=>∃(p q:aa)(w:br)(r:List Nat),vs=[.ref p,.ref q]/\mO C H p w/\dn w=true/\a_ K H q (bU r)/\∀H',aP H H'->Q (.bl (decide (bh r∈ow w))) H'
def wz(K:aL)(C:aa):Sp:=λvs H Q _=>∃(p q:aa)(w:br)(r:List Nat),vs=[.ref p,.ref q]/\mO C H p w/\dn w=true/\a_ K H q (bU r)/\bh r∈ow w/\∀H'(i:Nat),aP H H'->(ow w)[i]?=some (bh r)->Q (.int (i:Int)) H'
abbrev sW5:bj:=inClass (top 23) 5
abbrev sW6:bj:=inClass (top 23) 6
theorem ai7:a0 ["self","row"] ["self","row"] (aB sW5):={}
theorem ae8:a0 ["self","row","rows_before"] ["self","row"] (aB sW6):={}
theorem iM(a s m:aa)(h:(x==("sounds":ag))=false)(h2:(x==("syllables":ag))=false)(h3:(x==("marks":ag))=false):(wf a s m).lookup x=none:=by
 unfold wf
 rw[fM,h,fM,h2,fM,h3];rfl
theorem abX(F:il K "has_row" "Ways.has_row" sW5 f fd)(T:lB K mg)(W:WT K C)(Ms:Mt P w K mg base C "sizes_part" ["self","row"] 2 (wx K C))(Mm:Mt P w K mg base C "marks_part" ["self","row"] 2 (sg K C)):
  cz P w K mg base hC 3 f fd ["self","row"] (ND K C):=by
 refine F.ok ai7 (λfF A outer s H vs Q E hr h=>?_)
 ·obtain⟨p,q,w,r,rfl,hW,hok,hq,k⟩:=h
  obtain⟨dx,a,sy,m,hp,hw,hs,hm⟩:=id hW
  obtain⟨_,lK,lH⟩:=bR hok
  refine⟨_,aD (aX (zI (gU (Bp hr.units) (dZ Ms hr (pv 0) (ae (pv 1) ai)) (bL (pv 0) rfl) rfl) (xc (gU (Bp hr.units) (dZ Mm hr (pv 0) (ae (pv 1) ai)) (bL (pv 0) rfl) rfl)))),?_⟩
  have key:=Et lH r
  refine⟨_,rfl,p,dx,_,rfl,hp,iM _ _ _ dd dd dd,_,rfl,p,q,w,r,rfl,hW,hok,hq,λH1 t s1 t0 ht=>?_⟩
  have hW1:=jn C _ _ _ _ s1 hW
  have qo:=s1 _ _ hp
  refine⟨_,rfl,p,C,dx,_,_,rfl,qo,W.cl,W.nY,U' _ _ _,t,sy,_,_,rfl,rfl,a_.of ht,aW ck _ _ _ _ s1 hs,_,rfl,?_⟩
  refine kg (b:=(dk w).contains (r.take (2*bc w))) rfl (λh1=>?_) (λh1=>?_)
  ·refine⟨_,rfl,p,dx,_,rfl,qo,iM _ _ _ dd dd dd,_,rfl,p,q,w,r,rfl,hW1,hok,bE s1 hq,λH2 t2 s2 t20 uz=>?_⟩
   have nX:=s1.trans s2
   refine⟨_,rfl,p,C,dx,_,_,rfl,nX _ _ hp,W.cl,W.nM,Jx _ _ _,t2,m,_,_,rfl,rfl,a_.of uz,aW ck _ _ _ _ nX hm,?_⟩
   have:=k H2 nX
   have e:decide (bh r∈ow w)=(MR (bc w)).contains (r.drop (2*bc w)):=by
    rw[cV,bN,key,jR]
    exact⟨λh=>h.2,λh=>⟨by simpa using h1,h⟩⟩
   rw[e]at this;exact this
  ·have:=k H1 s1
   have e:decide (bh r∈ow w)=false:=by
    rw[fz,key]
    rintro⟨h,_⟩
    have:(dk w).contains (r.take (2*bc w))=true:=by simpa using h
    rw[this]at h1;cases h1
   rw[e]at this;exact this
theorem Vf{w:br}(hok:dn w=true){y:fS}(h:y∈ow w):(ow w)[(dk w).idxOf (flat y.sylls)*(MR (bc w)).length+(MR (bc w)).idxOf y.marks]?=some y:=by
 obtain⟨_,lK,lH⟩:=bR hok
 obtain⟨h1,h2⟩:=nQ h
 have z:=(mP _ lK lH).1
 have hj:(MR (bc w)).idxOf y.marks<(MR (bc w)).length:=rN h2
 have hs:flat y.sylls∈dk w:=aM.mpr ⟨_,h1,rfl⟩
 have hi:(dk w).idxOf (flat y.sylls)<(dk w).length:=rN hs
 unfold ow
 rw[r_ (λs=>(MR (bc w)).map λm=>(⟨s,m⟩:fS)) z _ _ (λa _=>by rw[aA])]
 rw[eY,Nat.mul_add_div z,A4 hj,oN,Ic,iB hj]
 have e1:(dk w)[(dk w).idxOf (flat y.sylls)]?=some (flat y.sylls):=by rw[bT hi,Bq]
 unfold dk at e1
 rw[bz]at e1
 cases q:(dw w)[((dw w).map flat).idxOf (flat y.sylls)]?with
 |none=>rw[q]at e1;simp at e1
 |some s=>
  rw[q]at e1
  simp only[gJ,gL]at e1
  have:=Ao e1
  subst this
  show(((dw w)[((dw w).map flat).idxOf (flat y.sylls)]?).bind λa=>((MR (bc w)).map λm=>(⟨a,m⟩:fS))[(MR (bc w)).idxOf y.marks]?)=some y
  rw[q,rb,bz,bT hj,Bq];rfl
theorem O6(F:il K "number_of" "Ways.number_of" sW6 f fd)(T:lB K mg)(W:WT K C)(Ms:Mt P w K mg base C "sizes_part" ["self","row"] 2 (wx K C))(Mm:Mt P w K mg base C "marks_part" ["self","row"] 2 (sg K C)):
  cz P w K mg base hC 3 f fd ["self","row"] (wz K C):=by
 refine F.ok ae8 (λfF A outer s H vs Q E hr h=>?_)
 ·obtain⟨p,q,w,r,rfl,hW,hok,hq,ZJ,k⟩:=h
  obtain⟨dx,a,sy,m,hp,hw,hs,hm⟩:=id hW
  obtain⟨_,lK,lH⟩:=bR hok
  obtain⟨_,e1,e2⟩:=HE lH ZJ
  obtain⟨m1,m2⟩:=(Et lH r).mp ZJ
  refine⟨_,ak (cH 2 ae8.nd (b7 lV (gc dq u6 Jy (tP hr.units) (bL (pv 0) rfl) (ae (dZ Ms hr (pv 0) (ae (pv 1) ai)) ai)) (bw aZ rfl T.len cP (ae (bL (pv 0) rfl) ai))))<|aD (aX (b7 jF (pv 2) (gc dq u6 Jy (tP hr.units) (bL (pv 0) rfl) (ae (dZ Mm hr (pv 0) (ae (pv 1) ai)) ai)))),?_⟩
  obtain⟨sps,Kc,Me⟩:=id hs
  obtain⟨ZP,PX,w_⟩:=id hm
  have hb:=se hok
  refine⟨_,rfl,p,C,dx,_,_,rfl,hp,W.cl,W.nY,U' _ _ _,.inl ⟨rfl,_,a_.of Kc⟩,_,rfl,p,dx,_,rfl,hp,iM _ _ _ dd dd dd,_,rfl,p,q,w,r,rfl,hW,hok,hq,λH1 t s1 t0 ht=>?_⟩
  refine⟨t,sy,_,_,rfl,rfl,a_.of ht,aW ck _ _ _ _ s1 hs,m1,?_⟩
  have qo:=s1 _ _ hp
  refine⟨_,rfl,p,C,dx,_,_,rfl,qo,W.cl,W.nM,Jx _ _ _,m,_,rfl,.inl (a_.of (s1 _ _ PX)),_,_,rfl,rfl,?_,?_⟩
  ·left;have:=rN m1;constructor<;>omega
  refine⟨_,rfl,_,rfl,p,C,dx,_,_,rfl,qo,W.cl,W.nM,Jx _ _ _,.inl ⟨rfl,_,a_.of (s1 _ _ PX)⟩,_,rfl,p,dx,_,rfl,qo,iM _ _ _ dd dd dd,_,rfl,p,q,w,r,rfl,jn C _ _ _ _ s1 hW,hok,bE s1 hq,λH2 t2 s2 t20 uz=>?_⟩
  have nX:=s1.trans s2
  refine⟨t2,m,_,_,rfl,rfl,a_.of uz,aW ck _ _ _ _ nX hm,m2,_,_,rfl,rfl,?_⟩
  have:=k H2 _ nX (Vf hok ZJ)
  rw[e1,e2]at this
  have e3:ZP.length=(MR (bc w)).length:=bF w_
  show Q (.int (((dk w).idxOf (r.take (2*bc w)):Nat)*((ZP.map V.ref).length:Int)+((MR (bc w)).idxOf (r.drop (2*bc w)):Nat))) H2
  rw[aA,e3,<-BV,<-Js];exact this
theorem O7(r:List Nat):((aE (r.length-1)).filter λi=>decide (r.getD (i+1) 0<=r.getD i 0)).length=snl r:=by
 unfold snl
 have e:r.zip r.tail=(aE (r.length-1)).map λi=>(r.getD i 0,r.getD (i+1) 0):=by
  apply jc
  intro i
  by_cases h:i<r.length-1
  ·have h1:i<r.length:=by omega
   have h2:i+1<r.length:=by omega
   have ez:(r.zip r.tail)[i]?=some (r[i],r[i+1]):=vC.mpr ⟨bT h1,by rw[List.getElem?_tail,bT h2]⟩
   rw[bz,mw h,ez]
   simp[bM,h1,h2]
  ·rw[eR (by simp;omega),eR (by simp;omega)]
 rw[e,iq,aA];rfl
def ET(K:aL):Sp:=λvs H Q _=>∃(q:aa)(r:List Nat),vs=[.ref q]/\a_ K H q (bU r)/\r.length<=100/\∀H',aP H H'->Q (.int (snl r:Nat)) H'
theorem YF:a0 ["row","first","second"] ["row"] (aB (top 29)):={}
theorem Vg(F:il K "steps_not_louder" "steps_not_louder" (top 29) f fd)(T:lB K mg):cz P w K mg base hC 1 f fd ["row"] (ET K):=by
 refine F.ok YF (λfF A outer s H vs Q E hr h=>?_)
 ·obtain⟨q,r,rfl,hq,hl,k⟩:=h
  refine⟨_,aD (aX (bw aZ rfl T.len cP (ae
   (gh (own:=[("first",1),("second",2)]) (g:=tq K 2 (fi (cy 1) (fi (cy 2) tp))) (tt:=oq (qk (Ef λi j=>.bl (decide (i<=j))) (cE 2) (cE 1))) (te:=cE 1)
    rfl YF.nd (Ai rfl T.zip (ae (pv 0) (ae (i6 kx (pv 0) (gy bo) nh) ai))) (b_ (by show i8 ["row","first","second"] (aB (top 29)) _ _=true;decide+kernel))
    (λs H C cl fp=>fV rfl (bu (cZ 1 YF.nd) (bu (cZ 2 YF.nd) eI)))
    (λs H C cl fp=>gX (bK Dc (pv 2) (pv 1) (bW _)))
    (λs H C cl fp=>pv 1)) ai))),?_⟩
  refine⟨_,rfl,_,rfl,_,rfl,q,_,rfl,hq,λt ht=>?_⟩
  rw[show(some (1:Int))=some ((1:Nat):Int)from rfl,rL,<-jd]
  generalize hJ:upd H t (.lst (bU (r.drop 1)))=H1 at*
  have s1:aP H H1:=by rw[<-hJ];exact aw ht
  have Vh:H1 t=some (.lst (bU (r.drop 1))):=by rw[<-hJ];exact ao
  refine⟨q,t,_,_,rfl,bE s1 hq,a_.of Vh,λD hD=>?_⟩
  refine fQ hD (wkz (ux hD (bE s1 hq)) (ux hD (a_.of Vh)) (m:=r.length-1) (by rw[aR,aR,gG];omega)) (λi=>decide (r.getD (i+1) 0<=r.getD i 0)) (λi=>V.int (r.getD i 0:Nat)) oo (λi x H' p6 No hi sm it hy hn=>?_) (λH' sm hd=>?_)
  ·obtain⟨T',y,z,rfl,hT,h1,h2⟩:=it
   obtain⟨n1,rfl,e1⟩:=c6 h1
   obtain⟨n2,rfl,e2⟩:=c6 h2
   have g1:r.getD i 0=n1:=by rw[bM,e1];rfl
   have g2:r.getD (i+1) 0=n2:=by rw[HR,qH]at e2;rw[bM,e2];rfl
   rw[g1,g2]at hy hn
   refine⟨T',_,rfl,lu.of hT,rfl,_,_,rfl,_,_,rfl,rfl,rfl,_,rfl,_,rfl,_,_,rfl,rfl,_,rfl,?_⟩
   exact kg (b:=decide (n2<=n1)) (by rw[dN];omega) (λh=>⟨_,rfl,hy h⟩) hn
  ·refine⟨D,_,rfl,.inl (a_.of hd),?_⟩
   rw[aA,O7]
   exact k H' (s1.trans sm)
def Lx(K:aL):Sp:=λvs H Q _=>∃(a q:aa)(w:br)(s:List mQ),vs=[.ref a,.ref q]/\fE H a w/\a_ K H q (bU (flat s))/\w.length<=10/\Kk w s/\∀H',aP H H'->Q (.int (Aw (cM w s):Nat)) H'
theorem CV:a0 ["sounds","sizes","total","loudness","syllable","vowel","before","behind","sound"] ["sounds","sizes"] (aB (top 30)):={}
theorem u0{s:List mQ}{t:Nat}{x:mQ}(h:s[t]?=some x):(flat s)[2*t]?=some x.1/\(flat s)[2*t+1]?=some x.2:=by
 induction s generalizing t with
 |nil=>simp at h
 |cons a s ih=>
  rw[ff]
  cases t with
  |zero=>simp at h;subst h;exact⟨rfl,rfl⟩
  |succ t=>
   have:=ih (t:=t) (by simpa using h)
   rw[show 2*(t+1)=2*t+1+1 by omega,show 2*t+1+1+1=2*t+1+1+1 from rfl]
   simpa using this
theorem dz(l:List α)(d:α)(f:α->β):(aE l.length).map (λi=>f (l.getD i d))=l.map f:=by
 apply jc
 intro i
 by_cases h:i<l.length
 ·simp[h]
 ·rw[eR (by simp;omega),eR (by simp;omega)]
theorem O8{l:List Nat}{x:Nat}(h:l[i]?=some x):(l.take (i+1)).sum=(l.take i).sum+x:=by rw[cD h];simp
theorem YG(F:il K "loudness_breaks" "loudness_breaks" (top 30) f fd)(T:lB K mg)(Gv:Fn P w K mg base "vowel_places" ["sounds"] 1 vS)(Gs:Fn P w K mg base "steps_not_louder" ["row"] 1 (ET K)):cz P w K mg base hC 2 f fd ["sounds","sizes"] (Lx K):=by
 refine F.ok CV (λfF A outer s H vs Q E hr h=>?_)
 ·obtain⟨a,q,w,sy,rfl,hw,hq,hlen,pZ,k⟩:=h
  refine⟨_,ak (cH 2 CV.nd bo)<|ak (qP (i:=3) (own:=[("sound",8)]) (g:=cy 8) (tt:=oE) (te:=qk (XG K) (cE 8) (tC (.int 1))) rfl CV.nd rfl rfl (vd rfl rfl rfl rfl) (cB (pv 0)) (b_ (by show i8 ["sounds","sizes","total","loudness","syllable","vowel","before","behind","sound"] (aB (top 30)) _ _=true;decide+kernel))
    (λs H C cl fp=>cZ 8 CV.nd) (λs H C cl fp=>fB) (λs H C cl fp=>iP zX (pv 8) bo (λ_ _=>rfl)))<|ak (fW ee rfl (kC rfl T.enumerate (ae (c9 Gv hr rfl (ae (pv 0) ai)) ai)) (fV rfl (bu (cZ 4 CV.nd) (bu (cZ 5 CV.nd) eI)))<|ak (cH 6 CV.nd (iP fJ (pv 1) (b7 lV bo (pv 4)) (λ_ _=>rfl)))<|ak (cH 7 CV.nd (iP fJ (pv 1) (b7 jF (b7 lV bo (pv 4)) bo) (λ_ _=>rfl)))<|ak (Ee (i:=2) CV.nd rfl (md rfl) (c9 Gs hr rfl (ae (i6 kx (pv 3) (gy (b7 jG (pv 5) (pv 6))) (gy (b7 jF (pv 5) bo))) ai)) QQ)<|aD (Ee (i:=2) CV.nd rfl (md rfl) (c9 Gs hr rfl (ae (I_ rfl T.list rfl T.reversed rfl (i6 kx (pv 3) (gy (pv 5)) (gy (b7 jF (b7 jF (pv 5) (pv 7)) bo)))) ai)) QQ))<|aD (aX (pv 2)),?_⟩
  obtain⟨ps,ha,hp⟩:=id hw
  have Mq:ps.length=w.length:=bF hp
  refine⟨_,rfl,a,rfl,⟨_,a_.of ha⟩,λD hD=>?_⟩
  refine fQ hD (yz (ux hD (a_.of ha))) (λ_=>true) (λi=>V.int ((w.getD i ⟨0,0⟩).loud:Int)) (by rw[aA];omega) (λi x H' p6 No hi sm it hy hn=>?_) (λH1 s1 hd=>?_)
  ·obtain⟨p,rfl,yt⟩:=fD it
   obtain⟨sd,hsd,kf⟩:=cN hp yt
   have eg:w.getD i ⟨0,0⟩=sd:=by rw[bM,hsd];rfl
   rw[eg]at hy
   exact⟨rfl,_,rfl,p,_,_,_,rfl,rfl,lu.of (sm _ _ kf),rfl,hy rfl⟩
  rw[filter_true,aA,Mq,dz w ⟨0,0⟩ λx=>V.int (x.loud:Int)]at hd
  have Qi:H1 D=some (.lst (bU (w.map (·.loud)))):=by rw[hd];simp only[cg];rfl
  have Ke:=aW bJ _ _ _ _ s1 hw
  refine⟨_,rfl,a,w,rfl,Ke,by omega,λH2 v nX v0 hv=>?_⟩
  have lP:=s1.trans nX
  have hd2:=nX _ _ Qi
  obtain⟨f1,f2,f3,f4⟩:=km pZ 0
  refine⟨v,_,rfl,a_.of hv,?_⟩
  have hn:(bU (vp w)).length=(cM w sy).length:=by rw[aR,f1];exact f2
  refine fY (ex:=[]) (Z5 (λH' sx=>bE (gZ sx) (a_.of hv)))
   (λi σ H'=>∃(v4 v5 v6 v7:Option V),σ=[some (.ref a),some (.ref q),some (.int ((((cM w sy).map λx=>eN (x.onset++[x.vowel])+eN (x.coda.reverse++[x.vowel])).take i).sum:Nat)),some (.ref D),v4,v5,v6,v7,none]/\Sx [] H2 H')
   ⟨none,none,none,none,rfl,.refl⟩ (λi σ H'⟨_,_,_,_,_,q⟩=>q) ?_ ?_
  ·rintro i x σ H3 H4 hi ⟨v4,v5,v6,v7,rfl,sx⟩ jh ⟨T',y,rfl,hT,hy⟩
   obtain⟨vv,rfl,hvv⟩:=c6 hy
   have s24:aP H2 H4:=(gZ sx).trans jh
   obtain⟨fu,hfu⟩:∃fu,(cM w sy)[i]?=some fu:=⟨_,bT oo⟩
   obtain⟨vq,g1,g2,g3,g4,g5,g6⟩:=f4 i fu hfu
   rw[dE]at g1
   have evq:vq=vv:=by rw[show(cA 0 w)[i]?=some vv from hvv]at g1;exact(bO g1).symm
   subst evq
   have hsy:sy[i]?=some (fu.onset.length,fu.coda.length):=by rw[<-f3,bz,hfu];rfl
   obtain⟨b1,b2⟩:=u0 hsy
   have P5:=bE (lP.trans s24) hq
   have hd4:=s24 _ _ hd2
   refine⟨T',_,rfl,lu.of hT,rfl,_,_,rfl,_,_,rfl,rfl,?_⟩
   refine⟨_,rfl,_,rfl,_,_,rfl,rfl,.inl ⟨by decide,by decide⟩,q,_,_,_,rfl,rfl,P5,at_of (j:=2*i) oo (by rw[bz,b1];rfl),?_⟩
   refine⟨_,rfl,_,rfl,_,_,rfl,rfl,.inl ⟨by decide,by decide⟩,_,_,rfl,rfl,q,_,_,_,rfl,rfl,P5,at_of (j:=2*i+1) oo (by rw[bz,b2];rfl),?_⟩
   have lw:(w.map (·.loud)).length=w.length:=aA _
   refine⟨_,rfl,_,rfl,_,rfl,_,rfl,_,_,rfl,rfl,_,rfl,_,rfl,_,_,rfl,rfl,_,rfl,D,_,rfl,a_.of hd4,λt1 Qc=>?_⟩
   have ec1:uU (bU (w.map (·.loud))) (some ((vq:Int)-(fu.onset.length:Int))) (some ((vq:Int)+1))=bU ((fu.onset++[fu.vowel]).map (·.loud)):=by
    rw[show(vq:Int)-(fu.onset.length:Int)=((vq-fu.onset.length:Nat):Int) by omega,show(vq:Int)+1=((vq+1:Nat):Int) by omega,EG,<-jd,<-mH,<-jd,<-mH,show vq+1-(vq-fu.onset.length)=fu.onset.length+1 by omega,g3]
   rw[ec1]
   generalize Km:upd H4 t1 (.lst (bU ((fu.onset++[fu.vowel]).map (·.loud))))=H5 at*
   have P6:aP H4 H5:=by rw[<-Km];exact aw Qc
   have h5:H5 t1=some (.lst (bU ((fu.onset++[fu.vowel]).map (·.loud)))):=by rw[<-Km];exact ao
   refine⟨t1,_,rfl,a_.of h5,by rw[aA,bZ];simp;omega,λH6 EH=>?_⟩
   rw[KJ]
   refine⟨_,_,rfl,rfl,?_⟩
   have O9:=P6.trans EH
   refine⟨_,rfl,_,rfl,_,rfl,_,rfl,_,rfl,_,rfl,_,_,rfl,rfl,_,_,rfl,rfl,_,rfl,D,_,rfl,a_.of (O9 _ _ hd4),λt2 uz=>?_⟩
   have ec2:uU (bU (w.map (·.loud))) (some (vq:Int)) (some ((vq:Int)+(fu.coda.length:Int)+1))=bU ((fu.vowel::fu.coda).map (·.loud)):=by
    rw[show(vq:Int)+(fu.coda.length:Int)+1=((vq+fu.coda.length+1:Nat):Int) by omega,EG,<-jd,<-mH,<-jd,<-mH,show vq+fu.coda.length+1-vq=fu.coda.length+1 by omega,g4]
   rw[ec2]
   generalize IA:upd H6 t2 (.lst (bU ((fu.vowel::fu.coda).map (·.loud))))=H7 at*
   have Bk:aP H6 H7:=by rw[<-IA];exact aw uz
   have h7:H7 t2=some (.lst (bU ((fu.vowel::fu.coda).map (·.loud)))):=by rw[<-IA];exact ao
   refine⟨t2,_,rfl,a_.of h7,λt3 ht3=>?_⟩
   have ai9:(bU ((fu.vowel::fu.coda).map (·.loud))).reverse=bU ((fu.coda.reverse++[fu.vowel]).map (·.loud)):=by
    rw[<-Vi,<-Vi,GH]
   rw[ai9]
   generalize hH8:upd H7 t3 (.lst (bU ((fu.coda.reverse++[fu.vowel]).map (·.loud))))=H8 at*
   have Yd:aP H7 H8:=by rw[<-hH8];exact aw ht3
   have h8:H8 t3=some (.lst (bU ((fu.coda.reverse++[fu.vowel]).map (·.loud)))):=by rw[<-hH8];exact ao
   refine⟨t3,_,rfl,a_.of h8,by rw[aA,bZ,He];simp;omega,λH9 W7=>?_⟩
   rw[KJ]
   refine⟨_,_,rfl,rfl,some (.int (i:Int)),some (.int (vq:Int)),some (.int (fu.onset.length:Int)),some (.int (fu.coda.length:Int)),?_,sx.trans (Bc ((((jh.trans O9).trans Bk).trans Yd).trans W7))⟩
   have:=O8 (l:=(cM w sy).map λx=>eN (x.onset++[x.vowel])+eN (x.coda.reverse++[x.vowel])) (i:=i) (by rw[bz,hfu];rfl)
   rw[this]
   simp only[Vj,Vk]
   congr 3
   congr 2
   omega
  ·rintro σ H3 ⟨v4,v5,v6,v7,rfl,sx⟩
   refine⟨_,rfl,?_⟩
   rw[hn,show(cM w sy).length=((cM w sy).map λx=>eN (x.onset++[x.vowel])+eN (x.coda.reverse++[x.vowel])).length by rw[aA],f7]
   exact k H3 (lP.trans (gZ sx))
theorem DV:∀r:List Nat,tY r=p8 (r.drop 1)
 |[]=>rfl
 |[_]=>rfl
 |a::b::[]=>rfl
 |a::b::c::l=>by
  have:=DV (c::l)
  simp only[tY,Vl,qW,p8]at this⊢
  rw[this]
theorem NF{w:br}{s:List mQ}(h:Kk w s):(flat s).length<=2*w.length:=by
 obtain⟨_,f2,_⟩:=km h 0
 have e:(cA 0 w).length<=w.length:=by rw[cY];exact dX _ _
 rw[ip];omega
theorem j_(l:List α)(d:α)(p:α->Bool):((aE l.length).filter λi=>p (l.getD i d)).map (λi=>l.getD i d)=l.filter p:=by
 have e:l=(aE l.length).map λi=>l.getD i d:=by
  have:=dz l d id
  simp at this;simpa using this.symm
 conv=>rhs;rw[e,iq]
 rfl
def EU(K:aL):Sp:=λvs H Q _=>∃(a q:aa)(w:br)(s:List mQ),vs=[.ref a,.ref q]/\fE H a w/\a_ K H q (bU (flat s))/\w.length<=10/\Kk w s/\Be H Q (d6 w s)
theorem Vm:a0 ["sounds","sizes","befores","behinds","size"] ["sounds","sizes"] (aB (top 31)):={}
theorem YH(F:il K "syllable_counts" "syllable_counts" (top 31) f fd)(T:lB K mg)(Gl:Fn P w K mg base "loudness_breaks" ["sounds","sizes"] 2 (Lx K)):cz P w K mg base hC 3 f fd ["sounds","sizes"] (EU K):=by
 refine F.ok Vm (λfF A outer s H vs Q E hr h=>?_)
 ·obtain⟨a,q,w,sy,rfl,hw,hq,hlen,pZ,k⟩:=h
  have hfl:=NF pZ
  refine⟨_,ak (cH 2 Vm.nd (DM (lo:=0) rfl rfl (pv 1)))<|ak (cH 3 Vm.nd (DM (lo:=1) rfl rfl (pv 1)))<|aD (aX (bP (ae (gc dq rO wA o7 (pv 2) (ae bo ai))<|ae (b7 jG (bw aZ rfl T.len cP (ae (pv 3) ai)) (gc dq rO wA o7 (pv 3) (ae bo ai)))<|ae (bw aZ rfl T.len cP (ae (gh (own:=[("size",4)]) (g:=cy 4) (tt:=oq (qk (Ef λi j=>.bl (decide (j<=i))) (cE 4) (tC (.int 2)))) (te:=cE 4)
     rfl Vm.nd (cB (pv 1)) (b_ (by show i8 ["sounds","sizes","befores","behinds","size"] (aB (top 31)) _ _=true;decide+kernel))
     (λs H C cl fp=>cZ 4 Vm.nd) (λs H C cl fp=>gX (bK ZY (pv 4) bo (bW _))) (λs H C cl fp=>pv 4)) ai))<|ae (c9 Gl (hr.mono dd) rfl (ae (pv 0) (ae (pv 1) ai))) ai))),?_⟩
  refine⟨_,rfl,q,_,rfl,hq,λt1 h1=>?_⟩
  rw[qW]
  generalize hJ:upd H t1 (.lst (bU (p8 (flat sy))))=H1 at*
  have s1:aP H H1:=by rw[<-hJ];exact aw h1
  have e1:H1 t1=some (.lst (bU (p8 (flat sy)))):=by rw[<-hJ];exact ao
  refine⟨_,rfl,q,_,rfl,bE s1 hq,λt2 h2=>?_⟩
  rw[<-DV]
  generalize w8:upd H1 t2 (.lst (bU (tY (flat sy))))=H2 at*
  have s2:aP H1 H2:=by rw[<-w8];exact aw h2
  have e2:H2 t2=some (.lst (bU (tY (flat sy)))):=by rw[<-w8];exact ao
  have e12:=s2 _ _ e1
  have lP:=s1.trans s2
  refine⟨_,rfl,.inl ⟨rfl,_,a_.of e12⟩,t1,_,0,rfl,rfl,a_.of e12,?_⟩
  refine⟨_,rfl,t2,_,rfl,.inl (a_.of e2),_,rfl,.inl ⟨rfl,_,a_.of e2⟩,t2,_,0,rfl,rfl,a_.of e2,_,_,rfl,rfl,?_⟩
  refine⟨_,rfl,q,rfl,⟨_,bE lP hq⟩,λD hD=>?_⟩
  refine fQ hD (yz (ux hD (bE lP hq))) (λi=>decide (2<=(flat sy).getD i 0)) (λi=>V.int ((flat sy).getD i 0:Nat)) (by rw[aR];omega) (λi x H' p6 No hi sm it hy hn=>?_) (λH3 s3 hd=>?_)
  ·obtain⟨n,rfl,e⟩:=c6 it
   have g:(flat sy).getD i 0=n:=by rw[bM,e];rfl
   rw[g]at hy hn
   refine⟨rfl,_,rfl,_,_,rfl,rfl,_,rfl,?_⟩
   exact kg (b:=decide (2<=n)) (by rw[dN];omega) (λh=>⟨_,rfl,hy h⟩) hn
  have lD:H3 D=some (.lst (bU ((flat sy).filter λx=>decide (2<=x)))):=by
   rw[hd,aR,<-j_ (flat sy) 0 λx=>decide (2<=x)];simp only[bU,cg];rfl
  refine⟨D,_,rfl,.inl (a_.of lD),?_⟩
  have pP:=lP.trans s3
  refine⟨_,rfl,_,rfl,a,q,w,sy,rfl,aW bJ _ _ _ _ pP hw,bE pP hq,hlen,pZ,λH4 s4=>?_⟩
  refine⟨by show 4<=az;decide,λp hp=>?_⟩
  refine k _ p ((pP.trans s4).trans (aw hp)) ((pP.trans s4).free hp) ?_
  show upd H4 p _ p=_
  rw[ao]
  unfold d6
  have hc:(tY (flat sy)).count 0<=(tY (flat sy)).length:=Sb
  simp only[bU,bb,gH,aA]
  rw[show(((tY (flat sy)).length-(tY (flat sy)).count 0:Nat):Int)=((tY (flat sy)).length:Int)-((tY (flat sy)).count 0:Int) by omega]
abbrev yR(l:List Bool):List V:=l.map V.bl
def cI(b:Bool):Int:=if b then 1 else 0
def zb(K:aL):Sp:=λvs H Q _=>∃(a q:aa)(w:br)(s:List mQ)(c:Bool),vs=[.ref a,.ref q,.int (cI c)]/\fE H a w/\a_ K H q (bU (flat s))/\w.length<=10/\Kk w s/\∀H' p,aP H H'->H p=none->H' p=some (.lst (yR ((cM w s).map (dA c))))->Q (.ref p) H'
theorem Vn:a0 ["sounds","sizes","codas","heavy","syllable","vowel","closed"] ["sounds","sizes","codas"] (aB (top 32)):={}
theorem wB{r:List Bool}{x:V}(h:(yR r)[i]?=some x):∃n:Bool,x=.bl n/\r[i]?=some n:=by
 rw[bz]at h
 cases e:r[i]?with
 |none=>rw[e]at h;cases h
 |some p=>rw[e]at h;exact⟨p,(bO h).symm,rfl⟩
theorem Vo(F:il K "heavy_syllables" "heavy_syllables" (top 32) f fd)(T:lB K mg)(Gv:Fn P w K mg base "vowel_places" ["sounds"] 1 vS):cz P w K mg base hC 2 f fd ["sounds","sizes","codas"] (zb K):=by
 refine F.ok Vn (λfF A outer s H vs Q E hr h=>?_)
 ·obtain⟨a,q,w,sy,c,rfl,hw,hq,hlen,pZ,k⟩:=h
  refine⟨_,ak (cH 3 Vn.nd (bP ai))<|ak (fW ee rfl (kC rfl T.enumerate (ae (c9 Gv hr rfl (ae (pv 0) ai)) ai)) (fV rfl (bu (cZ 4 Vn.nd) (bu (cZ 5 Vn.nd) eI)))<|ak (cH 6 Vn.nd (zI (gU ic (pv 2) bo (bW _)) (xc (gU x5 (iP fJ (pv 1) (b7 jF (b7 lV bo (pv 4)) bo) (λ_ _=>rfl)) bo (bW _)))))<|aD (eQ (gc dq kE kF gf (pv 3) (ae (ad5 (pv 6) (xc (gU ic (iP zX (iP fJ (pv 0) (pv 5) (λ_ _=>rfl)) bo (λ_ _=>rfl)) (eC T.DI rfl) (bW _)))) ai))))<|aD (aX (pv 3)),?_⟩
  obtain⟨f1,f2,f3,f4⟩:=km pZ 0
  refine⟨by show 0<=az;decide,λD hD=>?_⟩
  generalize hJ:upd H D (.lst [])=H1 at*
  have s1:aP H H1:=by rw[<-hJ];exact aw hD
  have BW:H1 D=some (.lst []):=by rw[<-hJ];exact ao
  refine⟨_,rfl,a,w,rfl,aW bJ _ _ _ _ s1 hw,by omega,λH2 v s2 v0 hv=>?_⟩
  have vD:v∉[D]:=by simp only[bA];exactλe=>by rw[e,BW]at v0;cases v0
  refine⟨v,_,rfl,a_.of hv,?_⟩
  have hn:(bU (vp w)).length=(cM w sy).length:=by rw[aR,f1];exact f2
  have hfl:=NF pZ
  rw[ip,<-f1,<-hn]at hfl
  have sH:∀{H'},Sx [D] H2 H'->aP H H':=λ{H'}sx=>jt (H1:=H) hD (o:=.lst []) (by rw[hJ];exact(Bc s2).trans sx)
  refine fY (ex:=[D]) (Z5 (λH' sx=>sx.sq (a_.of hv) vD))
   (λi σ H'=>∃(v4 v5 v6:Option V),σ=[some (.ref a),some (.ref q),some (.int (cI c)),some (.ref D),v4,v5,v6]/\Sx [D] H2 H'/\H' D=some (.lst (yR (((cM w sy).map (dA c)).take i))))
   ⟨none,none,none,rfl,.refl,s2 _ _ BW⟩ (λi σ H'⟨_,_,_,_,q,_⟩=>q) ?_ ?_
  ·rintro i x σ H3 H4 hi ⟨v4,v5,v6,rfl,sx,hDi⟩ jh ⟨T',y,rfl,hT,hy⟩
   obtain⟨vv,rfl,hvv⟩:=c6 hy
   have Vp:aP H H4:=(sH sx).trans jh
   obtain⟨fu,hfu⟩:∃fu,(cM w sy)[i]?=some fu:=⟨_,bT oo⟩
   obtain⟨vq,g1,g2,g3,g4,g5,g6⟩:=f4 i fu hfu
   rw[dE]at g1
   have evq:vq=vv:=by rw[show(cA 0 w)[i]?=some vv from hvv]at g1;exact(bO g1).symm
   subst evq
   have hsy:sy[i]?=some (fu.onset.length,fu.coda.length):=by rw[<-f3,bz,hfu];rfl
   obtain⟨b1,b2⟩:=u0 hsy
   have P5:=bE Vp hq
   obtain⟨ps,ha,hp⟩:=aW bJ _ _ _ _ Vp hw
   obtain⟨pp,Xl,kf⟩:=sY hp g5
   have DW:=jh _ _ hDi
   have qc:Sx [D] H2 (upd H4 D (.lst (yR (((cM w sy).map (dA c)).take (i+1))))):=c8 (sx.then jh) (by simp)
   have et:yR (((cM w sy).map (dA c)).take (i+1))=yR (((cM w sy).map (dA c)).take i)++[V.bl (dA c fu)]:=by
    rw[cD (x:=dA c fu) (by rw[bz,hfu];rfl)];exact eU
   have hlt:(yR (((cM w sy).map (dA c)).take i)).length<az:=by
    rw[aA,d8,aA,c7,<-hn];omega
   have W9:dA c fu=((c&&decide (0<fu.coda.length))||decide (fu.vowel.kind=2)):=by
    unfold dA
    rw[k4,Bool.or_comm]
    congr 1
    congr 1
    rw[cV];simp only[d_,fA,bN];omega
   have edk:decide (V.int (fu.vowel.kind:Int)=V.int 2)=decide (fu.vowel.kind=2):=by
    rw[dN]
    exact⟨λe=>by have:=V.int.inj e;omega,λe=>by rw[e];rfl⟩
   refine⟨T',_,rfl,lu.of hT,rfl,_,_,rfl,_,_,rfl,rfl,?_⟩
   refine⟨_,rfl,rfl,_,rfl,?_⟩
   refine kg (b:=c) (by cases c<;>rfl) (λhc=>?_) (λhc=>?_)
   ·refine⟨_,rfl,_,rfl,_,_,rfl,rfl,.inl ⟨by decide,by decide⟩,_,_,rfl,rfl,q,_,_,_,rfl,rfl,P5,at_of (j:=2*i+1) oo (by rw[bz,b2];rfl),_,_,rfl,rfl,?_⟩
    refine⟨_,rfl,.inl ⟨rfl,_,a_.of DW⟩,_,rfl,_,rfl,?_⟩
    refine kg (b:=(c&&decide (0<fu.coda.length))) (by rw[hc,fv,dN];show(0:Int)<(fu.coda.length:Int)↔_;omega) (λh1=>?_) (λh1=>?_)
    ·rw[h1,RM]at W9
     refine⟨D,_,_,rfl,rfl,DW,hlt,_,_,_,rfl,?_,?_⟩
     ·rw[<-W9,<-et];exact qc
     ·rw[<-W9,<-et];exact ao
    ·rw[h1,vf]at W9
     refine⟨_,rfl,_,rfl,a,_,_,_,rfl,rfl,a_.of ha,at_of (j:=vq) rfl (by rw[bz,Xl];rfl),pp,_,_,_,rfl,rfl,lu.of kf,rfl,rfl,?_⟩
     refine⟨D,_,_,rfl,rfl,DW,hlt,_,_,_,rfl,?_,?_⟩
     ·rw[edk,<-W9,<-et];exact qc
     ·rw[edk,<-W9,<-et];exact ao
   ·refine⟨_,rfl,.inl ⟨rfl,_,a_.of DW⟩,_,rfl,_,rfl,?_⟩
    replace W9:dA c fu=decide (fu.vowel.kind=2):=by rw[W9,hc,jD,vf]
    show if false=true then _ else _
    rw[aq dd]
    refine⟨_,rfl,_,rfl,a,_,_,_,rfl,rfl,a_.of ha,at_of (j:=vq) rfl (by rw[bz,Xl];rfl),pp,_,_,_,rfl,rfl,lu.of kf,rfl,rfl,?_⟩
    refine⟨D,_,_,rfl,rfl,DW,hlt,_,_,_,rfl,?_,?_⟩
    ·rw[edk,<-W9,<-et];exact qc
    ·rw[edk,<-W9,<-et];exact ao
  ·rintro σ H3 ⟨v4,v5,v6,rfl,sx,hDn⟩
   refine⟨_,rfl,?_⟩
   rw[hn,show(cM w sy).length=((cM w sy).map (dA c)).length by rw[aA],f7]at hDn
   exact k H3 D (sH sx) hD hDn
theorem O_(a:List α)(b:List β)(d:α)(e:β)(hn:n=min a.length b.length):a.zip b=(aE n).map λi=>(a.getD i d,b.getD i e):=by
 subst hn
 apply jc
 intro i
 by_cases h:i<min a.length b.length
 ·have h1:i<a.length:=by omega
  have h2:i<b.length:=by omega
  have ez:(a.zip b)[i]?=some (a[i],b[i]):=vC.mpr ⟨bT h1,bT h2⟩
  rw[bz,mw h,ez]
  simp[bM,h1,h2]
 ·rw[eR (by simp;omega),eR (by simp;omega)]
theorem xG(a:List α)(b:List β)(d:α)(e:β)(p:α×β->Bool)(hn:n=min a.length b.length):((aE n).filter λi=>p (a.getD i d,b.getD i e)).length=((a.zip b).filter p).length:=by
 rw[O_ a b d e hn,iq,aA];rfl
theorem lJ(a:List α)(d:α):a.zipIdx=(aE a.length).map λi=>(a.getD i d,i):=by
 apply jc
 intro i
 by_cases h:i<a.length
 ·simp[h]
 ·rw[eR (by simp;omega),eR (by simp;omega)]
theorem wC(l:List Nat):(l.map λ(n:Nat)=>(n:Int)).sum=(l.sum:Nat):=by
 induction l with
 |nil=>rfl
 |cons a l ih=>rw[bb,fP,fP,ih];omega
theorem BX(l:List Nat):bU l=(l.map λ(n:Nat)=>(n:Int)).map V.int:=by simp[bU]
def EV(K:aL):Sp:=λvs H Q _=>∃(q:aa)(l:List Bool)(b:Bool),vs=[.ref q,.bl b]/\a_ K H q (yR l)/\l.length<=100/\∀H',aP H H'->Q (.int (alike b l:Nat)) H'
theorem YI:a0 ["flags","wanted","flag","other"] ["flags","wanted"] (aB (top 33)):={}
theorem Vq(a b:Bool):decide (V.bl a=V.bl b)=(a==b):=by cases a<;>cases b<;>rfl
theorem Vr(F:il K "neighbours_alike" "neighbours_alike" (top 33) f fd)(T:lB K mg):cz P w K mg base hC 1 f fd ["flags","wanted"] (EV K):=by
 refine F.ok YI (λfF A outer s H vs Q E hr h=>?_)
 ·obtain⟨q,r,b,rfl,hq,hl,k⟩:=h
  refine⟨_,aD (aX (bw aZ rfl T.len cP (ae
   (gh (own:=[("flag",2),("other",3)]) (g:=tq K 2 (fi (cy 2) (fi (cy 3) tp))) (tt:=QK (oq (qk rEq (cE 2) (cE 1))) (oq (qk rEq (cE 3) (cE 1)))) (te:=cE 2)
    rfl YI.nd (Ai rfl T.zip (ae (pv 0) (ae (i6 kx (pv 0) (gy bo) nh) ai))) (b_ (by show i8 ["flags","wanted","flag","other"] (aB (top 33)) _ _=true;decide+kernel))
    (λs H C cl fp=>fV rfl (bu (cZ 2 YI.nd) (bu (cZ 3 YI.nd) eI)))
    (λs H C cl fp=>gX (vR (bK ic (pv 2) (pv 1) (bW _)) (bK ic (pv 3) (pv 1) (bW _))))
    (λs H C cl fp=>pv 2)) ai))),?_⟩
  refine⟨_,rfl,_,rfl,_,rfl,q,_,rfl,hq,λt ht=>?_⟩
  rw[show(some (1:Int))=some ((1:Nat):Int)from rfl,rL,<-jd]
  generalize hJ:upd H t (.lst (yR (r.drop 1)))=H1 at*
  have s1:aP H H1:=by rw[<-hJ];exact aw ht
  have Vh:H1 t=some (.lst (yR (r.drop 1))):=by rw[<-hJ];exact ao
  refine⟨q,t,_,_,rfl,bE s1 hq,a_.of Vh,λD hD=>?_⟩
  have em:min (yR r).length (yR (r.drop 1)).length=min r.length (r.drop 1).length:=by rw[aA,aA]
  refine fQ hD (wkz (ux hD (bE s1 hq)) (ux hD (a_.of Vh)) (m:=min r.length (r.drop 1).length) em.symm) (λi=>r.getD i false==b&&(r.drop 1).getD i false==b) (λi=>V.bl (r.getD i false)) oo (λi x H' p6 No hi sm it hy hn=>?_) (λH' sm hd=>?_)
  ·obtain⟨T',y,z,rfl,hT,h1,h2⟩:=it
   obtain⟨n1,rfl,e1⟩:=wB h1
   obtain⟨n2,rfl,e2⟩:=wB h2
   have g1:r.getD i false=n1:=by rw[bM,e1];rfl
   have g2:(r.drop 1).getD i false=n2:=by rw[bM,e2];rfl
   rw[g1,g2]at hy hn
   refine⟨T',_,rfl,lu.of hT,rfl,_,_,rfl,_,_,rfl,rfl,rfl,_,rfl,_,rfl,rfl,_,rfl,?_⟩
   refine kg (Vq n1 b) (λh1=>?_) (λh1=>?_)
   ·refine⟨_,rfl,_,rfl,rfl,_,rfl,?_⟩
    rw[h1,fv]at hy hn
    exact kg (Vq n2 b) (λh=>⟨_,rfl,hy h⟩) hn
   ·rw[h1,jD]at hn
    exact hn rfl
  ·refine⟨D,_,rfl,.inl (a_.of hd),?_⟩
   rw[aA,xG r (r.drop 1) false false (λp=>p.1==b&&p.2==b) rfl]
   have:=k H' (s1.trans sm)
   unfold alike at this
   rw[List.drop_one];exact this
def EW(K:aL):Sp:=λvs H Q _=>∃(q:aa)(n:Nat)(m:List Nat),vs=[.ref q]/\a_ K H q (bU m)/\n<=5/\m.length=n/\MOk n m/\∀p,H p=none->Q (.ref p) (upd H p (.lst (bU [gA m,gB m])))
theorem Ly:a0 ["marks","mark","head","before","behind"] ["marks"] (aB (top 34)):={}
theorem BY(r:List Nat):(bU r).all ni=true:=by rw[u9];exact c_.mpr λ_ _=>rfl
theorem Vs(F:il K "main_foot_sides" "main_foot_sides" (top 34) f fd)(T:lB K mg):cz P w K mg base hC 1 f fd ["marks"] (EW K):=by
 refine F.ok Ly (λfF A outer s H vs Q E hr h=>?_)
 ·obtain⟨q,n,m,rfl,hq,hn,hml,ho,k⟩:=h
  refine⟨_,ak (cH 1 Ly.nd (bw (Rw rfl) rfl T.max Vt (ae (pv 0) ai)))<|ak (cH 2 Ly.nd (gc dq u6 Jy Rx (pv 0) (ae (pv 1) ai)))<|ak (cH 3 Ly.nd (pv 2))<|ak (cH 4 Ly.nd (b7 jG (b7 jG (bw aZ rfl T.len cP (ae (pv 0) ai)) bo) (pv 2)))<|ak (eG (bK ic (pv 1) (b7 jF (eC T.t6 rfl) (eC T.main rfl)) (bW _)) (aD (Ee (i:=3) Ly.nd rfl (md rfl) bo QR)) cf)<|ak (eG (bK ic (pv 1) (b7 jF (eC T.xt rfl) (eC T.main rfl)) (bW _)) (aD (Ee (i:=4) Ly.nd rfl (md rfl) bo QR)) cf)<|aD (aX (bP (ae (pv 3) (ae (pv 4) ai)))),?_⟩
  have hix:m.idxOf (maxOf m)<m.length:=rN ho.mem
  have ZQ:0<m.length:=by omega
  refine⟨_,rfl,q,m.map (λ(n:Nat)=>(n:Int)),rfl,by rw[<-BX];exact hq,by rw[aA];exact ZQ,λmx hmx hle=>?_⟩
  have emx:mx=(maxOf m:Int):=by
   obtain⟨a,ha,rfl⟩:=aM.mp hmx
   have h1:=ho.le a ha
   have h2:=hle (maxOf m:Int) (aM.mpr ⟨_,ho.mem,rfl⟩)
   omega
  subst emx
  refine⟨_,rfl,.inl ⟨rfl,_,hq⟩,_,rfl,q,_,_,m.idxOf (maxOf m),.int (maxOf m:Int),rfl,rfl,hq,rfl,BY m,?_,?_,?_,?_⟩
  ·rw[bz,bT hix,Bq];rfl
  ·show((maxOf m:Int)==(maxOf m:Int))=true
   rw[f9]
  ·intro j z' hj hz
   obtain⟨a,rfl,ea⟩:=c6 hz
   show((a:Int)==(maxOf m:Int))=false
   rw[fA]
   intro e
   have e':a=maxOf m:=by omega
   subst e'
   obtain⟨hj1,hj2⟩:=gx.mp ea
   have:=T1 (p:=(·==maxOf m)) (xs:=m) (i:=j) hj
   rw[hj2]at this
   exact absurd this (by simp)
  refine⟨_,rfl,_,rfl,q,_,rfl,.inl hq,_,_,rfl,rfl,_,rfl,_,_,rfl,rfl,?_⟩
  rw[aR]
  have dec:∀c:Nat,decide (V.int (maxOf m:Int)=V.int (c:Int))=decide (maxOf m=c):=λc=>by
   rw[dN]
   exact⟨λe=>by have:=V.int.inj e;omega,λe=>by rw[e]⟩
  have kk:∀(a b:Int),a=(gA m:Nat)->b=(gB m:Nat)->∀p,H p=none->Q (.ref p) (upd H p (.lst [.int a,.int b])):=by
   rintro a b rfl rfl p hp;exact k p hp
  refine⟨_,rfl,_,_,rfl,rfl,rfl,_,rfl,?_⟩
  refine kg (dec 15) (λh1=>?_) (λh1=>?_)
  ·rw[bN]at h1
   have a15:=ho.a15 h1
   refine⟨_,rfl,_,_,rfl,rfl,_,rfl,_,_,rfl,rfl,rfl,_,rfl,?_⟩
   refine kg (dec 12) (λh2=>?_) (λh2=>?_)
   ·rw[bN]at h2;omega
   ·rw[fz]at h2
    refine⟨_,rfl,_,rfl,by show 2<=az;decide,kk _ _ ?_ ?_⟩
    ·unfold gA;rw[ax h1];show((m.idxOf (maxOf m):Nat):Int)-1=_;omega
    ·unfold gB;rw[aq h2];show((m.length:Nat):Int)-1-((m.idxOf (maxOf m):Nat):Int)=_;omega
  ·rw[fz]at h1
   refine⟨_,rfl,_,_,rfl,rfl,rfl,_,rfl,?_⟩
   refine kg (dec 12) (λh2=>?_) (λh2=>?_)
   ·rw[bN]at h2
    have a12:=ho.a12 h2
    refine⟨_,rfl,_,_,rfl,rfl,_,rfl,_,rfl,by show 2<=az;decide,kk _ _ ?_ ?_⟩
    ·unfold gA;rw[aq h1]
    ·unfold gB;rw[ax h2];show((m.length:Nat):Int)-1-((m.idxOf (maxOf m):Nat):Int)-1=_;omega
   ·rw[fz]at h2
    refine⟨_,rfl,_,rfl,by show 2<=az;decide,kk _ _ ?_ ?_⟩
    ·unfold gA;rw[aq h1]
    ·unfold gB;rw[aq h2];show((m.length:Nat):Int)-1-((m.idxOf (maxOf m):Nat):Int)=_;omega
def wD(K:aL):Sp:=λvs H Q _=>∃(q v:aa)(n:Nat)(m:List Nat)(hv:List Bool),vs=[.ref q,.ref v]/\a_ K H q (bU m)/\a_ K H v (yR hv)/\n<=5/\m.length=n/\MOk n m/\Be H Q (du m hv)
def nFC:List ag:=["marks","heavy","plain","heads","last","main_sides","mark","weight","place","head"]
theorem pQ:a0 nFC ["marks","heavy"] (aB (top 35)):={}
theorem in3(a b c:Nat)(k:Nat):ZD (.int (k:Int)) ([(a:Int),(b:Int),(c:Int)].map V.int)=(k==a||(k==b||k==c)):=by
 unfold ZD
 simp only[bb,gH,kU,U5,Jw]
 have e:∀x:Nat,Oh (.int (x:Int)) (.int (k:Int))=(k==x):=λx=>by
  show((x:Int)==(k:Int))=_
  rw[cV,bX,bX];omega
 rw[e,e,e]
theorem Vu(F:il K "foot_counts" "foot_counts" (top 35) f fd)(T:lB K mg)(Gs:Fn P w K mg base "main_foot_sides" ["marks"] 1 (EW K))(Ga:Fn P w K mg base "neighbours_alike" ["flags","wanted"] 1 (EV K)):cz P w K mg base hC 2 f fd ["marks","heavy"] (wD K):=by
 refine F.ok pQ (λfF A outer s H vs Q E hr h=>?_)
 ·obtain⟨q,v,n,m,hv,rfl,hq,hvv,hn,hml,ho,k⟩:=h
  refine⟨_,ak (qP (i:=2) (own:=[("mark",6)]) (g:=cy 6) (tt:=oE) (te:=qk (rI (λ_ j=>0<j) λi j=>.int (i %j)) (cE 6) (tC (.int 10))) rfl pQ.nd rfl rfl (vd rfl rfl rfl rfl) (cB (pv 0)) (b_ (by show i8 nFC (aB (top 35)) _ _=true;decide+kernel))
    (λs H C cl fp=>cZ 6 pQ.nd) (λs H C cl fp=>fB) (λs H C cl fp=>b7 QX (pv 6) (eC T.main rfl)))<|ak (qP (i:=3) (own:=[("mark",6)]) (g:=cy 6) (tt:=oE) (te:=qk (rIn K false) (cE 6) (Yc K [1,2,5])) rfl pQ.nd rfl rfl (vd rfl rfl rfl rfl) (cB (pv 2)) (b_ (by show i8 nFC (aB (top 35)) _ _=true;decide+kernel))
    (λs H C cl fp=>cZ 6 pQ.nd) (λs H C cl fp=>fB) (λs H C cl fp=>gU oz (pv 6) (ED T.heads rfl) rfl))<|ak (lx (i:=4) pQ.nd rfl (fN rfl) (b7 jG (bw aZ rfl T.len cP (ae (pv 2) ai)) bo))<|ak (cH 5 pQ.nd (c9 Gs hr rfl (ae (pv 0) ai)))<|aD (aX (bP (ae (gc dq rO wA o7 (pv 2) (ae (eC T.t6 rfl) ai))<|ae (gc dq rO wA o7 (pv 2) (ae (eC T.xt rfl) ai))<|ae (bw aZ rfl T.len cP (ae (gh (own:=[("mark",6),("weight",7)]) (g:=tq K 2 (fi (cy 6) (fi (cy 7) tp))) (tt:=QK (oq (qk rEq (cE 6) (tC (.int 1)))) (aaP (tB (cE 7)))) (te:=cE 6)
     rfl pQ.nd (Ai rfl T.zip (ae (pv 2) (ae (pv 1) ai))) (b_ (by show i8 nFC (aB (top 35)) _ _=true;decide+kernel))
     (λs H C cl fp=>fV rfl (bu (cZ 6 pQ.nd) (bu (cZ 7 pQ.nd) eI)))
     (λs H C cl fp=>gX (vR (bK ic (pv 6) (eC T.DJ rfl) (bW _)) (nJ (jC (pv 7)))))
     (λs H C cl fp=>pv 6)) ai))<|ae (gc dq rO wA o7 (pv 2) (ae (eC T.Ip rfl) ai))<|ae (bw (Ek rfl) rfl T.sum BZ (ae (gh (own:=[("place",8),("mark",6)]) (g:=tq K 2 (fi (cy 8) (fi (cy 6) tp))) (tt:=oq (qk (rIn K false) (cE 6) (Yc K [1,2,4]))) (te:=cE 8)
     rfl pQ.nd (kC rfl T.enumerate (ae (pv 2) ai)) (b_ (by show i8 nFC (aB (top 35)) _ _=true;decide+kernel))
     (λs H C cl fp=>fV rfl (bu (cZ 8 pQ.nd) (bu (cZ 6 pQ.nd) eI)))
     (λs H C cl fp=>gX (bK oz (pv 6) (ED T.K7 rfl) rfl))
     (λs H C cl fp=>pv 8)) ai))<|ae (bw (Ek rfl) rfl T.sum BZ (ae (gh (own:=[("place",8),("mark",6)]) (g:=tq K 2 (fi (cy 8) (fi (cy 6) tp))) (tt:=oq (qk (rIn K false) (cE 6) (Yc K [1,3,5]))) (te:=qk (Ef λi j=>.int (i-j)) (cE 4) (cE 8))
     rfl pQ.nd (kC rfl T.enumerate (ae (pv 2) ai)) (b_ (by show i8 nFC (aB (top 35)) _ _=true;decide+kernel))
     (λs H C cl fp=>fV rfl (bu (cZ 8 pQ.nd) (bu (cZ 6 pQ.nd) eI)))
     (λs H C cl fp=>gX (bK oz (pv 6) (ED T.Tz rfl) rfl))
     (λs H C cl fp=>b7 jG (pv 4) (pv 8))) ai))<|ae (iP fJ (pv 5) bo (λ_ _=>rfl))<|ae (iP fJ (pv 5) bo (λ_ _=>rfl))<|ae (QL (jC (iP fJ (pv 3) (pv 4) (λ_ _=>rfl))) bo bo)<|ae (bw aZ rfl T.len cP (ae (gh (own:=[("head",9),("weight",7)]) (g:=tq K 2 (fi (cy 9) (fi (cy 7) tp))) (tt:=QK (tB (cE 7)) (aaP (tB (cE 9)))) (te:=cE 9)
     rfl pQ.nd (Ai rfl T.zip (ae (pv 3) (ae (pv 1) ai))) (b_ (by show i8 nFC (aB (top 35)) _ _=true;decide+kernel))
     (λs H C cl fp=>fV rfl (bu (cZ 9 pQ.nd) (bu (cZ 7 pQ.nd) eI)))
     (λs H C cl fp=>gX (vR (jC (pv 7)) (nJ (jC (pv 9)))))
     (λs H C cl fp=>pv 9)) ai))<|ae (c9 Ga hr rfl (ae (pv 3) (ae x4 ai)))<|ae (c9 Ga hr rfl (ae (pv 3) (ae x4 ai))) ai))),?_⟩
  have mY:(bB m).length=m.length:=aA _
  have hhl:(cO m).length=m.length:=by rw[cO,aA];exact mY
  have ZQ:0<m.length:=by have:=rN ho.mem;omega
  refine⟨_,rfl,q,rfl,⟨_,hq⟩,λD1 hD1=>?_⟩
  refine fQ hD1 (yz (ux hD1 hq)) (λ_=>true) (λi=>V.int ((bB m).getD i 0:Nat)) (by rw[aR];omega) (λi x H' p6 No hi sm it hy jx=>?_) (λH1 s1 hd=>?_)
  ·obtain⟨x,rfl,e⟩:=c6 it
   have g:(bB m).getD i 0=x %10:=by rw[bM,bB,bz,e];rfl
   rw[g]at hy
   exact⟨rfl,_,rfl,_,_,rfl,rfl,by show(0:Int)<10;decide,hy rfl⟩
  rw[filter_true,aR,<-mY,dz (bB m) 0 λx=>V.int (x:Int)]at hd
  have DU:H1 D1=some (.lst (bU (bB m))):=hd
  clear hd
  refine⟨_,rfl,D1,rfl,⟨_,a_.of DU⟩,λD2 Ql=>?_⟩
  refine fQ Ql (yz (ux Ql (a_.of DU))) (λ_=>true) (λi=>V.bl ((cO m).getD i false)) (by rw[aR];omega) (λi x H' p6 No hi sm it hy jx=>?_) (λH2 s2 hd=>?_)
  ·obtain⟨x,rfl,e⟩:=c6 it
   have g:(cO m).getD i false=fR x:=by rw[bM,cO,bz,e];rfl
   rw[g,<-DS]at hy
   exact⟨rfl,_,rfl,λa ha=>⟨a,_,rfl,.inr (ha _),rfl,rfl,hy rfl⟩⟩
  rw[filter_true,aR,mY,<-hhl,dz (cO m) false V.bl]at hd
  have h2h:H2 D2=some (.lst (yR (cO m))):=hd
  clear hd
  have NG:=s2 _ _ DU
  have lP:=s1.trans s2
  refine⟨_,rfl,D1,_,rfl,.inl (a_.of NG),_,_,rfl,rfl,?_⟩
  have Ir:((bU (bB m)).length:Int)-1=((m.length-1:Nat):Int):=by rw[aR,mY];omega
  refine⟨_,rfl,q,n,m,rfl,bE lP hq,hn,hml,ho,λD3 Lz=>?_⟩
  generalize Ab:upd H2 D3 (.lst (bU [gA m,gB m]))=H3 at*
  have s3:aP H2 H3:=by rw[<-Ab];exact aw Lz
  have h3s:H3 D3=some (.lst (bU [gA m,gB m])):=by rw[<-Ab];exact ao
  have P7:=s3 _ _ NG
  have h3h:=s3 _ _ h2h
  have pP:=lP.trans s3
  refine⟨_,rfl,.inl ⟨rfl,_,a_.of P7⟩,D1,_,5,rfl,rfl,a_.of P7,?_⟩
  refine⟨_,rfl,.inl ⟨rfl,_,a_.of P7⟩,D1,_,2,rfl,rfl,a_.of P7,?_⟩
  refine⟨_,rfl,_,rfl,D1,v,_,_,rfl,a_.of P7,bE pP hvv,λD4 DW=>?_⟩
  have em:min (bU (bB m)).length (yR hv).length=min (bB m).length hv.length:=by rw[aA,aA]
  refine fQ DW (wkz (ux DW (a_.of P7)) (ux DW (bE pP hvv)) (m:=min (bB m).length hv.length) em.symm) (λi=>(bB m).getD i 0==1&&!hv.getD i false) (λi=>V.int ((bB m).getD i 0:Nat)) oo (λi x H' p6 No hi sm it hy jx=>?_) (λH4 s4 hd4=>?_)
  ·obtain⟨T',y,z,rfl,hT,h1,h2⟩:=it
   obtain⟨n1,rfl,e1⟩:=c6 h1
   obtain⟨n2,rfl,e2⟩:=wB h2
   have g1:(bB m).getD i 0=n1:=by rw[bM,e1];rfl
   have g2:hv.getD i false=n2:=by rw[bM,e2];rfl
   rw[g1,g2]at hy jx
   refine⟨T',_,rfl,lu.of hT,rfl,_,_,rfl,_,_,rfl,rfl,rfl,_,rfl,rfl,_,rfl,?_⟩
   refine kg (b:=n1==1) (by rw[cV,bN,bX];exact⟨λe=>by have:=V.int.inj e;omega,λe=>by rw[e];rfl⟩) (λh1=>?_) (λh1=>?_)
   ·rw[h1,fv]at hy jx
    refine⟨_,rfl,_,rfl,?_⟩
    exact kg rfl (λh=>⟨_,rfl,hy h⟩) jx
   ·rw[h1,jD]at jx
    exact jx rfl
  have c4:=congrArg f_ (show((aE (min (bB m).length hv.length)).filter (λi=>(bB m).getD i 0==1&&!hv.getD i false)).map (λi=>V.int ((bB m).getD i 0:Nat))=_ from rfl)
  refine⟨D4,_,rfl,.inl (a_.of hd4),?_⟩
  have W8:=s4 _ _ P7
  have h4h:=s4 _ _ h3h
  have Vp:=pP.trans s4
  refine⟨_,rfl,.inl ⟨rfl,_,a_.of W8⟩,D1,_,0,rfl,rfl,a_.of W8,?_⟩
  refine⟨_,rfl,D1,_,rfl,a_.of W8,λD5 hD5=>?_⟩
  refine fQ hD5 (Z5 (ux hD5 (a_.of W8))) (λi=>oT ((bB m).getD i 0)) (λ(i:Nat)=>V.int (i:Int)) (by rw[aR];omega) (λi x H' p6 No hi sm it hy jx=>?_) (λH5 s5 hd5=>?_)
  ·obtain⟨T',y,rfl,hT,hx⟩:=it
   obtain⟨n1,rfl,e1⟩:=c6 hx
   have g1:(bB m).getD i 0=n1:=by rw[bM,e1];rfl
   rw[g1]at hy jx
   refine⟨T',_,rfl,lu.of hT,rfl,_,_,rfl,_,_,rfl,rfl,rfl,_,rfl,λa ha=>⟨a,_,rfl,.inr (ha _),rfl,rfl,_,rfl,?_⟩⟩
   exact kg (b:=oT n1) (in3 1 2 4 n1) (λh=>⟨_,rfl,hy h⟩) jx
  have ai_:H5 D5=some (.lst ((((aE (bU (bB m)).length).filter λi=>oT ((bB m).getD i 0)).map λ(i:Nat)=>(i:Int)).map V.int)):=by rw[hd5,cg];rfl
  refine⟨D5,_,rfl,a_.of ai_,?_⟩
  have h5p:=s5 _ _ W8
  have h5h:=s5 _ _ h4h
  have s05:=Vp.trans s5
  refine⟨_,rfl,D1,_,rfl,a_.of h5p,λD6 hD6=>?_⟩
  refine fQ hD6 (Z5 (ux hD6 (a_.of h5p))) (λi=>vn ((bB m).getD i 0)) (λ(i:Nat)=>V.int ((((bU (bB m)).length:Int)-1)-(i:Int))) (by rw[aR];omega) (λi x H' p6 No hi sm it hy jx=>?_) (λH6 s6 hd6=>?_)
  ·obtain⟨T',y,rfl,hT,hx⟩:=it
   obtain⟨n1,rfl,e1⟩:=c6 hx
   have g1:(bB m).getD i 0=n1:=by rw[bM,e1];rfl
   rw[g1]at hy jx
   refine⟨T',_,rfl,lu.of hT,rfl,_,_,rfl,_,_,rfl,rfl,rfl,_,rfl,λa ha=>⟨a,_,rfl,.inr (ha _),rfl,rfl,_,rfl,?_⟩⟩
   exact kg (b:=vn n1) (in3 1 3 5 n1) (λh=>⟨_,rfl,_,rfl,_,_,rfl,rfl,hy h⟩) jx
  have abZ:H6 D6=some (.lst ((((aE (bU (bB m)).length).filter λi=>vn ((bB m).getD i 0)).map λ(i:Nat)=>((m.length-1:Nat):Int)-(i:Int)).map V.int)):=by rw[hd6,Ir,cg];rfl
  refine⟨D6,_,rfl,a_.of abZ,?_⟩
  have h6h:=s6 _ _ h5h
  have s36:=(s4.trans s5).trans s6
  have YJ:=s05.trans s6
  refine⟨_,rfl,D3,_,_,_,rfl,rfl,a_.of (s36 _ _ h3s),rfl,?_⟩
  refine⟨_,rfl,D3,_,_,_,rfl,rfl,a_.of (s36 _ _ h3s),rfl,?_⟩
  have ehd:(cO m)[m.length-1]?=some ((cO m).getD (m.length-1) false):=by
   rw[bM,bT oo];rfl
  refine⟨_,rfl,_,rfl,D2,_,_,.bl ((cO m).getD (m.length-1) false),rfl,rfl,a_.of h6h,at_of (j:=m.length-1) Ir (by rw[bz,ehd];rfl),_,rfl,?_⟩
  have c4':=xG (bB m) hv 0 false (λp=>p.1==1&&!p.2) rfl
  have k5:((((aE (bU (bB m)).length).filter λi=>oT ((bB m).getD i 0)).map λ(i:Nat)=>(i:Int)).sum)=(sN m:Nat):=by
   unfold sN
   rw[wC,lJ (bB m) 0,iq,cg,aR]
   congr 2
   rw[show(Prod.snd∘λi=>((bB m).getD i 0,i))=id from rfl,Jb];rfl
  have k6:((((aE (bU (bB m)).length).filter λi=>vn ((bB m).getD i 0)).map λ(i:Nat)=>((m.length-1:Nat):Int)-(i:Int)).sum)=(yS m:Nat):=by
   unfold yS
   rw[<-wC,lJ (bB m) 0,iq,cg,cg,aR]
   congr 1
   apply mv
   intro i hi
   have:=bY.mp (bH.mp hi).1
   show _=((m.length-1-i:Nat):Int)
   omega
  have em7:min (yR (cO m)).length (yR hv).length=min (cO m).length hv.length:=by rw[aA,aA]
  have c7':=xG (cO m) hv false false (λp=>p.2&&!p.1) rfl
  refine kg rfl (λhb=>?_) (λhb=>?_)
  all_goals
   refine⟨_,rfl,_,rfl,D2,v,_,_,rfl,a_.of h6h,bE YJ hvv,λD7 W'=>?_⟩
   refine fQ W' (wkz (ux W' (a_.of h6h)) (ux W' (bE YJ hvv)) (m:=min (cO m).length hv.length) em7.symm) (λi=>hv.getD i false&&!(cO m).getD i false) (λi=>V.bl ((cO m).getD i false)) oo (λi x H' p6 No hi sm it hy jx=>?_) (λH7 s7 hd7=>?_)
   ·obtain⟨T',y,z,rfl,hT,h1,h2⟩:=it
    obtain⟨n1,rfl,e1⟩:=wB h1
    obtain⟨n2,rfl,e2⟩:=wB h2
    have g1:(cO m).getD i false=n1:=by rw[bM,e1];rfl
    have g2:hv.getD i false=n2:=by rw[bM,e2];rfl
    rw[g1,g2]at hy jx
    refine⟨T',_,rfl,lu.of hT,rfl,_,_,rfl,_,_,rfl,rfl,rfl,_,rfl,_,rfl,?_⟩
    refine kg rfl (λh1=>?_) (λh1=>?_)
    ·rw[h1,fv]at hy jx
     refine⟨_,rfl,_,rfl,?_⟩
     exact kg rfl (λh=>⟨_,rfl,hy h⟩) jx
    ·rw[h1,jD]at jx
     exact jx rfl
   refine⟨D7,_,rfl,.inl (a_.of hd7),?_⟩
   have h7h:=s7 _ _ h6h
   refine⟨_,rfl,D2,cO m,true,rfl,a_.of h7h,by omega,λH8 s8=>?_⟩
   refine⟨_,rfl,D2,cO m,false,rfl,a_.of (s8 _ _ h7h),by omega,λH9 s9=>?_⟩
   have s09:=((YJ.trans s7).trans s8).trans s9
   refine⟨by show 12<=az;decide,λp hp=>?_⟩
   refine k _ p (s09.trans (aw hp)) (s09.free hp) ?_
   show upd H9 p _ p=_
   rw[ao]
   unfold du ir gu
   rw[k5,k6,aA,aA,c4',c7',hb]
   rfl
abbrev sZ(l:List Int):List V:=l.map V.int
theorem nE{p:aa}(s:Sx [p] H H'):aP (hide H p) (hide H' p):=λb o e=>by
 by_cases h:b=p
 ·unfold hide at e;rw[ax h]at e;cases e
 ·rw[hide_ne h]at e⊢;exact s b o e (by simp only[bA];exact h)
theorem pR{p r:aa}(s:Sx [p] H H')(hp:H' p=some o)(h:H' r=none):H r=none:=by
 cases e:H r with
 |none=>rfl
 |some u=>
  have qh:r≠p:=λq=>by rw[q,hp]at h;cases h
  have:=s r u e (by simp only[bA];exact qh)
  rw[h]at this;cases this
def fr(H H':Hp):Hp:=λb=>if(H b).isSome=true then none else H' b
theorem ka(h:H b=none):fr H H' b=H' b:=by unfold fr;rw[h];rfl
theorem pS(h:fr H H' b=some o):H b=none/\H' b=some o:=by
 unfold fr at h
 cases e:H b with
 |none=>rw[e]at h;exact⟨rfl,h⟩
 |some u=>rw[e]at h;cases h
theorem wF(s:aP H1 H2):aP (fr H H1) (fr H H2):=λb o e=>by
 obtain⟨h1,h2⟩:=pS e
 rw[ka h1];exact s _ _ h2
theorem Jz{p:aa}(hp:H p=some o)(s:Sx [p] H1 H2):aP (fr H H1) (fr H H2):=λb u e=>by
 obtain⟨h1,h2⟩:=pS e
 rw[ka h1]
 exact s b u h2 (by simp only[bA];exactλq=>by rw[q,hp]at h1;cases h1)
theorem Vv(h:H D=none):fr H (upd H1 D o)=upd (fr H H1) D o:=by
 funext b
 by_cases hb:b=D
 ·subst hb;rw[ka h,ao,ao]
 ·rw[aN hb];unfold fr;rw[aN hb]
theorem B0:aP (fr H H') H':=λb o e=>(pS e).2
theorem YK(h:∀b,H1 b=none->H b=none):aP (fr H1 H2) (fr H H2):=λb u e=>by
 obtain⟨h1,h2⟩:=pS e
 rw[ka (h b h1)];exact h2
structure RT (K:aL) (C:aa):Prop where
 cl:Cls K C
 nN:dQ K C "numbers"
 nP:dQ K C "place"
def rf(a:aa)(i:Nat):List (ag×V):=[("numbers",.ref a),("place",.int (i:Int))]
theorem ab1(a:aa)(i:Nat):(rf a i).lookup ("numbers":ag)=some (V.ref a):=rfl
theorem YL(a:aa)(i:Nat):(rf a i).lookup ("place":ag)=some (V.int (i:Int)):=rfl
theorem d4(a:aa)(i:Nat)(h:(x==("numbers":ag))=false)(h2:(x==("place":ag))=false):(rf a i).lookup x=none:=by
 unfold rf
 rw[fM,h,fM,h2];rfl
theorem ae'(a:aa)(i:Nat)(k:Int)(h:k=(n:Int)):eV "place" (.int k) (rf a i)=rf a n:=by
 subst h
 show(if("numbers":ag)="place" then _ else _)=_
 rw[aq dd];rfl
theorem ae_(a:aa):eV "place" (.int 0) (eV "numbers" (.ref a) [])=rf a 0:=by
 show(if("numbers":ag)="place" then _ else _)=_
 rw[aq dd];rfl
abbrev FJ(C dx a:aa)(H:Hp)(p:aa)(i:Nat):Prop:=H p=some (.ins C dx (rf a i))
def wG(K:aL)(C:aa):Sp:=λvs H Q _=>∃(p dx a:aa),vs=[.ref p,.ref a]/\H p=some (.ins C dx [])/\∀H',Sx [p] H H'->FJ C dx a H' p 0->Q .non H'
abbrev sRI:bj:=inClass (top 44) 0
theorem aja:a0 ["self","numbers"] ["self","numbers"] (aB sRI):={}
theorem Vw(F:il K "__init__" "Reader.__init__" sRI f fd)(W:RT K C):cz P w K mg base hC 1 f fd ["self","numbers"] (wG K C):=by
 refine F.ok aja (λfF A outer s H vs Q E hr h=>?_)
 ·obtain⟨p,dx,a,rfl,hp,k⟩:=h
  refine⟨_,ak (iQ (pv 0) (pv 1) rfl)<|aD (iQ (pv 0) bo rfl),?_⟩
  refine⟨_,rfl,_,rfl,p,C,dx,[],rfl,hp,W.cl,W.nN,dd,?_⟩
  refine⟨_,rfl,p,C,dx,_,rfl,ao,W.cl,W.nP,(by show 1<1000;decide),?_⟩
  rw[ae_]
  exact k _ (c8 (c8 .refl (by simp)) (by simp)) ao
theorem yr{Q:aa->Hp->Prop}{E:XK}(k:∀H' p dx,aP H H'->H p=none->FJ C dx a H' p 0->Q p H'):
  ∀x dx,H x=none->H dx=none->dx≠x->wG K C [.ref x,.ref a] (upd (upd H dx (.own x)) x (.ins C dx [])) (λv H2=>v=.non/\Q x H2) E:=by
 intro x dx hx WV qh
 refine⟨x,dx,a,rfl,ao,λH' sx hW=>⟨rfl,k H' x dx ?_ hx hW⟩⟩
 intro b o e
 have WX:b≠x:=aF e hx
 have hbd:b≠dx:=aF e WV
 exact sx b o (by rw[aN WX,aN hbd];exact e) (by simp only[bA];exact WX)
def LA(K:aL)(C:aa):Sp:=λvs H Q _=>∃(p dx a:aa)(l:List Int)(i:Nat),vs=[.ref p]/\FJ C dx a H p i/\a_ K (hide H p) a (sZ l)/\Q (.bl (decide (i<l.length))) H
abbrev sR1:bj:=inClass (top 44) 1
theorem ajb:a0 ["self"] ["self"] (aB sR1):={}
theorem YM(F:il K "more_is_there" "Reader.more_is_there" sR1 f fd)(T:lB K mg)(W:RT K C):cz P w K mg base hC 1 f fd ["self"] (LA K C):=by
 refine F.ok ajb (λfF A outer s H vs Q E hr h=>?_)
 ·obtain⟨p,dx,a,l,i,rfl,hp,ha,k⟩:=h
  refine⟨_,aD (aX (gU Q0 (bL (pv 0) rfl) (bw aZ rfl T.len cP (ae (bL (pv 0) rfl) ai)) (bW _))),?_⟩
  refine⟨_,rfl,p,C,dx,_,_,rfl,hp,W.cl,W.nP,YL _ _,_,rfl,p,C,dx,_,_,rfl,hp,W.cl,W.nN,ab1 _ _,a,_,rfl,.inl (bE (iL H p) ha),_,_,rfl,rfl,?_⟩
  show Q (.bl (decide ((i:Int)<((sZ l).length:Nat)))) H
  rw[aA,show decide ((i:Int)<(l.length:Nat))=decide (i<l.length) by rw[dN];omega]
  exact k
def uc(K:aL)(C:aa):Sp:=λvs H Q _=>∃(p dx a:aa)(l:List Int)(i:Nat)(x:Int),vs=[.ref p]/\FJ C dx a H p i/\a_ K (hide H p) a (sZ l)/\l[i]?=some x/\∀H',Sx [p] H H'->FJ C dx a H' p (i+1)->Q (.int x) H'
abbrev sR2:bj:=inClass (top 44) 2
theorem afa:a0 ["self","number"] ["self"] (aB sR2):={}
theorem YN(F:il K "take" "Reader.take" sR2 f fd)(W:RT K C):cz P w K mg base hC 1 f fd ["self"] (uc K C):=by
 refine F.ok afa (λfF A outer s H vs Q E hr h=>?_)
 ·obtain⟨p,dx,a,l,i,x,rfl,hp,ha,hx,k⟩:=h
  refine⟨_,ak (cH 1 afa.nd (iP fJ (bL (pv 0) rfl) (bL (pv 0) rfl) (λ_ _=>rfl)))<|ak (Dd (pv 0) bo Q6)<|aD (aX (pv 1)),?_⟩
  refine⟨_,rfl,p,C,dx,_,_,rfl,hp,W.cl,W.nN,ab1 _ _,_,rfl,p,C,dx,_,_,rfl,hp,W.cl,W.nP,YL _ _,a,_,_,.int x,rfl,rfl,bE (iL H p) ha,at_of (j:=i) rfl (by rw[bz,hx];rfl),?_⟩
  refine⟨_,rfl,p,C,dx,_,_,rfl,hp,W.cl,W.nP,YL _ _,_,_,rfl,rfl,dx,_,hp,(by show 2<1000;decide),?_⟩
  rw[ae' a i _ (n:=i+1) oo]
  exact⟨_,rfl,k _ (c8 .refl (by simp)) ao⟩
def s_(K:aL)(C:aa):Sp:=λvs H Q _=>∃(p dx a:aa)(l:List Int)(i:Nat)(xs rest:List Int),vs=[.ref p]/\FJ C dx a H p i/\a_ K (hide H p) a (sZ l)/\l.drop i=(xs.length:Int)::(xs++rest)/\∀H' r,Sx [p] H H'->FJ C dx a H' p (i+1+xs.length)->fr H H' r=some (.lst (sZ xs))->Q (.ref r) H'
abbrev sR3:bj:=inClass (top 44) 3
theorem ab2:a0 ["self","length","start"] ["self"] (aB sR3):={}
theorem pT{l:List α}{x:α}{r:List α}(h:l.drop i=x::r):l[i]?=some x/\l.drop (i+1)=r:=by
 constructor
 ·have:=congrArg (·[0]?) h
  simpa using this
 ·have:=congrArg (vN 1) h
  simpa using this
theorem lQ{l:List α}{x r:List α}(h:l.drop i=x++r):l.drop (i+x.length)=r:=by
 have:=congrArg (vN x.length) h
 simpa using this
theorem Vx(F:il K "take_list" "Reader.take_list" sR3 f fd)(W:RT K C)(M:Mt P w K mg base C "take" ["self"] 1 (uc K C)):cz P w K mg base hC 2 f fd ["self"] (s_ K C):=by
 refine F.ok ab2 (λfF A outer s H vs Q E hr h=>?_)
 ·obtain⟨p,dx,a,l,i,xs,rest,rfl,hp,ha,hx,k⟩:=h
  refine⟨_,ak (cH 1 ab2.nd (gD M hr (pv 0)))<|ak (cH 2 ab2.nd (bL (pv 0) rfl))<|ak (iQ (pv 0) (b7 jF (pv 2) (pv 1)) rfl)<|aD (aX (i6 kx (bL (pv 0) rfl) (gy (pv 2)) (gy (b7 jF (pv 2) (pv 1))))),?_⟩
  obtain⟨d1,d2⟩:=pT hx
  refine⟨_,rfl,p,dx,_,rfl,hp,d4 _ _ dd dd,p,dx,a,l,i,_,rfl,hp,ha,d1,λH1 s1 qo=>?_⟩
  refine⟨_,rfl,p,C,dx,_,_,rfl,qo,W.cl,W.nP,YL _ _,?_⟩
  refine⟨_,rfl,_,rfl,_,_,rfl,rfl,_,rfl,p,C,dx,_,rfl,qo,W.cl,W.nP,(by show 2<1000;decide),?_⟩
  rw[ae' a (i+1) _ (n:=i+1+xs.length) (by show((i+1:Nat):Int)+(xs.length:Int)=_;omega)]
  generalize w8:upd H1 p (.ins C dx (rf a (i+1+xs.length)))=H2 at*
  have NG:H2 p=some (.ins C dx (rf a (i+1+xs.length))):=by rw[<-w8];exact ao
  have s2:Sx [p] H H2:=by rw[<-w8];exact c8 s1 (by simp)
  have ha2:a_ K (hide H2 p) a (sZ l):=bE (nE s2) ha
  refine⟨_,rfl,p,C,dx,_,_,rfl,NG,W.cl,W.nN,ab1 _ _,_,rfl,_,rfl,_,rfl,_,rfl,_,_,rfl,rfl,_,rfl,a,_,rfl,bE (iL H2 p) ha2,λt ht=>?_⟩
  have ec:uU (sZ l) (some ((i+1:Nat):Int)) (some (((i+1:Nat):Int)+(xs.length:Int)))=sZ xs:=by
   rw[show((i+1:Nat):Int)+(xs.length:Int)=((i+1+xs.length:Nat):Int) by omega,EG,<-jd,d2,<-mH,Hd,List.take_left']
   rfl
  rw[ec]
  have htp:t≠p:=λe=>by rw[e,NG]at ht;cases ht
  refine k _ t (Tx s2 ht) (aw ht _ _ NG) ?_
  rw[ka (pR s2 NG ht),ao]
def zc(K:aL)(C:aa):Sp:=λvs H Q _=>∃(p dx a:aa)(l:List Int)(i:Nat)(w:br)(rest:List Int),vs=[.ref p]/\FJ C dx a H p i/\a_ K (hide H p) a (sZ l)/\l.drop i=tZ w++rest/\w.length<=1000/\∀H' r,Sx [p] H H'->FJ C dx a H' p (i+(tZ w).length)->fE (fr H H') r w->Q (.ref r) H'
abbrev sR4:bj:=inClass (top 44) 4
theorem Pa:a0 ["self","sounds","length","sound","kind","loudness"] ["self"] (aB sR4):={}
theorem NH(w:br):(w.flatMap Er).length=2*w.length:=by
 induction w with
 |nil=>rfl
 |cons a w ih=>
  have e1:(Er a).length=2:=rfl
  have e2:(a::w:List vQ).length=w.length+1:=rfl
  rw[eS,bZ,ih,e1]
  show 2+2*f_ w=2*f_ (a::w)
  rw[aS];omega
theorem pU{α β:Type}(f:α->List β):∀{l:List α}{i:Nat}{x:α},l[i]?=some x->l.flatMap f=(l.take i).flatMap f++(f x++(l.drop (i+1)).flatMap f)
 |a::l,0,x,h=>by simp at h;subst h;simp
 |a::l,i+1,x,h=>by
  have:=pU f (l:=l) (i:=i) (by simpa using h)
  simp only[eS,List.take_succ_cons,Vl,gz,this]
theorem Vy(F:il K "take_word" "Reader.take_word" sR4 f fd)(T:lB K mg)(W:RT K C)(M:Mt P w K mg base C "take" ["self"] 1 (uc K C)):cz P w K mg base hC 2 f fd ["self"] (zc K C):=by
 refine F.ok Pa (λfF A outer s H vs Q E hr h=>?_)
 ·obtain⟨p,dx,a,l,i,w,rest,rfl,hp,ha,hx,Xm,k⟩:=h
  refine⟨_,ak (cH 1 Pa.nd (bP ai))<|ak (cH 2 Pa.nd (gD M hr (pv 0)))<|ak (fW ee rfl (om rfl T.range (ae (pv 2) ai)) (cZ 3 Pa.nd)<|ak (cH 4 Pa.nd (gD M hr (pv 0)))<|ak (cH 5 Pa.nd (gD M hr (pv 0)))<|aD (eQ (gc dq kE kF gf (pv 1) (ae (pA (ae (pv 4) (ae (pv 5) ai))) ai))))<|aD (aX (pv 1)),?_⟩
  refine⟨bI _,λD hD=>?_⟩
  have hpD:p≠D:=aF hp hD
  have hDp:D≠p:=λe=>hpD e.symm
  generalize hJ:upd H D (.lst [])=H1 at*
  have s1:aP H H1:=by rw[<-hJ];exact aw hD
  have BW:H1 D=some (.lst []):=by rw[<-hJ];exact ao
  obtain⟨d1,d2⟩:=pT (show l.drop i=(w.length:Int)::(w.flatMap Er++rest)from hx)
  refine⟨_,rfl,p,dx,_,rfl,s1 _ _ hp,d4 _ _ dd dd,p,dx,a,l,i,_,rfl,s1 _ _ hp,bE (gk p s1) ha,d1,λH2 s2 w6=>?_⟩
  have h2D:H2 D=some (.lst []):=s2 _ _ BW (by simp only[bA];exact hDp)
  refine⟨_,rfl,(w.length:Int),rfl,by omega,by omega,?_⟩
  rw[show(w.length:Int).toNat=w.length by omega]
  have back:∀{H'},Sx [p,D] H2 H'->Sx [p] H H':=λ{H'}sx b o e hb=>by
   have hbD:b≠D:=aF e hD
   have hbp:b≠p:=by simpa using hb
   exact sx b o (s2 b o (s1 _ _ e) hb) (by simp[hbD,hbp])
  refine fY (ex:=[p,D]) rG
   (λj σ H'=>∃(v3 v4 v5:Option V),σ=[some (.ref p),some (.ref D),some (.int (w.length:Int)),v3,v4,v5]/\Sx [p,D] H2 H'/\FJ C dx a H' p (i+1+2*j)/\g_ Nd (fr H H') D (w.take j))
   ⟨none,none,none,rfl,.refl,w6,gm (by rw[ka hD];exact h2D)⟩ (λi σ H'⟨_,_,_,_,q,_⟩=>q) ?_ ?_
  ·rintro j x σ H3 H4 hj ⟨v3,v4,v5,rfl,sx,FN,hL⟩ jh rfl
   obtain⟨sd,hsd⟩:∃sd,w[j]?=some sd:=⟨_,bT hj⟩
   have DK:=jh _ _ FN
   have FK:=bx bJ (wF jh) hL
   have qc:=sx.then jh
   have hdj:l.drop (i+1+2*j)=(sd.kind:Int)::(sd.loud:Int)::((w.drop (j+1)).flatMap Er++rest):=by
    have:=d2
    rw[pU Er hsd,gz]at this
    have:=lQ this
    rw[NH,d8,oR oo]at this
    rw[this];rfl
   obtain⟨c1,c2⟩:=pT hdj
   obtain⟨c3,c4⟩:=pT c2
   refine⟨_,rfl,p,dx,_,rfl,DK,d4 _ _ dd dd,p,dx,a,l,_,_,rfl,DK,bE (nE (back qc)) ha,c1,λH5 s5 W_=>?_⟩
   have ER:=qc.trans (s5.weak (by simp))
   refine⟨_,rfl,p,dx,_,rfl,W_,d4 _ _ dd dd,p,dx,a,l,_,_,rfl,W_,bE (nE (back ER)) ha,c3,λH6 s6 P8=>?_⟩
   have Iv:=ER.trans (s6.weak (by simp))
   have hL6:=bx bJ (Jz hp (s5.trans s6)) FK
   obtain⟨vs,lK,WY⟩:=hL6.lst
   have Xa:H6 D=some (.lst vs):=by rw[ka hD]at lK;exact lK
   refine⟨_,rfl,.inl ⟨rfl,_,a_.of Xa⟩,_,rfl,_,rfl,(by show 2<=az;decide),λt ht=>?_⟩
   have htD:t≠D:=λe=>by rw[e,Xa]at ht;cases ht
   have htp:t≠p:=λe=>by rw[e,P8]at ht;cases ht
   generalize IA:upd H6 t (.tup [.int (sd.kind:Int),.int (sd.loud:Int)])=H7 at*
   have Bk:aP H6 H7:=by rw[<-IA];exact aw ht
   have h7t:H7 t=some (.tup [.int (sd.kind:Int),.int (sd.loud:Int)]):=by rw[<-IA];exact ao
   have h7D:=Bk _ _ Xa
   have YO:=bx bJ (wF Bk) hL6
   refine⟨D,_,_,rfl,rfl,h7D,?_,some (.int ((0:Int)+j)),some (.int (sd.kind:Int)),some (.int (sd.loud:Int)),rfl,?_,?_,?_⟩
   ·rw[WY,d8,c7];omega
   ·exact c8 (Iv.then Bk) (by simp)
   ·show upd H7 D _ p=_
    rw[aN hpD,show i+1+2*(j+1)=i+1+2*j+1+1 by omega];exact Bk _ _ P8
   ·rw[cD hsd,Vv hD]
    refine je YO (by rw[ka hD];exact h7D) ?_
    show hide (fr H H7) D t=_
    rw[hide_ne htD,ka (pR (back Iv) P8 ht)];exact h7t
  ·rintro σ H3 ⟨v3,v4,v5,rfl,sx,FN,hL⟩
   rw[f7]at hL
   refine⟨_,rfl,k H3 D (back sx) ?_ (hL.at bJ)⟩
   rw[show i+(tZ w).length=i+1+2*w.length by show i+(((w.length:Int)::w.flatMap Er).length)=_;rw[aS,NH];omega];exact FN
def JA(H:Hp)(t:aa)(x:br×List Nat):Prop:=∃a q,H t=some (.tup [.ref a,.ref q])/\fE H a x.1/\fe H q x.2
theorem gQ:Keeps JA:=λ_ _ _ _ s⟨a,q,h1,h2,h3⟩=>⟨a,q,s _ _ h1,aW bJ _ _ _ _ s h2,s _ _ h3⟩
abbrev EX:Hp->aa->List (br×List Nat)->Prop:=ql JA
def EY(K:aL)(C:aa):Sp:=λvs H Q _=>∃(p dx a:aa)(l:List Int)(i:Nat)(b:br×List Nat)(rest:List Int),vs=[.ref p]/\FJ C dx a H p i/\a_ K (hide H p) a (sZ l)/\l.drop i=nT b++rest/\b.1.length<=1000/\∀H' r,Sx [p] H H'->FJ C dx a H' p (i+(nT b).length)->JA (fr H H') r b->Q (.ref r) H'
abbrev sR5:bj:=inClass (top 44) 5
theorem ab3:a0 ["self","sounds","row"] ["self"] (aB sR5):={}
theorem zd(r:List Nat):sZ (m8 r)=bU r:=by rw[BX]
theorem ze(r:List Nat):(m8 r).length=r.length:=aA _
theorem Vz(F:il K "take_told" "Reader.take_told" sR5 f fd)(W:RT K C)(Mw:Mt P w K mg base C "take_word" ["self"] 2 (zc K C))(Ml:Mt P w K mg base C "take_list" ["self"] 2 (s_ K C)):cz P w K mg base hC 3 f fd ["self"] (EY K C):=by
 refine F.ok ab3 (λfF A outer s H vs Q E hr h=>?_)
 ·obtain⟨p,dx,a,l,i,b,rest,rfl,hp,ha,hx,Xm,k⟩:=h
  refine⟨_,ak (cH 1 ab3.nd (gD Mw hr (pv 0)))<|ak (cH 2 ab3.nd (gD Ml hr (pv 0)))<|aD (aX (pA (ae (pv 1) (ae (pv 2) ai)))),?_⟩
  have hx1:l.drop i=tZ b.1++(CN b.2++rest):=by rw[hx];exact gz _ _ _
  refine⟨_,rfl,p,dx,_,rfl,hp,d4 _ _ dd dd,p,dx,a,l,i,b.1,_,rfl,hp,ha,hx1,Xm,λH1 t1 s1 qo Ke=>?_⟩
  have ZN:=lQ hx1
  refine⟨_,rfl,p,dx,_,rfl,qo,d4 _ _ dd dd,p,dx,a,l,_,m8 b.2,rest,rfl,qo,bE (nE s1) ha,by rw[ZN,ze];rfl,λH2 t2 s2 w6 WO=>?_⟩
  have nX:=s1.trans s2
  refine⟨_,rfl,_,rfl,(by show 2<=az;decide),λt ht=>?_⟩
  have htp:t≠p:=λe=>by rw[e,w6]at ht;cases ht
  have f1:∀b,H1 b=none->H b=none:=λb h=>pR s1 qo h
  refine k _ t (Tx nX ht) ?_ ⟨t1,t2,?_,?_,?_⟩
  ·have e1:(nT b).length=(tZ b.1).length+(CN b.2).length:=bZ
   have e2:(CN b.2).length=(m8 b.2).length+1:=aS
   rw[show i+(nT b).length=i+(tZ b.1).length+1+(m8 b.2).length by omega]
   exact aw ht _ _ w6
  ·rw[ka (pR nX w6 ht)];exact ao
  ·exact aW bJ _ _ _ _ (wF (aw ht)) (aW bJ _ _ _ _ (Jz hp s2) Ke)
  ·show fr H (upd H2 t _) t2=_
   rw[<-zd]
   exact wF (aw ht) _ _ (YK f1 _ _ WO)
def EZ(K:aL)(C:aa):Sp:=λvs H Q _=>∃(p dx a:aa)(l:List Int)(i:Nat)(bs:List (br×List Nat))(rest:List Int),vs=[.ref p]/\FJ C dx a H p i/\a_ K (hide H p) a (sZ l)/\l.drop i=(bs.length:Int)::(bs.flatMap nT++rest)/\bs.length<=1000/\(∀b∈bs,b.1.length<=1000)/\∀H' r,Sx [p] H H'->EX (fr H H') r bs->Q (.ref r) H'
abbrev sR6:bj:=inClass (top 44) 6
theorem YQ:a0 ["self","told","length","word"] ["self"] (aB sR6):={}
theorem VA(F:il K "take_all_told" "Reader.take_all_told" sR6 f fd)(T:lB K mg)(W:RT K C)(M:Mt P w K mg base C "take" ["self"] 1 (uc K C))(Mt':Mt P w K mg base C "take_told" ["self"] 3 (EY K C)):cz P w K mg base hC 4 f fd ["self"] (EZ K C):=by
 refine F.ok YQ (λfF A outer s H vs Q E hr h=>?_)
 ·obtain⟨p,dx,a,l,i,bs,rest,rfl,hp,ha,hx,hbl,hbw,k⟩:=h
  refine⟨_,ak (cH 1 YQ.nd (bP ai))<|ak (cH 2 YQ.nd (gD M (hr.mono dd) (pv 0)))<|ak (fW ee rfl (om rfl T.range (ae (pv 2) ai)) (cZ 3 YQ.nd)<|aD (eQ (gc dq kE kF gf (pv 1) (ae (gD Mt' hr (pv 0)) ai))))<|aD (aX (pv 1)),?_⟩
  refine⟨bI _,λD hD=>?_⟩
  have hpD:p≠D:=aF hp hD
  have hDp:D≠p:=λe=>hpD e.symm
  generalize hJ:upd H D (.lst [])=H1 at*
  have s1:aP H H1:=by rw[<-hJ];exact aw hD
  have BW:H1 D=some (.lst []):=by rw[<-hJ];exact ao
  obtain⟨d1,d2⟩:=pT hx
  refine⟨_,rfl,p,dx,_,rfl,s1 _ _ hp,d4 _ _ dd dd,p,dx,a,l,i,_,rfl,s1 _ _ hp,bE (gk p s1) ha,d1,λH2 s2 w6=>?_⟩
  have h2D:H2 D=some (.lst []):=s2 _ _ BW (by simp only[bA];exact hDp)
  refine⟨_,rfl,(bs.length:Int),rfl,by omega,by omega,?_⟩
  rw[show(bs.length:Int).toNat=bs.length by omega]
  have back:∀{H'},Sx [p,D] H2 H'->Sx [p] H H':=λ{H'}sx b o e hb=>by
   have hbD:b≠D:=aF e hD
   have hbp:b≠p:=by simpa using hb
   exact sx b o (s2 b o (s1 _ _ e) hb) (by simp[hbD,hbp])
  refine fY (ex:=[p,D]) rG
   (λj σ H'=>∃(v3:Option V),σ=[some (.ref p),some (.ref D),some (.int (bs.length:Int)),v3]/\Sx [p,D] H2 H'/\FJ C dx a H' p (i+1+((bs.take j).flatMap nT).length)/\g_ JA (fr H H') D (bs.take j))
   ⟨none,rfl,.refl,w6,gm (by rw[ka hD];exact h2D)⟩ (λi σ H'⟨_,_,q,_⟩=>q) ?_ ?_
  ·rintro j x σ H3 H4 hj ⟨v3,rfl,sx,FN,hL⟩ jh rfl
   obtain⟨b,hb⟩:∃b,bs[j]?=some b:=⟨_,bT hj⟩
   have DK:=jh _ _ FN
   have FK:=bx gQ (wF jh) hL
   have qc:=sx.then jh
   have hdj:l.drop (i+1+((bs.take j).flatMap nT).length)=nT b++((bs.drop (j+1)).flatMap nT++rest):=by
    have:=d2
    rw[pU nT hb,gz,gz]at this
    exact lQ this
   obtain⟨vs,lK,WY⟩:=FK.lst
   have h4D:H4 D=some (.lst vs):=by rw[ka hD]at lK;exact lK
   refine⟨_,rfl,.inl ⟨rfl,_,a_.of h4D⟩,_,rfl,p,dx,_,rfl,DK,d4 _ _ dd dd,p,dx,a,l,_,b,_,rfl,DK,bE (nE (back qc)) ha,hdj,hbw b (cC hb),λH5 t s5 W_ ht=>?_⟩
   have YR:=bx gQ (Jz hp s5) FK
   have h5D:H5 D=some (.lst vs):=s5 _ _ h4D (by simp only[bA];exact hDp)
   refine⟨D,_,_,rfl,rfl,h5D,?_,some (.int ((0:Int)+j)),rfl,?_,?_,?_⟩
   ·rw[WY,d8,c7];omega
   ·exact c8 (qc.trans (s5.weak (by simp))) (by simp)
   ·show upd H5 D _ p=_
    rw[aN hpD,cD hb,Bf,bZ,<-AU,VB];exact W_
   ·rw[cD hb,Vv hD]
    refine je YR (by rw[ka hD];exact h5D) ?_
    refine gQ _ _ _ _ (λc u e=>?_) ht
    obtain⟨e1,e2⟩:=pS e
    rw[hide_ne (λq=>by rw[q,h4D]at e1;cases e1),ka (pR (back qc) DK e1)];exact e2
  ·rintro σ H3 ⟨v3,rfl,sx,FN,hL⟩
   rw[f7]at hL
   exact⟨_,rfl,k H3 D (back sx) (hL.at gQ)⟩
theorem mR(a b:Nat):jH (a:Int) (b:Int)=((a&&&b:Nat):Int):=rfl
theorem ud(a:Int):jj (jj a)=a:=by unfold jj;omega
theorem xH(a b:Nat):qC (a:Int) (b:Int)=((a|||b:Nat):Int):=by
 unfold qC jH
 have h:∀n:Nat,decide (0<=jj (n:Int))=false:=λn=>by
  rw[fz];unfold jj;omega
 rw[h,h]
 show jj (jj ((((jj (jj (a:Int))).toNat|||(jj (jj (b:Int))).toNat:Nat)):Int))=_
 rw[ud,ud,ud];rfl
theorem xI{α:Type} [DecidableEq α]:∀{l L:List α},l.Nodup->(∀x∈l,x∈L)->l.length<=L.length
 |[],L,_,_=>bI _
 |a::l,L,h,hm=>by
  rw[iZ]at h
  have ha:a∈L:=hm a bp
  have:=xI (l:=l) (L:=L.erase a) h.2 (λx hx=>(List.mem_erase_of_ne (λe=>h.1 (by rw[<-e];exact hx))).mpr (hm x (bg _ hx)))
  rw[List.length_erase_of_mem ha]at this
  have:0<L.length:=List.length_pos_of_mem ha
  rw[aS];omega
def ue:Nat->List (List Bool)
 |0=>[[]]
 |n+1=>(ue n).flatMap λl=>[true::l,false::l]
theorem B1:∀l:List Bool,l∈ue l.length
 |[]=>by simp[ue]
 |b::l=>by
  rw[aS]
  show b::l∈(ue l.length).flatMap _
  rw[fO]
  exact⟨l,B1 l,by cases b<;>simp⟩
theorem Pb{l:List Bool}(h:l.length<=5):l∈(aE 6).flatMap ue:=fO.mpr ⟨l.length,bY.mpr oo,B1 l⟩
theorem ab4{r:Nat}(h:r<16):((aE 16).map (pl ks)).set r (128^ks.length)=(aE 16).map (pl (r::ks)):=by
 apply jc
 intro i
 rw[List.getElem?_set]
 by_cases hi:i<16
 ·by_cases e:r=i
  ·subst e
   simp[hi,pl]
  ·rw[aq e]
   simp only[bz,mw hi,gJ,pl,aq (λq:i=r=>e q.symm)]
 ·rw[aq oo,eR (by simp;omega),eR (by simp;omega)]
def eF(ks:List Nat)(first:Nat)(cs:List Nat):Nat:=(cs.zipIdx.map λx=>x.1*pl ks (first+x.2)).sum
def WZ(ks:List Nat)(hv:List Bool):List Nat:=(MR hv.length).map λm=>eF ks 4 (du m hv)
def Sd(H H':Hp):Prop:=∀b o,H b=some o->(∀bG,o≠.dT bG)->H' b=some o
theorem Sd.refl:Sd H H:=λ_ _ h _=>h
theorem Sd.trans(a:Sd H H1)(b:Sd H1 H2):Sd H H2:=λc o h n=>b c o (a c o h n) n
theorem YS(s:aP H H'):Sd H H':=λb o h _=>s b o h
theorem B2(h:H da=some (.dT bG))(s:Sx [da] H H'):Sd H H':=λb o e n=>s b o e (by
 simp only[bA]
 intro q
 rw[q,h]at e
 exact n bG (bO e).symm)
theorem Sd.lst{H H':Hp}{a:aa}{xs:List V}(s:Sd H H')(h:H a=some (.lst xs)):H' a=some (.lst xs):=s _ _ h (λ_ e=>by cases e)
theorem Sd.tup{H H':Hp}{a:aa}{xs:List V}(s:Sd H H')(h:H a=some (.tup xs)):H' a=some (.tup xs):=s _ _ h (λ_ e=>by cases e)
theorem Sd.ins{H H':Hp}{a C dx:aa}{fs:List (ag×V)}(s:Sd H H')(h:H a=some (.ins C dx fs)):H' a=some (.ins C dx fs):=s _ _ h (λ_ e=>by cases e)
theorem Sd.sq(e:Sd H H')(h:a_ K H a xs):a_ K H' a xs:=by
 rcases h with(h|⟨o,h⟩)|h
 ·exact .inl (.inl (e.lst h))
 ·exact .inl (.inr ⟨o,e _ _ h (λ_ q=>by cases q)⟩)
 ·exact .inr h
def uf(R:Hp->aa->α->Prop):Prop:=∀H H' p x,Sd H H'->R H p x->R H' p x
theorem NI{α:Type}{R:Hp->aa->α->Prop}(k:uf R){H H':Hp}(s:Sd H H'):∀{ps:List aa}{xs:List α},Paired (R H) ps xs->Paired (R H') ps xs
 |_,_,.nil=>.nil
 |_,_,.cons r t=>.cons (k _ _ _ _ s r) (NI k s t)
theorem LB:uf fe:=λ_ _ _ _ s h=>s.lst h
theorem LC:uf Nd:=λ_ _ _ _ s h=>s.tup h
theorem DX{R:Hp->aa->α->Prop}(k:uf R):uf (ql R):=λ_ _ _ _ s⟨ps,h1,h2⟩=>⟨ps,s.lst h1,NI k s h2⟩
theorem zf(C:aa):uf (mO C):=λ_ _ _ _ s⟨dx,a,sy,m,h1,h2,h3,h4⟩=>⟨dx,a,sy,m,s.ins h1,DX LC _ _ _ _ s h2,DX LB _ _ _ _ s h3,DX LB _ _ _ _ s h4⟩
theorem ab5:uf JA:=λ_ _ _ _ s⟨a,q,h1,h2,h3⟩=>⟨a,q,s.tup h1,DX LC _ _ _ _ s h2,s.lst h3⟩
structure ST (K:aL) (C:aa):Prop where
 cl:Cls K C
 nR:dQ K C "rules"
 nP:dQ K C "places"
 nS:dQ K C "spare"
 nK:dQ K C "kept"
def sf(ra pa da:aa)(sp:Nat):List (ag×V):=[("rules",.ref ra),("places",.ref pa),("spare",.int (sp:Int)),("kept",.ref da)]
theorem Pc(ra pa da:aa)(sp:Nat):(sf ra pa da sp).lookup ("rules":ag)=some (V.ref ra):=rfl
theorem ab6(ra pa da:aa)(sp:Nat):(sf ra pa da sp).lookup ("places":ag)=some (V.ref pa):=rfl
theorem VC(ra pa da:aa)(sp:Nat):(sf ra pa da sp).lookup ("spare":ag)=some (V.int (sp:Int)):=rfl
theorem YT(ra pa da:aa)(sp:Nat):(sf ra pa da sp).lookup ("kept":ag)=some (V.ref da):=rfl
theorem fT(ra pa da:aa)(sp:Nat)(h:(x==("rules":ag))=false)(h2:(x==("places":ag))=false)(h3:(x==("spare":ag))=false)(h4:(x==("kept":ag))=false):(sf ra pa da sp).lookup x=none:=by
 unfold sf
 rw[fM,h,fM,h2,fM,h3,fM,h4];rfl
theorem aje(ra pa da:aa)(sp:Nat)(k:Int)(h:k=(n:Int)):eV "spare" (.int k) (sf ra pa da sp)=sf ra pa da n:=by
 subst h
 show(if("rules":ag)="spare" then _ else _)=_
 rw[aq dd]
 show _::(if("places":ag)="spare" then _ else _)=_
 rw[aq dd];rfl
theorem aff(ra pa da:aa):eV "kept" (.ref da) (eV "spare" (.int 0) (eV "places" (.ref pa) (eV "rules" (.ref ra) [])))=sf ra pa da 0:=by
 show(eV "kept" (.ref da) (eV "spare" (.int 0) (if("rules":ag)="places" then _ else _)))=_
 rw[aq dd]
 show(eV "kept" (.ref da) (if("rules":ag)="spare" then _ else _))=_
 rw[aq dd]
 show(eV "kept" (.ref da) (_::(if("places":ag)="spare" then _ else _)))=_
 rw[aq dd]
 show(if("rules":ag)="kept" then _ else _)=_
 rw[aq dd]
 show _::(if("places":ag)="kept" then _ else _)=_
 rw[aq dd]
 show _::_::(if("spare":ag)="kept" then _ else _)=_
 rw[aq dd];rfl
structure ug (H:Hp) (ks:List Nat) (bG:List (List Bool×V)):Prop where
 nd:(bG.map (·.1)).Nodup
 short:∀x∈bG,x.1.length<=5
 ok:∀hv v,iI bG hv=some v->∃la,v=.ref la/\H la=some (.lst (bU (WZ ks hv)))
structure Rules (ks:List Nat):Prop where
 nd:ks.Nodup
 lt:∀k∈ks,k<16
theorem Rules.len(h:Rules ks):ks.length<=16:=by
 have:=xI (L:=aE 16) h.nd (λx hx=>bY.mpr (h.lt x hx))
 rwa[e_]at this
structure jo (C:aa) (H:Hp) (p ra pa da:aa) (ks:List Nat):Prop where
 ob:∃dx,H p=some (.ins C dx (sf ra pa da (spare ks.length)))
 rules:fe H ra ks
 places:H pa=some (.lst (bU ((aE 16).map (pl ks))))
 kept:∃bG,H da=some (.dT bG)/\ug H ks bG
 rl:Rules ks
theorem ug.sd(h:ug H ks bG)(s:Sd H H'):ug H' ks bG:=⟨h.nd,h.short,λhv v e=>by
 obtain⟨la,q,r⟩:=h.ok hv v e
 exact⟨la,q,s.lst r⟩⟩
theorem jo.same{p:aa}(h:jo C H p ra pa da ks)(s:aP H H'):jo C H' p ra pa da ks:=by
 obtain⟨⟨dx,h1⟩,h2,h3,⟨bG,h4,h5⟩,h6⟩:=h
 exact⟨⟨dx,s _ _ h1⟩,s _ _ h2,s _ _ h3,⟨bG,s _ _ h4,h5.sd (YS s)⟩,h6⟩
theorem jo.to{p:aa}(h:jo C H p ra pa da ks)(s:Sd H H')(k:∃bG,H' da=some (.dT bG)/\ug H' ks bG):jo C H' p ra pa da ks:=by
 obtain⟨⟨dx,h1⟩,h2,h3,h4,h6⟩:=h
 exact⟨⟨dx,s.ins h1⟩,s.lst h2,s.lst h3,k,h6⟩
theorem jo.YU(h:ug H ks bG):bG.length<az:=by
 have:=xI (L:=(aE 6).flatMap ue) h.nd (λx hx=>by
  obtain⟨y,hy,rfl⟩:=aM.mp hx
  exact Pb (h.short y hy))
 rw[aA]at this
 have e:((aE 6).flatMap ue).length=63:=by decide
 rw[c7];omega
def tf(K:aL)(C:aa):Sp:=λvs H Q _=>∃(p dx ra:aa)(ks:List Nat),vs=[.ref p,.ref ra]/\H p=some (.ins C dx [])/\hide H p ra=some (.lst (bU ks))/\Rules ks/\∀H' pa da,Sx [p] H H'->H pa=none->H da=none->H' da=some (.dT [])->jo C H' p ra pa da ks->Q .non H'
abbrev sSI:bj:=inClass (top 48) 0
theorem YV:a0 ["self","rules","place","rule"] ["self","rules"] (aB sSI):={}
theorem E1{l:List α}{x:α}(h:l[i]?=some x):l.drop i=x::l.drop (i+1):=by
 obtain⟨hi,e⟩:=gx.mp h
 rw[<-e];exact List.drop_eq_getElem_cons hi
theorem YW{r:Nat}(h:r<n):Rg n (r:Int)=some r:=by
 unfold Rg;rw[ax oo,ax oo,jK]
theorem VD(F:il K "__init__" "Scale.__init__" sSI f fd)(T:lB K mg)(W:ST K C):cz P w K mg base hC 1 f fd ["self","rules"] (tf K C):=by
 refine F.ok YV (λfF A outer s H vs Q E hr h=>?_)
 ·obtain⟨p,dx,ra,ks,rfl,hp,Kf,sI,k⟩:=h
  refine⟨_,ak (iQ (pv 0) (pv 1) rfl)<|ak (iQ (pv 0) (b7 aa' (bP (ae bo ai)) (eC T.rules rfl)) rfl)<|ak (iQ (pv 0) bo rfl)<|ak (iQ (pv 0) RO rfl)<|ak (cH 2 YV.nd bo)<|aD (fW ee rfl (G7 rfl T.reversed (ae (pv 1) ai)) (cZ 3 YV.nd)<|ak (aaW (pv 2) (aaV (bL (pv 0) rfl) (pv 3) set_list))<|ak (Dd (pv 0) (b7 lV (pv 2) (eC T.spare rfl)) Q6)<|aD (cH 2 YV.nd (b7 lV (pv 2) (eC T.digit rfl)))),?_⟩
  have LD:ra≠p:=λe=>by unfold hide at Kf;rw[ax e]at Kf;cases Kf
  rw[hide_ne LD]at Kf
  refine⟨_,rfl,_,rfl,p,C,dx,[],rfl,hp,W.cl,W.nR,dd,?_⟩
  generalize hJ:upd H p (.ins C dx (eV "rules" (.ref ra) []))=H1 at*
  have DU:H1 p=some (.ins C dx (eV "rules" (.ref ra) [])):=by rw[<-hJ];exact ao
  have s1:Sx [p] H H1:=by rw[<-hJ];exact c8 .refl (by simp)
  refine⟨by show 1<=az;decide,λl0 ZK=>?_⟩
  generalize w8:upd H1 l0 (.lst [.int 0])=H2 at*
  have nX:aP H1 H2:=by rw[<-w8];exact aw ZK
  have h2l:H2 l0=some (.lst [.int 0]):=by rw[<-w8];exact ao
  refine⟨l0,16,_,rfl,rfl,h2l,by decide,by decide,(by show 16<=az;decide),λpa FE=>?_⟩
  have ajf:(dW (16:Int).toNat [V.int 0]).flatten=bU ((aE 16).map (pl [])):=by decide
  rw[ajf]
  generalize Ab:upd H2 pa (.lst (bU ((aE 16).map (pl []))))=H3 at*
  have W6:aP H2 H3:=by rw[<-Ab];exact aw FE
  have ajg:H3 pa=some (.lst (bU ((aE 16).map (pl [])))):=by rw[<-Ab];exact ao
  have s13:=nX.trans W6
  have VE:pa≠p:=λe=>by rw[e,nX _ _ DU]at FE;cases FE
  refine⟨_,rfl,p,C,dx,_,rfl,s13 _ _ DU,W.cl,W.nP,(by show 1<1000;decide),?_⟩
  generalize TR:upd H3 p (.ins C dx (eV "places" (.ref pa) (eV "rules" (.ref ra) [])))=H4 at*
  have W8:H4 p=some (.ins C dx (eV "places" (.ref pa) (eV "rules" (.ref ra) []))):=by rw[<-TR];exact ao
  have ajh:H4 pa=some (.lst (bU ((aE 16).map (pl [])))):=by rw[<-TR,aN VE];exact ajg
  have s4:Sx [p] H H4:=by rw[<-TR];exact c8 (s1.then s13) (by simp)
  refine⟨_,rfl,p,C,dx,_,rfl,W8,W.cl,W.nS,(by show 2<1000;decide),?_⟩
  generalize Km:upd H4 p (.ins C dx (eV "spare" (.int 0) (eV "places" (.ref pa) (eV "rules" (.ref ra) []))))=H5 at*
  have h5p:H5 p=some (.ins C dx (eV "spare" (.int 0) (eV "places" (.ref pa) (eV "rules" (.ref ra) [])))):=by rw[<-Km];exact ao
  have afh:H5 pa=some (.lst (bU ((aE 16).map (pl [])))):=by rw[<-Km,aN VE];exact ajh
  have s5:Sx [p] H H5:=by rw[<-Km];exact c8 s4 (by simp)
  refineλda uA=>?_
  have ab7:da≠p:=λe=>by rw[e,h5p]at uA;cases uA
  have aae:da≠pa:=λe=>by rw[e,afh]at uA;cases uA
  generalize Kq:upd H5 da (.dT [])=H6 at*
  have EH:aP H5 H6:=by rw[<-Kq];exact aw uA
  have h6d:H6 da=some (.dT []):=by rw[<-Kq];exact ao
  refine⟨_,rfl,p,C,dx,_,rfl,EH _ _ h5p,W.cl,W.nK,(by show 3<1000;decide),?_⟩
  rw[aff]
  generalize IA:upd H6 p (.ins C dx (sf ra pa da 0))=H7 at*
  have h7p:H7 p=some (.ins C dx (sf ra pa da 0)):=by rw[<-IA];exact ao
  have h7d:H7 da=some (.dT []):=by rw[<-IA,aN ab7];exact h6d
  have aji:H7 pa=some (.lst (bU ((aE 16).map (pl [])))):=by rw[<-IA,aN VE];exact EH _ _ afh
  have s7:Sx [p] H H7:=by rw[<-IA];exact c8 (s5.then EH) (by simp)
  have h7r:H7 ra=some (.lst (bU ks)):=s7 _ _ Kf (by simp only[bA];exact LD)
  have ab8:H pa=none:=pR (s1.then nX) (nX _ _ DU) FE
  have yA:H da=none:=pR s5 h5p uA
  have aaf:ra≠pa:=aF Kf ab8
  have hlen:=sI.len
  refine⟨_,rfl,ra,_,rfl,a_.of h7r,?_⟩
  refine fY (ex:=[p,pa]) (wkv (λH' sx=>sx.sq (a_.of h7r) (by simp[LD,aaf])))
   (λj σ H'=>∃(v3:Option V),σ=[some (.ref p),some (.ref ra),some (.int ((128^j:Nat):Int)),v3]/\Sx [p,pa] H7 H'/\H' p=some (.ins C dx (sf ra pa da (spare j)))/\H' pa=some (.lst (bU ((aE 16).map (pl (ks.drop (ks.length-j)))))))
   ⟨none,rfl,.refl,h7p,by rw[Al,List.drop_length];exact aji⟩ (λi σ H'⟨_,_,q,_⟩=>q) ?_ ?_
  ·rintro j x σ H8 H9 hj ⟨v3,rfl,sx,hp8,VF⟩ W7 it
   rw[aR]at hj it
   obtain⟨r,rfl,er⟩:=c6 it
   have LG:r<16:=sI.lt r (cC er)
   have ed:ks.drop (ks.length-(j+1))=r::ks.drop (ks.length-j):=by
    rw[show ks.length-(j+1)=ks.length-1-j by omega,E1 er,show ks.length-1-j+1=ks.length-j by omega]
   have el:(ks.drop (ks.length-j)).length=j:=by rw[gG];omega
   have hp9:=W7 _ _ hp8
   have ajk:=W7 _ _ VF
   refine⟨_,rfl,_,rfl,p,C,dx,_,_,rfl,hp9,W.cl,W.nP,ab6 _ _ _ _,_,rfl,pa,_,_,r,rfl,rfl,ajk,YW (by rw[aR,aA,e_];exact LG),?_⟩
   have ajl:(bU ((aE 16).map (pl (ks.drop (ks.length-j))))).set r (.int ((128^j:Nat):Int))=bU ((aE 16).map (pl (ks.drop (ks.length-(j+1))))):=by
    rw[ed,<-ab4 LG,el]
    exact(List.map_set (f:=λ(n:Nat)=>V.int (n:Int))).symm
   rw[ajl]
   generalize ES:upd H9 pa (.lst (bU ((aE 16).map (pl (ks.drop (ks.length-(j+1)))))))=Kj at*
   have afi:Kj pa=some (.lst (bU ((aE 16).map (pl (ks.drop (ks.length-(j+1))))))):=by rw[<-ES];exact ao
   have afj:Kj p=some (.ins C dx (sf ra pa da (spare j))):=by rw[<-ES,aN (λe=>VE e.symm)];exact hp9
   have ajm:Sx [p,pa] H7 Kj:=by rw[<-ES];exact c8 (sx.then W7) (by simp)
   refine⟨_,rfl,p,C,dx,_,_,rfl,afj,W.cl,W.nS,VC _ _ _ _,_,rfl,_,_,rfl,rfl,.inr ⟨by decide,by decide⟩,_,_,rfl,rfl,dx,_,afj,(by show 4<1000;decide),?_⟩
   rw[aje _ _ _ _ _ (n:=spare (j+1)) (by rw[AA];show((spare j:Nat):Int)+((128^j:Nat):Int)*64=_;omega)]
   refine⟨_,rfl,_,_,rfl,rfl,.inr ⟨by decide,by decide⟩,some (.int (r:Int)),?_,c8 ajm (by simp),ao,?_⟩
   ·simp only[Vj,Vk]
    rw[eO,BV];rfl
   ·rw[aN VE];exact afi
  ·rintro σ H8 ⟨v3,rfl,sx,hp8,VF⟩
   rw[aR]at hp8 VF
   rw[vj,qW]at VF
   refine k H8 pa da ?_ ab8 yA (sx _ _ h7d (by simp[ab7,aae])) ⟨⟨dx,hp8⟩,?_,VF,⟨[],?_,⟨l_,λx hx=>by simp at hx,λhv v e=>by rw[ve]at e;cases e⟩⟩,sI⟩
   ·intro b o e hb
    have hbp:b≠p:=by simpa using hb
    exact sx b o (s7 b o e hb) (by simp[hbp,aF e ab8])
   ·exact sx _ _ h7r (by simp[LD,aaf])
   ·exact sx _ _ h7d (by simp[ab7,aae])
theorem uh{Q:aa->Hp->Prop}{E:XK}(Kf:fe H ra ks)(sI:Rules ks)(k:∀H' p pa da,aP H H'->H p=none->H pa=none->H da=none->H' da=some (.dT [])->jo C H' p ra pa da ks->Q p H'):
  ∀x dx,H x=none->H dx=none->dx≠x->tf K C [.ref x,.ref ra] (upd (upd H dx (.own x)) x (.ins C dx [])) (λv H2=>v=.non/\Q x H2) E:=by
 intro x dx hx WV qh
 refine⟨x,dx,ra,ks,rfl,ao,?_,sI,λH' pa da sx FE uA ZR hW=>⟨rfl,k H' x pa da ?_ hx ?_ ?_ ZR hW⟩⟩
 ·rw[j4]
  exact oZ hx (aw WV) _ _ Kf
 ·intro b o e
  have WX:b≠x:=aF e hx
  have hbd:b≠dx:=aF e WV
  exact sx b o (by rw[aN WX,aN hbd];exact e) (by simp only[bA];exact WX)
 ·cases e:H pa with
  |none=>rfl
  |some o=>have:=(aw (o:=.own x) WV) _ _ e;rw[aN (aF e hx),this]at FE;cases FE
 ·cases e:H da with
  |none=>rfl
  |some o=>have:=(aw (o:=.own x) WV) _ _ e;rw[aN (aF e hx),this]at uA;cases uA
theorem E3{vs:List Nat}{σ:L2.St}(hD:H1 D=none)(W:Wk [D] J (upd H1 D (.lst [])) n Item)(p:Nat->Bool)(f:Nat->V)(hn:n<=1000000)(hs:∀i x H(p6:VK)(No:Hp->Prop),i<n->aP H1 H->Item i x H->(p i=true->∀H',aP H H'->p6 (f i) H')->(p i=false->∀H',aP H H'->No H')->g x (wipe σ vs) H λkH H2=>wipe kH vs=wipe σ vs/\tt kH H2 λb H3=>if b=true then te kH H3 p6 else No H3)(hd:∀H,aP H1 H->H D=some (.lst (((aE n).filter p).map f))->Qd H):
  ∃W:Nat->Nat->Hp->Prop,(∃m,W 0 m (upd H1 D (.lst [])))/\∀i m H,W i m H->(J.stop i H/\Qd H)\/(J.go i H/\∃Nx:Hp->Prop,(∀H',Nx H'->∃m',m'<m/\W (i+1) m' H')/\∀x H',J.yP i H x H'->g x (wipe σ vs) H' λkH H2=>wipe kH vs=wipe σ vs/\tt kH H2 λb H3=>
    if b=true then te kH H3 λy H4=>∃acc,H4 D=some (.lst acc)/\acc.length<az/\Nx (upd H4 D (.lst (acc++[y])))else Nx H3):=by
 refine Io W (λi H=>aP H1 H/\Sx [D] (upd H1 D (.lst [])) H/\H D=some (.lst (((aE i).filter p).map f))) ⟨aw hD,.refl,ao⟩ (λi H q=>q.2.1) (λi x H H' hi⟨s1,s2,Qi⟩s it=>?_) (λH⟨s1,_,q⟩=>hd H s1 q)
 have N5:aP H1 H':=s1.trans s
 have lD:H' D=some (.lst (((aE i).filter p).map f)):=s _ _ Qi
 refine hs i x H' _ _ hi N5 it (λyt H2 Mx=>?_) (λyt H2 Mx=>?_)
 ·refine⟨_,Mx _ _ lD,?_,jZ (N5.trans Mx) hD,c8 ((s2.then s).then Mx) (by simp),?_⟩
  ·rw[aA]
   have:=dX p (aE i)
   rw[e_]at this
   exact mr (bV this (iU (dS hi hn))) dd
  ·rw[ao,iy,jf,eK yt,eU];rfl
 ·refine⟨N5.trans Mx,(s2.then s).then Mx,?_⟩
  rw[Mx _ _ lD,iy,jf,fC (by rw[yt];decide)]
  simp
theorem kq{R:Hp->aa->α->Prop}(kR:Keeps R){vs:List Nat}{σ:L2.St}(hD:H1 D=none)(W:Wk [D] J (upd H1 D (.lst [])) n Item)(p:Nat->Bool)(F:Nat->α)(hn:n<=1000000)(hs:∀i x H(p6:VK)(No:Hp->Prop),i<n->aP H1 H->(∃o,H D=some o)->Item i x H->(p i=true->∀H' y,aP H H'->R (hide H' D) y (F i)->p6 (.ref y) H')->(p i=false->∀H',aP H H'->No H')->g x (wipe σ vs) H λkH H2=>wipe kH vs=wipe σ vs/\tt kH H2 λb H3=>if b=true then te kH H3 p6 else No H3)(hd:∀H,aP H1 H->g_ R H D (((aE n).filter p).map F)->Qd H):
  ∃W:Nat->Nat->Hp->Prop,(∃m,W 0 m (upd H1 D (.lst [])))/\∀i m H,W i m H->(J.stop i H/\Qd H)\/(J.go i H/\∃Nx:Hp->Prop,(∀H',Nx H'->∃m',m'<m/\W (i+1) m' H')/\∀x H',J.yP i H x H'->g x (wipe σ vs) H' λkH H2=>wipe kH vs=wipe σ vs/\tt kH H2 λb H3=>
    if b=true then te kH H3 λy H4=>∃acc,H4 D=some (.lst acc)/\acc.length<az/\Nx (upd H4 D (.lst (acc++[y])))else Nx H3):=by
 refine Io W (λi H=>aP H1 H/\Sx [D] (upd H1 D (.lst [])) H/\g_ R H D (((aE i).filter p).map F)) ⟨aw hD,.refl,gm ao⟩ (λi H q=>q.2.1) (λi x H H' hi⟨s1,s2,Qi⟩s it=>?_) (λH⟨s1,_,q⟩=>hd H s1 q)
 have N5:aP H1 H':=s1.trans s
 have lD:=bx kR s Qi
 obtain⟨vs0,hv0,_⟩:=lD.lst
 refine hs i x H' _ _ hi N5 ⟨_,hv0⟩ it (λyt H2 y Mx hy=>?_) (λyt H2 Mx=>?_)
 ·have hd2:=bx kR Mx lD
  obtain⟨vs',hv,hl⟩:=hd2.lst
  refine⟨vs',hv,?_,jZ (N5.trans Mx) hD,c8 ((s2.then s).then Mx) (by simp),?_⟩
  ·rw[hl,aA]
   have:=dX p (aE i)
   rw[e_]at this
   exact mr (bV this (iU (dS hi hn))) dd
  ·rw[iy,jf,eK yt,eU]
   exact je hd2 hv hy
 ·refine⟨N5.trans Mx,(s2.then s).then Mx,?_⟩
  have:=bx kR Mx lD
  rw[iy,jf,fC (by rw[yt];decide)]
  simpa using this
theorem NJ(a b:Nat):a&&&b<=b:=Ss
theorem YX(n o s:Nat):dom n o s=((((s|||spare n)-o)&&&spare n)==spare n):=by
 unfold dom more
 have:=NJ ((s|||spare n)-o) (spare n)
 rw[cV,bX,bX];omega
theorem afk:kK "tuple"=some (.type "tuple"):=by decide+kernel
theorem afl:kK "dict"=some (.type "dict"):=by decide+kernel
def DY(C:aa):Sp:=λvs H Q _=>∃(p ra pa da:aa)(ks:List Nat)(r:Nat),vs=[.ref p,.int (r:Int)]/\jo C H p ra pa da ks/\r<16/\Q (.int ((pl ks r*64:Nat):Int)) H
abbrev sS1:bj:=inClass (top 48) 1
theorem ajn:a0 ["self","rule"] ["self","rule"] (aB sS1):={}
theorem VG(ks:List Nat){r:Nat}(h:r<16):(bU ((aE 16).map (pl ks)))[r]?=some (.int (pl ks r:Nat)):=by
 rw[bz,bz,mw h];rfl
theorem ab9(F:il K "bit" "Scale.bit" sS1 f fd)(T:lB K mg)(W:ST K C):cz P w K mg base hC 1 f fd ["self","rule"] (DY C):=by
 refine F.ok ajn (λfF A outer s H vs Q E hr h=>?_)
 ·obtain⟨p,ra,pa,da,ks,r,rfl,⟨⟨dx,hp⟩,Kf,FE,hk,sI⟩,LG,k⟩:=h
  refine⟨_,aD (aX (b7 lV (iP fJ (bL (pv 0) rfl) (pv 1) (λ_ _=>rfl)) (eC T.spare rfl))),?_⟩
  refine⟨_,rfl,p,C,dx,_,_,rfl,hp,W.cl,W.nP,ab6 _ _ _ _,_,rfl,pa,_,_,_,rfl,rfl,a_.of FE,at_of (j:=r) rfl (VG ks LG),_,_,rfl,rfl,.inr ⟨by decide,by decide⟩,?_⟩
  show Q (.int (((pl ks r:Nat):Int)*64)) H
  rw[show((pl ks r:Nat):Int)*64=((pl ks r*64:Nat):Int) by omega];exact k
def zg(C:aa):Sp:=λvs H Q _=>∃(p ra pa da:aa)(ks:List Nat)(a b:Nat),vs=[.ref p,.int (a:Int),.int (b:Int)]/\jo C H p ra pa da ks/\a<=(b|||spare ks.length)/\Q (.int (more ks.length a b:Nat)) H
abbrev sS2:bj:=inClass (top 48) 2
theorem ajo:a0 ["self","score","other"] ["self","score","other"] (aB sS2):={}
theorem VH{a b:Nat}(h:a<=(b|||spare n)):((spare n:Nat):Int)-jH (qC (b:Int) (spare n:Nat)-(a:Int)) (spare n:Nat)=((more n a b:Nat):Int):=by
 rw[xH,show(((b|||spare n:Nat)):Int)-(a:Int)=(((b|||spare n)-a:Nat):Int) by omega,mR]
 unfold more
 have:=NJ ((b|||spare n)-a) (spare n)
 omega
theorem VI(F:il K "more" "Scale.more" sS2 f fd)(W:ST K C):cz P w K mg base hC 1 f fd ["self","score","other"] (zg C):=by
 refine F.ok ajo (λfF A outer s H vs Q E hr h=>?_)
 ·obtain⟨p,ra,pa,da,ks,a,b,rfl,⟨⟨dx,hp⟩,Kf,FE,hk,sI⟩,hle,k⟩:=h
  refine⟨_,aD (aX (b7 jG (bL (pv 0) rfl) (b7 zL (b7 jG (b7 QY (pv 2) (bL (pv 0) rfl)) (pv 1)) (bL (pv 0) rfl)))),?_⟩
  refine⟨_,rfl,p,C,dx,_,_,rfl,hp,W.cl,W.nS,VC _ _ _ _,_,rfl,_,rfl,p,C,dx,_,_,rfl,hp,W.cl,W.nS,VC _ _ _ _,_,_,rfl,rfl,_,rfl,_,_,rfl,rfl,_,rfl,p,C,dx,_,_,rfl,hp,W.cl,W.nS,VC _ _ _ _,_,_,rfl,rfl,_,_,rfl,rfl,?_⟩
  have e:=VH hle
  rw[<-e]at k;exact k
def wH(C:aa):Sp:=λvs H Q _=>∃(p ra pa da:aa)(ks:List Nat)(a b:Nat),vs=[.ref p,.int (a:Int),.int (b:Int)]/\jo C H p ra pa da ks/\a<=(b|||spare ks.length)/\Q (.bl (!(a==b)&&dom ks.length a b)) H
abbrev sS3:bj:=inClass (top 48) 3
theorem ajp:a0 ["self","score","other"] ["self","score","other"] (aB sS3):={}
theorem kb(a b:Nat):decide (V.int (a:Int)=V.int (b:Int))=(a==b):=by
 rw[cV,bN,bX]
 exact⟨λe=>by have:=V.int.inj e;omega,λe=>by rw[e]⟩
theorem Pd(F:il K "bounds" "Scale.bounds" sS3 f fd)(W:ST K C)(M:Mt P w K mg base C "more" ["self","score","other"] 1 (zg C)):cz P w K mg base hC 2 f fd ["self","score","other"] (wH C):=by
 refine F.ok ajp (λfF A outer s H vs Q E hr h=>?_)
 ·obtain⟨p,ra,pa,da,ks,a,b,rfl,hS,hle,k⟩:=h
  obtain⟨dx,hp⟩:=hS.ob
  refine⟨_,aD (aX (zI (gU zM (pv 1) (pv 2) (bW _)) (xc (gU ic (dZ M hr (pv 0) (ae (pv 1) (ae (pv 2) ai))) bo (bW _))))),?_⟩
  refine⟨_,rfl,_,rfl,rfl,_,rfl,?_⟩
  refine kg (b:= !(a==b)) (by rw[kb]) (λh1=>?_) (λh1=>?_)
  ·refine⟨_,rfl,p,dx,_,rfl,hp,fT _ _ _ _ dd dd dd dd,_,rfl,_,rfl,p,ra,pa,da,ks,a,b,rfl,hS,hle,rfl,?_⟩
   rw[h1,fv]at k
   have e:decide (V.int ((more ks.length a b:Nat):Int)=V.int 0)=dom ks.length a b:=kb _ 0
   rw[e];exact k
  ·rw[h1,jD]at k;exact k
def sh(K:aL)(C:aa):Sp:=λvs H Q _=>∃(p ra pa da q:aa)(ks:List Nat)(first:Nat)(cs:List Nat),vs=[.ref p,.int (first:Int),.ref q]/\jo C H p ra pa da ks/\a_ K H q (bU cs)/\first+cs.length<=16/\(∀c∈cs,c<64)/\∀H',aP H H'->Q (.int (eF ks first cs:Nat)) H'
abbrev sS4:bj:=inClass (top 48) 4
theorem YY:a0 ["self","first_rule","counts","step","count"] ["self","first_rule","counts"] (aB sS4):={}
theorem Pe(F:il K "score_from" "Scale.score_from" sS4 f fd)(T:lB K mg)(W:ST K C):cz P w K mg base hC 1 f fd ["self","first_rule","counts"] (sh K C):=by
 refine F.ok YY (λfF A outer s H vs Q E hr h=>?_)
 ·obtain⟨p,ra,pa,da,q,ks,first,cs,rfl,hS,hq,hlen,hsm,k⟩:=h
  obtain⟨dx,hp⟩:=hS.ob
  refine⟨_,aD (aX (bw (Ek rfl) rfl T.sum BZ (ae
   (gh (own:=[("step",3),("count",4)]) (g:=tq K 2 (fi (cy 3) (fi (cy 4) tp))) (tt:=oE) (te:=qk (rI Xv λi j=>.int (i*j)) (cE 4) (qk (aa6 K) (aa3 K (cE 0) "places") (qk (Ef λi j=>.int (i+j)) (cE 1) (cE 3))))
    rfl YY.nd (kC rfl T.enumerate (ae (pv 2) ai)) (b_ (by show i8 ["self","first_rule","counts","step","count"] (aB sS4) _ _=true;decide+kernel))
    (λs H C cl fp=>fV rfl (bu (cZ 3 YY.nd) (bu (cZ 4 YY.nd) eI)))
    (λs H C cl fp=>fB)
    (λs H C cl fp=>b7 lV (pv 4) (iP fJ (bL (pv 0) rfl) (b7 jF (pv 1) (pv 3)) (λ_ _=>rfl)))) ai))),?_⟩
  refine⟨_,rfl,q,_,rfl,hq,λD hD=>?_⟩
  refine fQ hD (Z5 (ux hD hq)) (λ_=>true) (λi=>V.int ((cs.getD i 0*pl ks (first+i):Nat):Int)) (by rw[aR];omega) (λi x H' p6 No hi sm it hy jx=>?_) (λH1 s1 hd=>?_)
  ·obtain⟨T',y,rfl,hT,hx⟩:=it
   obtain⟨n1,rfl,e1⟩:=c6 hx
   have g1:cs.getD i 0=n1:=by rw[bM,e1];rfl
   rw[g1]at hy
   have hs:=hsm n1 (cC e1)
   rw[aR]at hi
   refine⟨T',_,rfl,lu.of hT,rfl,_,_,rfl,_,_,rfl,rfl,rfl,_,rfl,_,rfl,p,C,dx,_,_,rfl,sm _ _ hp,W.cl,W.nP,ab6 _ _ _ _,_,rfl,_,rfl,_,_,rfl,rfl,pa,_,_,.int (pl ks (first+i):Nat),rfl,rfl,a_.of (sm _ _ hS.places),at_of (j:=first+i) oo (VG ks oo),_,_,rfl,rfl,.inl ⟨by omega,by omega⟩,?_⟩
   have:=hy rfl
   rw[BV]at this;exact this
  have lD:H1 D=some (.lst (((cs.zipIdx.map λx=>x.1*pl ks (first+x.2)).map λ(n:Nat)=>(n:Int)).map V.int)):=by
   rw[hd,filter_true,aR,lJ cs 0,cg,cg,cg];rfl
  refine⟨D,_,rfl,a_.of lD,?_⟩
  rw[wC]
  exact k H1 s1
theorem JB(hn:n<=5)(h:m∈MR n)(hv:List Bool):∀c∈du m hv,c<64:=by
 have o:=mok hn h
 have hl:m.length=n:=Ap hn h
 have mY:(bB m).length=m.length:=aA _
 have sm:∀c∈oU m,c<64:=by rw[o.same];exact o.small
 have h1:ir m hv<64:=by
  unfold ir
  have:=dX (λx:Nat×Bool=>x.1==1&&!x.2) ((bB m).zip hv)
  rw[Ax]at this;omega
 have h2:gu m hv<64:=by
  unfold gu
  have:=dX (λx:Bool×Bool=>x.2&&!x.1) ((cO m).zip hv)
  have e:(cO m).length=m.length:=by rw[cO,aA];exact mY
  rw[Ax]at this;omega
 intro c hc
 simp only[du,aY,iw,gE]at hc
 simp only[oU,aY,iw,gE,zz]at sm
 obtain⟨a1,a2,a3,a4,a5,a6,a7,a8,a9,a10⟩:=sm
 have a10:=a10 _ rfl
 rcases hc with rfl|rfl|rfl|rfl|rfl|rfl|rfl|rfl|rfl|rfl|rfl|rfl<;>assumption
def B3(H H':Hp)(da:aa):Prop:=∀kvs',H' da=some (.dT kvs')->∀hv v,iI kvs' hv=some v->(∃bG,H da=some (.dT bG)/\iI bG hv=some v)\/∃la,v=.ref la/\H la=none
def zh(K:aL)(C:aa):Sp:=λvs H Q _=>∃(p ra pa da ml hq:aa)(ks:List Nat)(hv:List Bool),vs=[.ref p,.ref ml,.ref hq]/\jo C H p ra pa da ks/\j0 H ml (MR hv.length)/\a_ K H hq (yR hv)/\hv.length<=5/\1<=hv.length/\∀H' r,Sx [da] H H'->jo C H' p ra pa da ks->fe H' r (WZ ks hv)->B3 H H' da->Q (.ref r) H'
abbrev sS5:bj:=inClass (top 48) 5
def nFS:List ag:=["self","mark_lists","heavy","key","counts","marks","row"]
theorem Pf:a0 nFS ["self","mark_lists","heavy"] (aB sS5):={}
theorem VJ(F:il K "foot_scores" "Scale.foot_scores" sS5 f fd)(T:lB K mg)(W:ST K C)(Gf:Fn P w K mg base "foot_counts" ["marks","heavy"] 2 (wD K))(M:Mt P w K mg base C "score_from" ["self","first_rule","counts"] 1 (sh K C)):cz P w K mg base hC 3 f fd ["self","mark_lists","heavy"] (zh K C):=by
 refine F.ok Pf (λfF A outer s H vs Q E hr h=>?_)
 ·obtain⟨p,ra,pa,da,ml,hq,ks,hv,rfl,hS,hml,hhq,h5,h1,k⟩:=h
  have hu:=show(A.deeper (i5 "Scale.foot_scores" (aB sS5) s.heap.objs.size f fF)).units+1<cp by have:=hr.units;omega
  refine⟨_,ak (cH 3 Pf.nd (Di CI rfl T.tuple afk (ae (pv 2) ai)))<|ak (eG (QI (Om hu (pv 3) (bL (pv 0) rfl))) (ak (qP (i:=4) (own:=[("marks",5)]) (g:=cy 5) (tt:=oE) (te:=Ge (wD K) [] E0 (fk (cE 5) (fk (cE 2) f6))) rfl Pf.nd rfl rfl (vd rfl rfl rfl rfl) (cB (pv 1)) (b_ (by show i8 nFS (aB sS5) _ _=true;decide+kernel))
     (λs H C cl fp=>cZ 5 Pf.nd) (λs H C cl fp=>fB) (λs H C cl fp=>c9 Gf hr rfl (ae (pv 5) (ae (pv 2) ai))))<|aD (XS hu (bL (pv 0) rfl) (pv 3) (gh (own:=[("row",6)]) (g:=cy 6) (tt:=oE) (te:=ng C "score_from" (sh K C) [] E0 (cE 0) (fk (tC (.int 4)) (fk (cE 6) f6)))
     rfl Pf.nd (cB (pv 4)) (b_ (by show i8 nFS (aB sS5) _ _=true;decide+kernel))
     (λs H C cl fp=>cZ 6 Pf.nd) (λs H C cl fp=>fB) (λs H C cl fp=>dZ M (hr.mono dd) (pv 0) (ae (eC T.CO rfl) (ae (pv 6) ai)))) rfl)) cf)<|aD (aX (XR hu (bL (pv 0) rfl) (pv 3) (λ_ _=>rfl))),?_⟩
  obtain⟨dx,hp⟩:=hS.ob
  obtain⟨bG,uA,hko⟩:=hS.kept
  refine⟨_,rfl,hq,_,rfl,.inl ⟨hhq,λt ht=>?_⟩⟩
  generalize hJ:upd H t (.tup (yR hv))=H1 at*
  have s1:aP H H1:=by rw[<-hJ];exact aw ht
  have Vh:H1 t=some (.tup (yR hv)):=by rw[<-hJ];exact ao
  have WL:=hS.same s1
  refine⟨_,rfl,_,rfl,p,C,dx,_,_,rfl,s1 _ _ hp,W.cl,W.nK,YT _ _ _ _,da,_,rfl,tW.t (s1 _ _ uA) Vh,_,rfl,?_⟩
  refine kg rfl (λjx=>?_) (λZJ=>?_)
  ·have W0:iI bG hv=none:=by cases e:iI bG hv with
    |none=>rfl
    |some v=>rw[e]at jx;cases jx
   obtain⟨ZP,PX,w_⟩:=hml
   have afn:ZP.length=(MR hv.length).length:=bF w_
   have amv:=(mP _ h1 h5).2
   refine⟨_,rfl,ml,rfl,⟨_,a_.of (s1 _ _ PX)⟩,λD hD=>?_⟩
   refine kq ck hD (yz (ux hD (a_.of (s1 _ _ PX)))) (λ_=>true) (λi=>du ((MR hv.length).getD i []) hv) (by rw[aA,afn];omega) (λi x H' p6 No hi sm⟨oD,WE⟩it hy jx=>?_) (λH2 s2 hL=>?_)
   ·obtain⟨q,rfl,hqi⟩:=fD it
    obtain⟨m,hmi,kf⟩:=cN w_ hqi
    have g:(MR hv.length).getD i []=m:=by rw[bM,hmi];rfl
    rw[g]at hy
    have hmem:=cC hmi
    have s':=s1.trans sm
    refine⟨rfl,_,rfl,_,rfl,q,hq,hv.length,m,hv,rfl,a_.of (s' _ _ kf),bE s' hhq,h5,Ap h5 hmem,mok h5 hmem,λH3 y s3 Qg hy1=>hy rfl H3 y s3 ?_⟩
    show hide H3 D y=_
    rw[hide_ne (λe=>by rw[e,WE]at Qg;cases Qg)];exact hy1
   rw[filter_true,aA,afn]at hL
   obtain⟨cps,hc1,hc2⟩:=hL.at ck
   have N2:cps.length=(MR hv.length).length:=by rw[bF hc2,aA,e_]
   have lP:=s1.trans s2
   refine⟨_,rfl,D,rfl,⟨_,a_.of hc1⟩,λD2 Ql=>?_⟩
   refine E3 Ql (yz (ux Ql (a_.of hc1))) (λ_=>true) (λi=>V.int (eF ks 4 (du ((MR hv.length).getD i []) hv):Nat)) (by rw[aA,N2];omega) (λi x H' p6 No hi sm it hy jx=>?_) (λH3 s3 hd=>?_)
   ·obtain⟨q,rfl,hqi⟩:=fD it
    obtain⟨r,vT,kf⟩:=cN hc2 hqi
    rw[bz]at vT
    have FD:i<(MR hv.length).length:=by rw[aA,N2]at hi;exact hi
    rw[mw FD]at vT
    simp only[gJ,gL]at vT
    have s':=lP.trans sm
    have hmem:(MR hv.length).getD i []∈MR hv.length:=by rw[bM,bT FD];exact rR FD
    refine⟨rfl,_,rfl,p,dx,_,rfl,s' _ _ hp,fT _ _ _ _ dd dd dd dd,_,rfl,p,ra,pa,da,q,ks,4,r,rfl,hS.same s',a_.of (sm _ _ kf),?_,?_,λH4 s4=>?_⟩
    ·rw[<-vT];show 4+12<=16;decide
    ·rw[<-vT];exact JB h5 hmem hv
    ·rw[<-vT];exact hy rfl H4 s4
   rw[filter_true,aA,N2]at hd
   have lD:H3 D2=some (.lst (bU (WZ ks hv))):=by
    rw[hd,dz (MR hv.length) [] λm=>V.int (eF ks 4 (du m hv):Nat)]
    unfold WZ;simp only[bU,cg];rfl
   have pP:=lP.trans s3
   refine⟨_,rfl,p,C,dx,_,_,rfl,pP _ _ hp,W.cl,W.nK,YT _ _ _ _,_,rfl,da,_,rfl,KH.t (pP _ _ uA) ((s2.trans s3) _ _ Vh) (jo.YU hko),?_⟩
   have qh:∀{b o},H3 b=some o->(∀z,o≠.dT z)->b≠da:=λ{b o}e n q=>by rw[q,pP _ _ uA]at e;exact n _ (bO e).symm
   generalize TR:upd H3 da (.dT (putK bG hv (.ref D2)))=H4 at*
   have h4d:H4 da=some (.dT (putK bG hv (.ref D2))):=by rw[<-TR];exact ao
   have qc:Sx [da] H H4:=by rw[<-TR];exact c8 (Bc pP) (by simp)
   have P9:Sd H H4:=B2 uA qc
   have h4t:H4 t=some (.tup (yR hv)):=by rw[<-TR,aN (qh ((s2.trans s3) _ _ Vh) (λ_ e=>by cases e))];exact(s2.trans s3) _ _ Vh
   have h4D:H4 D2=some (.lst (bU (WZ ks hv))):=by rw[<-TR,aN (qh lD (λ_ e=>by cases e))];exact lD
   have ajt:ug H4 ks (putK bG hv (.ref D2)):=by
    refine⟨?_,?_,?_⟩
    ·rw[GW _ W0,eU,UI]
     refine⟨hko.nd,by simp,λa ha b hb=>?_⟩
     simp only[bb,gH,bA]at hb
     subst hb
     exactλe=>R4 W0 (by rw[<-e];exact ha)
    ·rw[GW _ W0]
     intro x hx
     rcases d7.mp hx with hx|hx
     ·exact hko.short x hx
     ·simp only[bA]at hx;subst hx;exact h5
    ·intro tE v e
     rw[vg]at e
     by_cases q:tE=hv
     ·rw[ax q]at e;subst q;exact⟨D2,(bO e).symm,h4D⟩
     ·rw[aq q]at e
      obtain⟨la,e1,e2⟩:=hko.ok tE v e
      exact⟨la,e1,P9.lst e2⟩
   refine⟨_,rfl,p,C,dx,_,_,rfl,P9.ins hp,W.cl,W.nK,YT _ _ _ _,_,rfl,da,.ref D2,rfl,?_,?_⟩
   ·have:=tW.t (k:=hv) h4d h4t
    rw[vg,ax rfl]at this;exact this
   ·refine k H4 D2 qc (hS.to P9 ⟨_,h4d,ajt⟩) h4D λkvs' e tE v ev=>?_
    rw[h4d]at e
    have e':putK bG hv (.ref D2)=kvs':=by injection e with e;injection e
    rw[<-e',vg]at ev
    by_cases q:tE=hv
    ·rw[ax q]at ev;exact .inr ⟨D2,(bO ev).symm,lP.free Ql⟩
    ·rw[aq q]at ev;exact .inl ⟨bG,uA,ev⟩
  ·cases e:iI bG hv with
   |none=>rw[e]at ZJ;cases ZJ
   |some v=>
    obtain⟨la,rfl,Mq⟩:=hko.ok hv v e
    refine⟨_,rfl,p,C,dx,_,_,rfl,s1 _ _ hp,W.cl,W.nK,YT _ _ _ _,_,rfl,da,.ref la,rfl,?_,?_⟩
    ·have:=tW.t (k:=hv) (s1 _ _ uA) Vh
     rw[e]at this;exact this
    ·refine k H1 la (Bc s1) WL (s1 _ _ Mq) λkvs' e tE v ev=>?_
     rw[s1 _ _ uA]at e
     have e':bG=kvs':=by injection e with e;injection e
     rw[<-e']at ev;exact .inl ⟨bG,uA,ev⟩
theorem sj{α:Type}:∀(l:List α)(k:Nat),l.zipIdx k=(l.zipIdx).map λx=>(x.1,x.2+k)
 |[],k=>rfl
 |a::l,k=>by
  rw[BO,BO,bb,sj l (k+1),sj l (0+1),cg]
  simp only[dE]
  congr 1
  apply mv
  intro x _
  simp only[vW]
  congr 1
  omega
theorem xJ(ks:List Nat)(f:Nat)(a b:List Nat):eF ks f (a++b)=eF ks f a+eF ks (f+a.length) b:=by
 unfold eF
 rw[List.zipIdx_append,eU,Hg,sj b,cg]
 simp only[dE]
 congr 2
 apply mv
 intro x _
 simp only[vW]
 congr 2
 omega
theorem yB(ks:List Nat)(c:Nat->Nat):eF ks 0 ((aE 16).map c)=((aE 16).map λk=>c k*pl ks k).sum:=by
 unfold eF
 rw[lJ _ 0,cg,aA,e_]
 congr 1
theorem Pg{c:Bool}(sI:Rules ks){w:br}(hv:bc w<=5){y:fS}(hy:y∈ow w):
  eF ks 0 (d6 w y.sylls)+eF ks 4 (du y.marks ((cM w y.sylls).map (dA c)))=sc c ks w y:=by
 have e:=xJ ks 0 (d6 w y.sylls) (du y.marks ((cM w y.sylls).map (dA c)))
 rw[show 0+(d6 w y.sylls).length=4 from rfl]at e
 rw[<-e,show d6 w y.sylls++du y.marks ((cM w y.sylls).map (dA c))=counts c w y from rfl,xk c hv hy,yB,Dy _ sI.nd sI.lt]
 rfl
theorem LH(c:Bool){w:br}(hv:bc w<=5){y:fS}(hy:y∈ow w):∀k∈d6 w y.sylls,k<64:=by
 intro k hk
 have:k∈counts c w y:=jB _ hk
 rw[xk c hv hy]at this
 obtain⟨i,_,rfl⟩:=aM.mp this
 exact vo c hv hy i
theorem B4(a:B3 H H1 da)(d:∀b,H1 b=none->H b=none)(b:B3 H1 H2 da):B3 H H2 da:=λkvs' e hv v ev=>by
 rcases b kvs' e hv v ev with⟨bG,e1,e2⟩|⟨la,e1,e2⟩
 ·exact a bG e1 hv v e2
 ·exact .inr ⟨la,e1,d la e2⟩
theorem DZ(h:H da=some (.dT bG))(h':H' da=some (.dT bG)):B3 H H' da:=λkvs' e hv v ev=>by
 rw[h']at e
 have e':bG=kvs':=by injection e with e;injection e
 exact .inl ⟨bG,h,by rw[e'];exact ev⟩
def JC(H:Hp)(r:aa)(xs:List Nat):Prop:=∃o,NzO o/\H r=some (.yO o (.lst (bU xs)))
theorem YZ{r:aa}{xs:List Nat}(h:JC H r xs):a_ K H r (bU xs):=let⟨_,_,e⟩:=h;.inl (.inr ⟨_,e⟩)
theorem JC.same{r:aa}{xs:List Nat}(h:JC H r xs)(s:aP H H'):JC H' r xs:=let⟨o,z,e⟩:=h;⟨o,z,s _ _ e⟩
def pf(K:aL)(CW C:aa):Sp:=λvs H Q _=>∃(p ra pa da wy:aa)(ks:List Nat)(w:br)(c:Bool),vs=[.ref p,.ref wy,.int (cI c)]/\jo C H p ra pa da ks/\mO CW H wy w/\dn w=true/\∀H' r,Sx [da] H H'->jo C H' p ra pa da ks->H r=none->JC H' r ((ow w).map (sc c ks w))->B3 H H' da->Q (.ref r) H'
abbrev sS6:bj:=inClass (top 48) 6
def nSc:List ag:=["self","ways","codas","found","sizes","base","heavy","score"]
theorem LI:a0 nSc ["self","ways","codas"] (aB sS6):={}
theorem kc(f:α->List β){l:List α}{x:α}(h:l[i]?=some x):(l.take (i+1)).flatMap f=(l.take i).flatMap f++f x:=by
 rw[cD h,Bf,VB]
theorem jv{α β:Type}(f:α->List β)(m:Nat):∀(l:List α),(∀a∈l,(f a).length<=m)->(l.flatMap f).length<=l.length*m
 |[],_=>by simp
 |a::l,h=>by
  rw[eS,bZ,aS,jb]
  have h1:=h a bp
  have h2:=jv f m l λb hb=>h b (bg _ hb)
  omega
theorem Ph(F:il K "scores" "Scale.scores" sS6 f fd)(T:lB K mg)(W:ST K C)(WW:WT K CW)(Gs:Fn P w K mg base "syllable_counts" ["sounds","sizes"] 3 (EU K))(Gh:Fn P w K mg base "heavy_syllables" ["sounds","sizes","codas"] 2 (zb K))(Mf:Mt P w K mg base C "score_from" ["self","first_rule","counts"] 1 (sh K C))(Ms:Mt P w K mg base C "foot_scores" ["self","mark_lists","heavy"] 3 (zh K C)):cz P w K mg base hC 4 f fd ["self","ways","codas"] (pf K CW C):=by
 refine F.ok LI (λfF A outer s H vs Q E hr h=>?_)
 ·obtain⟨p,ra,pa,da,wy,ks,w,c,rfl,hS,hWy,hok,k⟩:=h
  refine⟨_,ak (cH 3 LI.nd (bP ai))<|abW<|ak (fW ee rfl (cB (bL (pv 1) rfl)) (cZ 4 LI.nd)<|Vb (i:=5) LI.nd rfl (fN rfl) (abU Mf (hr.mono dd) (pv 0) (ae (c9 Gs hr rfl (ae (bL (pv 1) rfl) (ae (pv 4) ai))) ai)) (h2:=
    O4 (cH 6 LI.nd (c9 Gh (hr.mono dd) rfl (ae (bL (pv 1) rfl) (ae (pv 4) (ae (pv 2) ai)))))<|Vc (pv 3) (te:=abO (ZX _ (ng C "foot_scores" (zh K C) [] E0 (cE 0) _)) (cy 7) (qk (Ef λi j=>.int (i+j)) (cE 5) (cE 7)) [7]) (λI tk h=>
     (abP (own:=[("score",7)]) (g:=cy 7) (te:=qk (Ef λi j=>.int (i+j)) (cE 5) (cE 7)) rfl LI.nd (cB (dZ Ms hr (pv 0) (ae (bL (pv 1) rfl) (ae (pv 6) ai)))) (b_ (by show i8 nSc (aB sS6) _ _=true;decide+kernel))
      (λs H C cl fp=>cZ 7 LI.nd) (λs H C cl fp=>YA (pv 5) (pv 7)) (I:=I) (tk:=tk) (h:=h)))))<|YE<|aD (aX (pv 3)),?_⟩
  obtain⟨Lu,lK,lH⟩:=bR hok
  obtain⟨E4,wa,wsy,wm,Kg,hww,hws,hwm⟩:=id hWy
  obtain⟨sps,Kc,Me⟩:=id hws
  have hsl:sps.length=(dk w).length:=bF Me
  obtain⟨VL,yA,ajv⟩:=hS.kept
  obtain⟨dx,hp⟩:=hS.ob
  refine⟨bI _,λD hD=>⟨D,ao,?_⟩⟩
  rw[Xn]
  generalize hJ:upd H D (mX D [])=H1 at*
  have s1:aP H H1:=by rw[<-hJ];exact aw hD
  have BW:H1 D=some (mX D []):=by rw[<-hJ];exact ao
  have JD:da≠D:=aF yA hD
  refine⟨_,rfl,wy,CW,E4,_,_,rfl,s1 _ _ Kg,WW.cl,WW.nY,U' _ _ _,wsy,rfl,⟨_,a_.of (s1 _ _ Kc)⟩,?_⟩
  have nda:∀{b o},H b=some o->(∀z,o≠.dT z)->b∉[da,D]:=λ{b o}e n=>by
   simp only[aY,iw,gE,iS]
   exact⟨λq=>by rw[q,yA]at e;exact n _ (bO e).symm,aF e hD⟩
  have Y0:∀{H'},Sx [da,D] H1 H'->Sd H H':=λ{H'}sx b o e n=>sx b o (s1 _ _ e) (nda e n)
  let fs:mQ->Nat:=λ_=>0
  let out:List mQ->List Nat:=λs=>(MR (bc w)).map λm=>sc c ks w ⟨s,m⟩
  have ajw:(ow w).map (sc c ks w)=(dw w).flatMap out:=by
   unfold ow
   rw[vk]
   congr 1
   funext s
   rw[cg];rfl
  have hMR:=(mP _ lK lH).2
  have hb:=se hok
  have ajy:(dk w).length=(dw w).length:=aA _
  refine fY (ex:=[da,D]) (yz (λH' sx=>sx.sq (a_.of (s1 _ _ Kc)) (nda Kc (λ_ e=>by cases e))))
   (λi σ H'=>∃(v4 v5 v6:Option V),σ=[some (.ref p),some (.ref wy),some (.int (cI c)),some (.ref D),v4,v5,v6,none]/\Sx [da,D] H1 H'/\jo C H' p ra pa da ks/\H' D=some (mX D (((dw w).take i).flatMap out))/\(∀kvs',H' da=some (.dT kvs')->∀hv v,iI kvs' hv=some v->v≠.ref D)/\B3 H H' da)
   ⟨none,none,none,rfl,.refl,hS.same s1,BW,(λkvs' e tE v ev q=>by
    rw[s1 _ _ yA]at e
    have e':VL=kvs':=by injection e with e;injection e
    rw[<-e']at ev
    obtain⟨la,e1,e2⟩:=ajv.ok tE v ev
    rw[e1]at q
    rw[V.ref.inj q,hD]at e2
    cases e2),DZ yA (s1 _ _ yA)⟩ (λi σ H'⟨_,_,_,_,q,_⟩=>q) ?_ ?_
  ·rintro i x σ H3 H4 hi ⟨v4,v5,v6,rfl,sx,C',Lz,ab_,aca⟩ jh it
   obtain⟨q,rfl,hqi⟩:=fD it
   obtain⟨r,vT,kf⟩:=cN Me hqi
   unfold dk at vT
   rw[bz]at vT
   obtain⟨sy,hsy,rfl⟩:∃sy,(dw w)[i]?=some sy/\flat sy=r:=by
    cases e:(dw w)[i]?with
    |none=>rw[e]at vT;cases vT
    |some sy=>rw[e]at vT;exact⟨sy,rfl,bO vT⟩
   have hsm:=cC hsy
   have pZ:=En hsm
   have qc:=sx.then jh
   have P9:=Y0 qc
   have FO:=C'.same jh
   have hw4:=DX LC _ _ _ _ P9 hww
   have P5:H4 q=some (.lst (bU (flat sy))):=P9.lst kf
   have acb:=P9.ins Kg
   obtain⟨Y1,DK⟩:=FO.ob
   refine⟨_,rfl,p,Y1,_,rfl,DK,fT _ _ _ _ dd dd dd dd,_,rfl,wy,CW,E4,_,_,rfl,acb,WW.cl,WW.nS,Yy _ _ _,_,rfl,wa,q,w,sy,rfl,hw4,a_.of P5,Lu,pZ,λH5 t s5 ZS ht=>?_⟩
   obtain⟨m0,hm0⟩:∃m,m∈MR (bc w):=by
    cases e:MR (bc w)with
    |nil=>have:=(mP _ lK lH).1;rw[e]at this;simp at this
    |cons m _=>exact⟨m,bp⟩
   have P':∀m∈MR (bc w),(⟨sy,m⟩:fS)∈ow w:=λm hm=>fO.mpr ⟨sy,hsm,aM.mpr ⟨m,hm,rfl⟩⟩
   refine⟨p,ra,pa,da,t,ks,0,d6 w sy,rfl,FO.same s5,a_.of ht,(by show 0+4<=16;decide),LH c lH (P' m0 hm0),λH6 s6=>?_⟩
   have O9:=s5.trans s6
   refine⟨_,rfl,wy,CW,E4,_,_,rfl,O9 _ _ acb,WW.cl,WW.nS,Yy _ _ _,_,rfl,_,rfl,wa,q,w,sy,c,rfl,aW bJ _ _ _ _ O9 hw4,a_.of (O9 _ _ P5),Lu,pZ,λH7 hv s7 hv0 hhv=>?_⟩
   have Xb:=O9.trans s7
   have hS7:=FO.same Xb
   have DW:=jh _ _ Lz
   have W':=Xb _ _ DW
   have hlh:((cM w sy).map (dA c)).length=bc w:=by
    obtain⟨f1,f2,_⟩:=km pZ 0
    rw[aA,f1,<-f2,cY]
   have ajA:j0 H7 wm (MR ((cM w sy).map (dA c)).length):=by
    rw[hlh];exact aW ck _ _ _ _ Xb (DX LB _ _ _ _ P9 hwm)
   obtain⟨dx7,hp7⟩:=hS7.ob
   refine⟨_,rfl,D,_,rfl,W',?_⟩
   refine⟨_,rfl,p,dx7,_,rfl,hp7,fT _ _ _ _ dd dd dd dd,_,rfl,wy,CW,E4,_,_,rfl,Xb _ _ acb,WW.cl,WW.nM,Jx _ _ _,_,rfl,p,ra,pa,da,wm,hv,ks,_,rfl,hS7,ajA,a_.of hhv,by omega,by omega,λH8 l s8 hS8 Z' hkn=>?_⟩
   have afp:∀kvs',H8 da=some (.dT kvs')->∀hv v,iI kvs' hv=some v->v≠.ref D:=λkvs' e tE v ev q=>by
    rcases hkn kvs' e tE v ev with⟨ajB,e7,ev7⟩|⟨la,e1,e2⟩
    ·obtain⟨Pj,e3,_⟩:=C'.kept
     have:H7 da=some (.dT Pj):=Xb _ _ (jh _ _ e3)
     rw[this]at e7
     have e':Pj=ajB:=by injection e7 with e7;injection e7
     rw[<-e']at ev7
     exact ab_ Pj e3 tE v ev7 q
    ·rw[e1]at q;rw[V.ref.inj q,W']at e2;cases e2
   have hD8:H8 D=some (mX D (((dw w).take i).flatMap out)):=s8 _ _ W' (by simp only[bA];exactλe=>JD e.symm)
   refine⟨l,rfl,⟨_,a_.of Z'⟩,λE' hE=>?_⟩
   have amA:(WZ ks ((cM w sy).map (dA c))).length<=300:=by unfold WZ;rw[aA,hlh];exact hMR
   refine Vd hE (yz (ux hE (a_.of Z'))) (λj=>eF ks 0 (d6 w sy)+(WZ ks ((cM w sy).map (dA c))).getD j 0) (by rw[aR];omega) (λj x H' p6 hj sm it hy=>?_) (λH9 s9 hd=>?_)
   ·obtain⟨n1,rfl,e1⟩:=c6 it
    have g1:(WZ ks ((cM w sy).map (dA c))).getD j 0=n1:=by rw[bM,e1];rfl
    rw[g1]at hy
    refine⟨rfl,_,rfl,_,rfl,_,_,rfl,rfl,?_⟩
    rw[Js]at hy;exact hy
   rw[aR,dz (WZ ks ((cM w sy).map (dA c))) 0 λx=>eF ks 0 (d6 w sy)+x]at hd
   have lD:H9 E'=some (mX E' (out sy)):=by
    rw[hd]
    unfold WZ
    rw[hlh]
    simp only[out,cg]
    congr 2
    apply mv
    intro m hm
    simp only[vW]
    rw[Pg hS.rl lH (P' m hm)]
   have hD9:=s9 _ _ hD8
   refine⟨E',_,_,rfl,hD9,lD,?_,some (.ref q),some (.int (eF ks 0 (d6 w sy):Nat)),some (.ref hv),rfl,?_,?_,?_,?_,?_⟩
   ·rw[c7]
    have e1:=jv out 300 ((dw w).take i) (λs _=>by show((MR (bc w)).map _).length<=300;rw[aA];exact hMR)
    have e2:(out sy).length<=300:=by show((MR (bc w)).map _).length<=300;rw[aA];exact hMR
    have e3:((dw w).take i).length<=256:=by rw[d8];omega
    have:=jk 300 e3
    omega
   ·exact c8 (((qc.then Xb).trans (s8.weak (by simp))).then s9) (by simp)
   ·have hS9:=hS8.same s9
    obtain⟨⟨dx9,a1⟩,a2,a3,⟨Pk,a4,a5⟩,a6⟩:=hS9
    have nD:∀{b o},H9 b=some o->o≠mX D (((dw w).take i).flatMap out)->b≠D:=λ{b o}e n q=>by rw[q,hD9]at e;exact n (bO e).symm
    have fresh:∀{b o},H b=some o->b≠D:=λe=>aF e hD
    refine⟨⟨dx9,by rw[aN (fresh hp)];exact a1⟩,?_,?_,⟨Pk,by rw[aN JD];exact a4,a5.nd,a5.short,λtE v e=>?_⟩,a6⟩
    ·show upd H9 D _ ra=_
     rw[aN (fresh hS.rules)];exact a2
    ·rw[aN (fresh hS.places)];exact a3
    ·obtain⟨la,e1,e2⟩:=a5.ok tE v e
     refine⟨la,e1,?_⟩
     obtain⟨LJ,e8,_⟩:=hS8.kept
     have e89:LJ=Pk:=by have:=s9 _ _ e8;rw[a4]at this;injection this with this;injection this with this;exact this.symm
     rw[aN (λq=>afp LJ e8 tE v (by rw[e89];exact e) (by rw[e1,q]))];exact e2
   ·rw[ao,kc out hsy]
   ·intro kvs' e
    rw[aN JD]at e
    obtain⟨LJ,e8,_⟩:=hS8.kept
    have e89:LJ=kvs':=by have:=s9 _ _ e8;rw[e]at this;injection this with this;injection this with this;exact this.symm
    rw[<-e89];exact afp LJ e8
   ·obtain⟨Pj,e3,_⟩:=C'.kept
    obtain⟨LJ,e8,_⟩:=hS8.kept
    have k37:B3 H3 H7 da:=DZ e3 (Xb _ _ (jh _ _ e3))
    have k39:B3 H7 (upd H9 D (mX D (((dw w).take i).flatMap out++out sy))) da:=λkvs' e tE v ev=>by
     rw[aN JD]at e
     have e89:LJ=kvs':=by have:=s9 _ _ e8;rw[e]at this;injection this with this;injection this with this;exact this.symm
     exact hkn kvs' (by rw[<-e89];exact e8) tE v ev
    have d3:∀b,H3 b=none->H b=none:=λb hb=>by
     cases e:H b with
     |none=>rfl
     |some o=>
      by_cases q:b=da
      ·subst q;rw[e3]at hb;cases hb
      ·have:=sx b o (s1 _ _ e) (by simp only[aY,iw,gE,iS];exact⟨q,aF e hD⟩)
       rw[hb]at this;cases this
    exact B4 (B4 aca d3 k37) (λb hb=>d3 b ((jh.trans Xb).free hb)) k39
  ·rintro σ H3 ⟨v4,v5,v6,rfl,sx,C',Lz,ab_,aca⟩
   refine⟨D,_,Lz,λo ho=>⟨_,rfl,k _ D ?_ ?_ hD ⟨o,ho,?_⟩ ?_⟩⟩
   ·intro b o' e hb
    rw[aN (aF e hD)]
    exact sx b o' (s1 _ _ e) (by simp only[aY,iw,gE,iS];exact⟨by simpa using hb,aF e hD⟩)
   ·obtain⟨⟨dx9,a1⟩,a2,a3,⟨Pk,a4,a5⟩,a6⟩:=id C'
    have fresh:∀{b o},H b=some o->b≠D:=λe=>aF e hD
    refine⟨⟨dx9,by rw[aN (fresh hp)];exact a1⟩,?_,?_,⟨Pk,by rw[aN JD];exact a4,a5.nd,a5.short,λtE v e=>?_⟩,a6⟩
    ·show upd H3 D _ ra=_
     rw[aN (fresh hS.rules)];exact a2
    ·rw[aN (fresh hS.places)];exact a3
    ·obtain⟨la,e1,e2⟩:=a5.ok tE v e
     refine⟨la,e1,?_⟩
     rw[aN (λq=>ab_ Pk a4 tE v e (by rw[e1,q]))];exact e2
   ·rw[aA,hsl,ajy,f7]at*
    rw[ao,ajw]
   ·obtain⟨Pk,a4,a5⟩:=C'.kept
    intro kvs' e tE v ev
    rw[aN JD]at e
    exact aca kvs' e tE v ev
def LK(K:aL)(C:aa):Sp:=λvs H Q _=>∃(p ra pa da q:aa)(ks L:List Nat)(s:Nat),vs=[.ref p,.ref q,.int (s:Int)]/\jo C H p ra pa da ks/\a_ K H q (bU L)/\(∀o∈L,o<=(s|||spare ks.length))/\∀H',aP H H'->Q (.bl (L.any λo=>dom ks.length o s)) H'
abbrev sS7:bj:=inClass (top 48) 7
theorem Y2:a0 ["self","bounding","score","spare","lent","other"] ["self","bounding","score"] (aB sS7):={}
theorem Y3(F:il K "bounded_by_any" "Scale.bounded_by_any" sS7 f fd)(W:ST K C):cz P w K mg base hC 1 f fd ["self","bounding","score"] (LK K C):=by
 refine F.ok Y2 (λfF A outer s H vs Q E hr h=>?_)
 ·obtain⟨p,ra,pa,da,q,ks,L,sc,rfl,hS,hq,hle,k⟩:=h
  obtain⟨dx,hp⟩:=hS.ob
  refine⟨_,ak (cH 3 Y2.nd (bL (pv 0) rfl))<|ak (cH 4 Y2.nd (b7 QY (pv 2) (pv 3)))<|ak (fW ee rfl (cB (pv 1)) (cZ 5 Y2.nd)<|aD (eG (bK ic (b7 zL (b7 jG (pv 4) (pv 5)) (pv 3)) (pv 3) (bW _)) (aD (aX x4)) cf))<|aD (aX x4),?_⟩
  refine⟨_,rfl,p,C,dx,_,_,rfl,hp,W.cl,W.nS,VC _ _ _ _,?_⟩
  refine⟨_,rfl,_,rfl,_,_,rfl,rfl,?_⟩
  refine⟨_,rfl,q,rfl,⟨_,hq⟩,?_⟩
  refine fY (ex:=[]) (yz (λH' sx=>bE (gZ sx) hq))
   (λi σ H'=>∃(v5:Option V),σ=[some (.ref p),some (.ref q),some (.int (sc:Int)),some (.int (spare ks.length:Nat)),some (.int (qC (sc:Int) (spare ks.length:Nat))),v5]/\Sx [] H H'/\(L.take i).any (λo=>dom ks.length o sc)=false)
   ⟨none,rfl,.refl,by simp⟩ (λi σ H'⟨_,_,q,_⟩=>q) ?_ ?_
  ·rintro i x σ H3 H4 hi ⟨v5,rfl,sx,jx⟩ jh it
   obtain⟨o,rfl,ho⟩:=c6 it
   have Xk:=hle o (cC ho)
   refine⟨_,rfl,_,rfl,_,_,rfl,rfl,_,rfl,_,_,rfl,rfl,_,rfl,rfl,_,rfl,?_⟩
   have e:decide (V.int (jH (qC (sc:Int) (spare ks.length:Nat)-(o:Int)) (spare ks.length:Nat))=V.int ((spare ks.length:Nat):Int))=dom ks.length o sc:=by
    rw[xH,show(((sc|||spare ks.length:Nat)):Int)-(o:Int)=(((sc|||spare ks.length)-o:Nat):Int) by omega,mR,kb,YX]
   refine kg e (λh1=>?_) (λh1=>?_)
   ·have:=k H4 ((gZ sx).trans jh)
    rw[kZ.mpr ⟨o,cC ho,h1⟩]at this
    exact this
   ·refine⟨_,rfl,sx.then jh,?_⟩
    rw[cD ho,List.any_append,jx];simp[h1]
  ·rintro σ H3 ⟨v5,rfl,sx,jx⟩
   rw[aR,f7]at jx
   have:=k H3 (gZ sx)
   rw[jx]at this;exact this
def VM(K:aL)(C:aa):Sp:=λvs H Q _=>∃(p ra pa da q:aa)(ks L:List Nat),vs=[.ref p,.ref q]/\jo C H p ra pa da ks/\JC H q L/\L.length<=8000/\(∀o∈L,∀s∈L,o<=(s|||spare ks.length))/\∀H' r(L':List Nat),aP H H'->H r=none->(∀x,x∈L'↔x∈L)->L'.Pairwise (·<=·)->L'.length<=L.length->fe H' r (ye (dom ks.length) L')->Q (.ref r) H'
abbrev sS8:bj:=inClass (top 48) 8
theorem acd:a0 ["self","scores","free","score"] ["self","scores"] (aB sS8):={}
theorem NK(D:Nat->Nat->Bool)(L:List Nat):(∀x∈ye D L,x∈L)/\(ye D L).length<=L.length:=by
 have go:∀(L free:List Nat),(∀x∈L.foldl (λfree s=>if free.any (λo=>D o s)=true then free else free++[s]) free,x∈free\/x∈L)/\(L.foldl (λfree s=>if free.any (λo=>D o s)=true then free else free++[s]) free).length<=free.length+L.length:=by
  intro L
  induction L with
  |nil=>intro free;exact⟨λx hx=>.inl hx,by simp⟩
  |cons a L ih=>
   intro free
   rw[fK]
   by_cases h:free.any (λo=>D o a)=true
   ·rw[ax h]
    refine⟨λx hx=>?_,?_⟩
    ·rcases(ih free).1 x hx with q|q
     ·exact .inl q
     ·exact .inr (bg _ q)
    ·have:=(ih free).2;rw[aS];omega
   ·rw[aq h]
    refine⟨λx hx=>?_,?_⟩
    ·rcases(ih (free++[a])).1 x hx with q|q
     ·rcases d7.mp q with q|q
      ·exact .inl q
      ·simp only[bA]at q;subst q;exact .inr bp
     ·exact .inr (bg _ q)
    ·have:=(ih (free++[a])).2;rw[bZ,jL]at this;rw[aS];omega
 refine⟨λx hx=>?_,by have:=(go L []).2;rw[qR,dE]at this;exact this⟩
 rcases(go L []).1 x hx with q|q
 ·simp at q
 ·exact q
theorem JE(D:Nat->Nat->Bool)(L:List Nat)(s:Nat):ye D (L++[s])=if(ye D L).any (λo=>D o s)=true then ye D L else ye D L++[s]:=by
 unfold ye;rw[Iu];rfl
theorem ace(F:il K "unbounded" "Scale.unbounded" sS8 f fd)(T:lB K mg)(W:ST K C)(M:Mt P w K mg base C "bounded_by_any" ["self","bounding","score"] 1 (LK K C)):cz P w K mg base hC 2 f fd ["self","scores"] (VM K C):=by
 refine F.ok acd (λfF A outer s H vs Q E hr h=>?_)
 ·obtain⟨p,ra,pa,da,q,ks,L,rfl,hS,hq,hlen,hle,k⟩:=h
  refine⟨_,ak (cH 2 acd.nd (bP ai))<|ak (fW ee rfl (cB (yp rfl T.sorted rfl T.set rfl hr.units (pv 1))) (cZ 3 acd.nd)<|aD (eG (nJ (jC (dZ M hr (pv 0) (ae (pv 2) (ae (pv 3) ai))))) (aD (eQ (gc dq kE kF gf (pv 2) (ae (pv 3) ai)))) cf))<|aD (aX (pv 2)),?_⟩
  refine⟨bI _,λD hD=>?_⟩
  generalize hJ:upd H D (.lst [])=H1 at*
  have s1:aP H H1:=by rw[<-hJ];exact aw hD
  have BW:H1 D=some (.lst []):=by rw[<-hJ];exact ao
  obtain⟨zo,hzo,hzq⟩:=hq
  refine⟨_,rfl,q,zo,L,rfl,s1 _ _ hzq,hzo,hlen,λt L' ht hmem Y4 hll=>?_⟩
  generalize w8:upd H1 t (.lst (bU L'))=H2 at*
  have nX:aP H1 H2:=by rw[<-w8];exact aw ht
  have h2t:H2 t=some (.lst (bU L')):=by rw[<-w8];exact ao
  have htD:t∉[D]:=by simp only[bA];exactλe=>by rw[e,BW]at ht;cases ht
  refine⟨t,rfl,⟨_,a_.of h2t⟩,?_⟩
  have back:∀{H'},Sx [D] H2 H'->aP H H':=λ{H'}sx=>jt (H1:=H) hD (o:=.lst []) (by rw[hJ];exact(Bc nX).trans sx)
  refine fY (ex:=[D]) (yz (λH' sx=>sx.sq (a_.of h2t) htD))
   (λi σ H'=>∃(v3:Option V),σ=[some (.ref p),some (.ref q),some (.ref D),v3]/\Sx [D] H2 H'/\H' D=some (.lst (bU (ye (dom ks.length) (L'.take i)))))
   ⟨none,rfl,.refl,nX _ _ BW⟩ (λi σ H'⟨_,_,q,_⟩=>q) ?_ ?_
  ·rintro i x σ H3 H4 hi ⟨v3,rfl,sx,Lz⟩ jh it
   obtain⟨sc,rfl,hsc⟩:=c6 it
   have qc:=sx.then jh
   have s4:=back qc
   have DW:=jh _ _ Lz
   have FO:=hS.same s4
   obtain⟨Y1,DK⟩:=FO.ob
   obtain⟨us,ul⟩:=NK (dom ks.length) (L'.take i)
   have ajF:sc∈L:=(hmem sc).mp (cC hsc)
   refine⟨_,rfl,p,Y1,_,rfl,DK,fT _ _ _ _ dd dd dd dd,_,rfl,_,rfl,p,ra,pa,da,D,ks,_,sc,rfl,FO,a_.of DW,λo ho=>hle o ((hmem o).mp (Au (us o ho))) sc ajF,λH5 s5=>⟨_,rfl,?_⟩⟩
   have hD5:=s5 _ _ DW
   refine kg rfl (λh1=>?_) (λh1=>?_)
   ·rw[d_]at h1
    refine⟨_,rfl,.inl ⟨rfl,_,a_.of hD5⟩,_,rfl,D,_,_,rfl,rfl,hD5,?_,some (.int (sc:Int)),rfl,c8 (qc.then s5) (by simp),?_⟩
    ·rw[aR,c7]
     rw[d8]at ul;omega
    ·rw[ao,cD hsc,JE,h1,aq dd,fX];rfl
   ·rw[jg]at h1
    refine⟨some (.int (sc:Int)),rfl,qc.then s5,?_⟩
    rw[hD5,cD hsc,JE,h1,ax rfl]
  ·rintro σ H3 ⟨v3,rfl,sx,Lz⟩
   rw[aR,f7]at Lz
   exact⟨_,rfl,k H3 D L' (back sx) hD hmem Y4 hll Lz⟩
theorem LL(ps:List (Nat×Nat))(x:Nat×Nat):dG (ps++[x])=(dG ps|||x.2):=by unfold dG;rw[Iu];rfl
def xK(K:aL)(C:aa):Sp:=λvs H Q _=>∃(p ra pa da q:aa)(ks L:List Nat)(a:Nat),vs=[.ref p,.int (a:Int),.ref q]/\jo C H p ra pa da ks/\JC H q L/\L.length<=8000/\(∀o∈L,a<=(o|||spare ks.length)/\o<=(a|||spare ks.length)/\Bl (more ks.length a o)/\Bl (more ks.length o a))/\∀H' r(rs:List (Nat×Nat)),aP H H'->H r=none->rs.length<=8000->(∀x,x∈rs↔∃o∈L,more ks.length a o≠0/\x=(more ks.length o a,more ks.length a o))->o5 H' r rs->Q (.ref r) H'
theorem Y5:a0 ["scale","told_score","scores","pairs","other","against"] ["scale","told_score","scores"] (aB (top 37)):={}
def Y6(n a:Nat)(L:List Nat):List (Nat×Nat):=(L.filter λo=>more n a o !=0).map λo=>(more n o a,more n a o)
theorem JF(n a:Nat)(L:List Nat)(o:Nat):Y6 n a (L++[o])=if more n a o=0 then Y6 n a L else Y6 n a L++[(more n o a,more n a o)]:=by
 unfold Y6
 rw[jf,eU]
 by_cases h:more n a o=0
 ·rw[ax h,fC (by simp[h])];simp
 ·rw[aq h,eK (by simp[h])];rfl
theorem NL(n a:Nat)(L:List Nat):(Y6 n a L).length<=L.length:=by unfold Y6;rw[aA];exact dX _ _
theorem NM(n a:Nat)(L:List Nat)(x:Nat×Nat):x∈Y6 n a L↔∃o∈L,more n a o≠0/\x=(more n o a,more n a o):=by
 unfold Y6
 rw[aM]
 constructor
 ·rintro⟨o,ho,rfl⟩
  obtain⟨h1,h2⟩:=bH.mp ho
  exact⟨o,h1,by simpa using h2,rfl⟩
 ·rintro⟨o,ho,h,rfl⟩
  exact⟨o,bH.mpr ⟨ho,by simpa using h⟩,rfl⟩
theorem LM(F:il K "pairs_against" "pairs_against" (top 37) f fd)(T:lB K mg)(W:ST K C)(M:Mt P w K mg base C "more" ["self","score","other"] 1 (zg C)):cz P w K mg base hC 2 f fd ["scale","told_score","scores"] (xK K C):=by
 refine F.ok Y5 (λfF A outer s H vs Q E hr h=>?_)
 ·obtain⟨p,ra,pa,da,q,ks,L,a,rfl,hS,hq,hlen,hle,k⟩:=h
  refine⟨_,ak (cH 3 Y5.nd (bP ai))<|ak (fW ee rfl (cB (yp rfl T.sorted rfl T.set rfl hr.units (pv 2))) (cZ 4 Y5.nd)<|ak (cH 5 Y5.nd (dZ M hr (pv 0) (ae (pv 1) (ae (pv 4) ai))))<|aD (eG (bK zM (pv 5) bo (bW _)) (aD (eQ (gc dq kE kF gf (pv 3) (ae (pA (ae (dZ M hr (pv 0) (ae (pv 4) (ae (pv 1) ai))) (ae (pv 5) ai))) ai)))) cf))<|aD (aX (wj rfl T.sorted rfl T.set rfl hr.units (pv 3))),?_⟩
  refine⟨bI _,λD hD=>?_⟩
  generalize hJ:upd H D (.lst [])=H1 at*
  have s1:aP H H1:=by rw[<-hJ];exact aw hD
  have BW:H1 D=some (.lst []):=by rw[<-hJ];exact ao
  obtain⟨zo,hzo,hzq⟩:=hq
  refine⟨_,rfl,q,zo,L,rfl,s1 _ _ hzq,hzo,hlen,λt L' ht hmem Y4 hll=>?_⟩
  generalize w8:upd H1 t (.lst (bU L'))=H2 at*
  have nX:aP H1 H2:=by rw[<-w8];exact aw ht
  have h2t:H2 t=some (.lst (bU L')):=by rw[<-w8];exact ao
  have htD:t∉[D]:=by simp only[bA];exactλe=>by rw[e,BW]at ht;cases ht
  refine⟨t,rfl,⟨_,a_.of h2t⟩,?_⟩
  have back:∀{H'},Sx [D] H2 H'->aP H H':=λ{H'}sx=>jt (H1:=H) hD (o:=.lst []) (by rw[hJ];exact(Bc nX).trans sx)
  refine fY (ex:=[D]) (yz (λH' sx=>sx.sq (a_.of h2t) htD))
   (λi σ H'=>∃(v4 v5:Option V),σ=[some (.ref p),some (.int (a:Int)),some (.ref q),some (.ref D),v4,v5]/\Sx [D] H2 H'/\g_ vV H' D (Y6 ks.length a (L'.take i)))
   ⟨none,none,rfl,.refl,gm (nX _ _ BW)⟩ (λi σ H'⟨_,_,_,q,_⟩=>q) ?_ ?_
  ·rintro i x σ H3 H4 hi ⟨v4,v5,rfl,sx,Pl⟩ jh it
   obtain⟨o,rfl,ho⟩:=c6 it
   have hoL:=(hmem o).mp (cC ho)
   obtain⟨b1,b2,b3,b4⟩:=hle o hoL
   have qc:=sx.then jh
   have FK:=bx dJ jh Pl
   have FO:=hS.same (back qc)
   obtain⟨Y1,DK⟩:=FO.ob
   refine⟨_,rfl,p,Y1,_,rfl,DK,fT _ _ _ _ dd dd dd dd,_,rfl,_,rfl,p,ra,pa,da,ks,a,o,rfl,FO,b1,?_⟩
   refine⟨_,rfl,rfl,_,rfl,?_⟩
   have e:(!decide (V.int ((more ks.length a o:Nat):Int)=V.int 0))= !(more ks.length a o==0):=by rw[show decide (V.int ((more ks.length a o:Nat):Int)=V.int 0)=(more ks.length a o==0)from kb _ 0]
   refine kg e (λh1=>?_) (λh1=>?_)
   ·have WN:¬more ks.length a o=0:=by simpa using h1
    obtain⟨vs,lK,WY⟩:=FK.lst
    refine⟨_,rfl,.inl ⟨rfl,_,a_.of lK⟩,?_⟩
    refine⟨_,rfl,p,Y1,_,rfl,DK,fT _ _ _ _ dd dd dd dd,_,rfl,_,rfl,p,ra,pa,da,ks,o,a,rfl,FO,b2,_,rfl,(by show 2<=az;decide),λu hu=>?_⟩
    have huD:u≠D:=λe=>by rw[e,lK]at hu;cases hu
    have YR:=bx dJ (aw (o:=.tup [.int (more ks.length o a:Nat),.int (more ks.length a o:Nat)]) hu) FK
    refine⟨D,vs,_,rfl,rfl,aw hu _ _ lK,?_,some (.int (o:Int)),some (.int (more ks.length a o:Nat)),rfl,c8 (qc.then (aw hu)) (by simp),?_⟩
    ·have:=NL ks.length a (L'.take i)
     rw[d8]at this
     rw[WY,c7];omega
    ·rw[cD ho,JF,aq WN]
     refine je YR (aw hu _ _ lK) ?_
     show hide _ D u=_
     rw[hide_ne huD,ao]
   ·have WN:more ks.length a o=0:=by simpa using h1
    refine⟨some (.int (o:Int)),some (.int (more ks.length a o:Nat)),rfl,qc,?_⟩
    rw[cD ho,JF,ax WN];exact FK
  ·rintro σ H3 ⟨v4,v5,rfl,sx,Pl⟩
   rw[aR,f7]at Pl
   have N6:=NL ks.length a L'
   refine⟨_,rfl,D,_,rfl,Pl.at dJ,by omega,λx hx=>?_,λr ps rs iE hps hrs sI=>?_⟩
   ·obtain⟨o,ho,_,rfl⟩:=(NM _ _ _ _).mp hx
    obtain⟨b1,b2,b3,b4⟩:=hle o ((hmem o).mp ho)
    exact⟨b4,b3⟩
   ·refine k _ r rs ((back sx).trans (aw iE)) ((back sx).free iE) oo (λx=>?_) ⟨ps,ao,gv dJ (aw iE) hps⟩
    rw[hrs,NM]
    exact⟨λ⟨o,ho,h⟩=>⟨o,(hmem o).mp ho,h⟩,λ⟨o,ho,h⟩=>⟨o,(hmem o).mpr ho,h⟩⟩
def zi(K:aL):Sp:=λvs H Q _=>∃(q:aa)(ps:List (Nat×Nat)),vs=[.ref q]/\o5 H q ps/\∀H',aP H H'->Q (.int (dG ps:Nat)) H'
theorem Y7:a0 ["pairs","bits","pair"] ["pairs"] (aB (top 38)):={}
theorem VN(F:il K "all_against" "all_against" (top 38) f fd):cz P w K mg base hC 1 f fd ["pairs"] (zi K):=by
 refine F.ok Y7 (λfF A outer s H vs Q E hr h=>?_)
 ·obtain⟨q,ps,rfl,⟨as,hq,hp⟩,k⟩:=h
  refine⟨_,ak (cH 1 Y7.nd bo)<|ak (fW ee rfl (cB (pv 0)) (cZ 2 Y7.nd)<|aD (cH 1 Y7.nd (b7 QY (pv 1) (iP zX (pv 2) bo (λ_ _=>rfl)))))<|aD (aX (pv 1)),?_⟩
  refine⟨_,rfl,q,rfl,⟨_,a_.of hq⟩,?_⟩
  refine fY (ex:=[]) (yz (λH' sx=>bE (gZ sx) (a_.of hq)))
   (λi σ H'=>∃(v2:Option V),σ=[some (.ref q),some (.int (dG (ps.take i):Nat)),v2]/\Sx [] H H')
   ⟨none,rfl,.refl⟩ (λi σ H'⟨_,_,q⟩=>q) ?_ ?_
  ·rintro i x σ H3 H4 hi ⟨v2,rfl,sx⟩ jh it
   obtain⟨a,rfl,ha⟩:=fD it
   obtain⟨pr,hpr,kf⟩:=cN hp ha
   have Y8:=((gZ sx).trans jh) _ _ kf
   refine⟨_,rfl,_,rfl,a,_,_,_,rfl,rfl,lu.of Y8,rfl,_,_,rfl,rfl,some (.ref a),?_,sx.then jh⟩
   rw[cD hpr,LL,<-xH];rfl
  ·rintro σ H3 ⟨v2,rfl,sx⟩
   have e:(as.map V.ref).length=ps.length:=by rw[aA];exact bF hp
   rw[e,f7]
   exact⟨_,rfl,k H3 (gZ sx)⟩
def E5(K:aL):Sp:=λvs H Q _=>∃(q:aa)(ps:List (Nat×Nat))(b:Nat),vs=[.ref q,.int (b:Int)]/\o5 H q ps/\ps.length<=1000000/\∀H' r,aP H H'->H r=none->o5 H' r (lG ps b)->Q (.ref r) H'
theorem acg:a0 ["pairs","rule_bits","pair"] ["pairs","rule_bits"] (aB (top 39)):={}
theorem Y9(F:il K "pairs_left" "pairs_left" (top 39) f fd):cz P w K mg base hC 1 f fd ["pairs","rule_bits"] (E5 K):=by
 refine F.ok acg (λfF A outer s H vs Q E hr h=>?_)
 ·obtain⟨q,ps,b,rfl,⟨as,hq,hp⟩,hlen,k⟩:=h
  have hl:as.length=ps.length:=bF hp
  refine⟨_,aD (aX (gh (own:=[("pair",2)]) (g:=cy 2) (tt:=oq (qk rEq (qk (Ef λi j=>.int (jH i j)) (qk (XG K) (cE 2) (tC (.int 0))) (cE 1)) (tC (.int 0)))) (te:=cE 2)
   rfl acg.nd (cB (pv 0)) (b_ (by show i8 ["pairs","rule_bits","pair"] (aB (top 39)) _ _=true;decide+kernel))
   (λs H C cl fp=>cZ 2 acg.nd)
   (λs H C cl fp=>gX (bK ic (b7 zL (iP zX (pv 2) bo (λ_ _=>rfl)) (pv 1)) bo (bW _)))
   (λs H C cl fp=>pv 2))),?_⟩
  refine⟨_,rfl,q,rfl,⟨_,a_.of hq⟩,λD hD=>?_⟩
  refine kq dJ hD (yz (ux hD (a_.of hq))) (λi=>(ps.getD i (0,0)).1&&&b==0) (λi=>ps.getD i (0,0)) (by rw[aA,hl];omega) (λi x H' p6 No hi sm hDs it hy jx=>?_) (λH1 s1 hL=>?_)
  ·obtain⟨a,rfl,ha⟩:=fD it
   obtain⟨pr,hpr,kf⟩:=cN hp ha
   have g:ps.getD i (0,0)=pr:=by rw[bM,hpr];rfl
   rw[g]at hy jx
   refine⟨rfl,_,rfl,a,_,_,_,rfl,rfl,lu.of (sm _ _ kf),rfl,_,rfl,_,_,rfl,rfl,rfl,_,rfl,?_⟩
   have e:decide (V.int (jH (pr.1:Int) (b:Int))=V.int 0)=(pr.1&&&b==0):=by rw[mR];exact kb _ 0
   refine kg e (λh=>⟨_,rfl,hy h H' a (λ_ _ h=>h) ?_⟩) (λh=>jx h H' λ_ _ h=>h)
   show hide H' D a=_
   rw[hide_ne (aF kf hD)];exact sm _ _ kf
  ·rw[aA,hl]at hL
   have:=j_ ps (0,0) λx=>x.1&&&b==0
   rw[this]at hL
   exact k H1 D s1 hD (hL.at dJ)
theorem NN(x:Nat)(r:List Nat):ZD (.int (x:Int)) (bU r)=r.contains x:=by
 unfold ZD bU
 rw[List.any_map,cV,kZ,jR]
 constructor
 ·rintro⟨y,hy,e⟩
  have:((y:Int)==(x:Int))=true:=e
  rw[bX]at this
  have:y=x:=by omega
  rw[<-this];exact hy
 ·intro h
  exact⟨x,h,by show((x:Int)==(x:Int))=true;rw[f9]⟩
def E6(K:aL)(C:aa):Sp:=λvs H Q _=>∃(p ra pa da q:aa)(ks:List Nat)(ps:List (Nat×Nat)),vs=[.ref p,.ref q]/\jo C H p ra pa da ks/\o5 H q ps/\ps.length<=1000000/\(jS (di ks) ks.length ks ps=none->∀H',aP H H'->Q .non H')/\(∀H' r rows,jS (di ks) ks.length ks ps=some rows->aP H H'->H r=none->j0 H' r rows->rows.length<=16->(∀x∈rows,x.length<=16)->Q (.ref r) H')
def nRk:List ag:=["scale","pairs","ranks","rules","against","rank","rule"]
theorem yC:a0 nRk ["scale","pairs"] (aB (top 40)):={}
theorem LN(bit:Nat->Nat)(f:Nat)(ps:List (Nat×Nat)):jS bit f [] ps=some []:=by cases f<;>rfl
theorem JG(bit:Nat->Nat)(f:Nat)(r:List Nat)(ps:List (Nat×Nat))(h:r≠[]):jS bit (f+1) r ps=if(r.filter λx=>bit x&&&dG ps==0).isEmpty=true then none else
  (jS bit f (r.filter λx=>!(r.filter λx=>bit x&&&dG ps==0).contains x) (lG ps ((r.filter λx=>bit x&&&dG ps==0).map bit).sum)).map λl=>(r.filter λx=>bit x&&&dG ps==0)::l:=by
 show(if r.isEmpty=true then _ else _)=_
 rw[aq (by cases r with|nil=>exact absurd rfl h|cons=>simp)]
theorem Pn{q:Nat->Bool}(h:r.filter q≠[]):(r.filter λx=>!(r.filter q).contains x).length<r.length:=by
 obtain⟨x,hx⟩:=List.exists_mem_of_ne_nil _ h
 rw[SE]
 exact⟨x,(bH.mp hx).1,by simp only[d_,JH];simpa using hx⟩
theorem VO(F:il K "find_ranks" "find_ranks" (top 40) f fd)(T:lB K mg)(W:ST K C)(M:Mt P w K mg base C "bit" ["self","rule"] 1 (DY C))(Ga:Fn P w K mg base "all_against" ["pairs"] 1 (zi K))(Gl:Fn P w K mg base "pairs_left" ["pairs","rule_bits"] 1 (E5 K)):cz P w K mg base hC 2 f fd ["scale","pairs"] (E6 K C):=by
 refine F.ok yC (λfF A outer s H vs Q E hr h=>?_)
 ·obtain⟨p,ra,pa,da,q,ks,ps,rfl,hS,hq,hlen,kN,kS⟩:=h
  obtain⟨dx,hp⟩:=hS.ob
  refine⟨_,ak (cH 2 yC.nd (bP ai))<|ak (cH 3 yC.nd (bL (pv 0) rfl))<|ak (F5 ee (bK x5 (bw aZ rfl T.len cP (ae (pv 3) ai)) bo (bW _))<|ak (lx (i:=4) yC.nd rfl (fN rfl) (c9 Ga hr rfl (ae (pv 1) ai)))<|ak (lx (i:=5) yC.nd rfl (fN rfl) (gh (own:=[("rule",6)]) (g:=cy 6) (tt:=oq (qk rEq (qk (Ef λi j=>.int (jH i j)) (ng C "bit" (DY C) [] E0 (cE 0) (fk (cE 6) f6)) (cE 4)) (tC (.int 0)))) (te:=cE 6)
     rfl yC.nd (cB (pv 3)) (b_ (by show i8 nRk (aB (top 40)) _ _=true;decide+kernel))
     (λs H C cl fp=>cZ 6 yC.nd)
     (λs H C cl fp=>gX (bK ic (b7 zL (dZ M hr (pv 0) (ae (pv 6) ai)) (pv 4)) bo (bW _)))
     (λs H C cl fp=>pv 6)))<|ak (eG (bK ic (bw aZ rfl T.len cP (ae (pv 5) ai)) bo (bW _)) (aD (aX QE)) cf)<|ak (eQ (gc dq kE kF gf (pv 2) (ae (pv 5) ai)))<|ak (qP (i:=3) (own:=[("rule",6)]) (g:=cy 6) (tt:=oq (qk (rIn K true) (cE 6) (cE 5))) (te:=cE 6) rfl yC.nd rfl rfl (vd rfl rfl rfl rfl) (cB (pv 3)) (b_ (by show i8 nRk (aB (top 40)) _ _=true;decide+kernel))
     (λs H C cl fp=>cZ 6 yC.nd) (λs H C cl fp=>gX (bK uW (pv 6) (pv 5) rfl)) (λs H C cl fp=>pv 6))<|aD (cH 1 yC.nd (c9 Gl hr rfl (ae (pv 1) (ae (bw (Ek rfl) rfl T.sum BZ (ae
     (gh (own:=[("rule",6)]) (g:=cy 6) (tt:=oE) (te:=ng C "bit" (DY C) [] E0 (cE 0) (fk (cE 6) f6))
      rfl yC.nd (cB (pv 5)) (b_ (by show i8 nRk (aB (top 40)) _ _=true;decide+kernel))
      (λs H C cl fp=>cZ 6 yC.nd) (λs H C cl fp=>fB) (λs H C cl fp=>dZ M hr (pv 0) (ae (pv 6) ai))) ai)) ai)))))<|aD (aX (pv 2)),?_⟩
  refine⟨bI _,λD hD=>?_⟩
  generalize hJ:upd H D (.lst [])=H1 at*
  have s1:aP H H1:=by rw[<-hJ];exact aw hD
  have BW:H1 D=some (.lst []):=by rw[<-hJ];exact ao
  refine⟨_,rfl,p,C,dx,_,_,rfl,s1 _ _ hp,W.cl,W.nR,Pc _ _ _ _,?_⟩
  have back:∀{H'},Sx [D] H1 H'->aP H H':=λ{H'}sx=>jt (H1:=H) hD (o:=.lst []) (by rw[hJ];exact sx)
  have LO:=hS.rl.len
  refine⟨λm σ H'=>∃(rq pq:aa)(r:List Nat)(Cy:List (Nat×Nat))(acc:List (List Nat))(f:Nat)(v4 v5:Option V),σ=[some (.ref p),some (.ref pq),some (.ref D),some (.ref rq),v4,v5,none]/\Sx [D] H1 H'/\fe (hide H' D) rq r/\o5 (hide H' D) pq Cy/\g_ fe H' D acc/\r.length<=f/\(∀x∈r,x∈ks)/\Cy.length<=1000000/\acc.length+r.length<=16/\(∀x∈acc,x.length<=16)/\m=r.length/\jS (di ks) ks.length ks ps=(jS (di ks) f r Cy).map (λl=>acc++l),⟨_,ra,q,ks,ps,[],ks.length,none,none,rfl,.refl,?_,?_,gm BW,aV _,λx hx=>hx,hlen,by simpa using LO,by simp,rfl,by simp⟩,?_⟩
  ·show hide H1 D ra=_
   rw[hide_ne (aF hS.rules hD)];exact s1 _ _ hS.rules
  ·exact aW dJ _ _ _ _ (oZ hD s1) hq
  ·rintro m σ H2 ⟨rq,pq,r,Cy,acc,f',v4,v5,rfl,sx,hrq,hpq,hL,hrf,hrk,ald,tF,aah,rfl,Qb⟩
   have Y':H2 rq=some (.lst (bU r)):=iL H2 D _ _ hrq
   refine⟨_,rfl,rq,_,rfl,.inl (a_.of Y'),_,_,rfl,rfl,_,rfl,?_⟩
   have er:decide ((0:Int)<((bU r).length:Nat))=decide (0<r.length):=by rw[aR,dN];omega
   refine kg er (λh1=>?_) (λh1=>?_)
   ·rw[bN]at h1
    have qh:r≠[]:=λe=>by rw[e]at h1;simp at h1
    obtain⟨f2,rfl⟩:∃f2,f'=f2+1:=⟨f'-1,by omega⟩
    rw[JG _ _ _ _ qh]at Qb
    refine⟨λgT H'=>∃m',m'<r.length/\∃(rq pq:aa)(r:List Nat)(Cy:List (Nat×Nat))(acc:List (List Nat))(f:Nat)(v4 v5:Option V),gT=[some (.ref p),some (.ref pq),some (.ref D),some (.ref rq),v4,v5,none]/\Sx [D] H1 H'/\fe (hide H' D) rq r/\o5 (hide H' D) pq Cy/\g_ fe H' D acc/\r.length<=f/\(∀x∈r,x∈ks)/\Cy.length<=1000000/\acc.length+r.length<=16/\(∀x∈acc,x.length<=16)/\m'=r.length/\jS (di ks) ks.length ks ps=(jS (di ks) f r Cy).map (λl=>acc++l),λgT H' h=>h,?_⟩
    refine⟨_,rfl,pq,Cy,rfl,aW dJ _ _ _ _ (iL H2 D) hpq,λH3 s3=>?_⟩
    have t7:=sx.then s3
    have C':=hS.same (back t7)
    obtain⟨dx3,FN⟩:=C'.ob
    refine⟨_,rfl,rq,rfl,⟨_,a_.of (s3 _ _ Y')⟩,λR hR=>?_⟩
    refine fQ hR (yz (ux hR (a_.of (s3 _ _ Y')))) (λi=>di ks (r.getD i 0)&&&dG Cy==0) (λi=>V.int (r.getD i 0:Nat)) (by rw[aR];omega) (λi x H' p6 No hi sm it hy jx=>?_) (λH4 s4 hd=>?_)
    ·obtain⟨n1,rfl,e1⟩:=c6 it
     have g1:r.getD i 0=n1:=by rw[bM,e1];rfl
     rw[g1]at hy jx
     refine⟨rfl,_,rfl,p,dx3,_,rfl,sm _ _ FN,fT _ _ _ _ dd dd dd dd,_,rfl,p,ra,pa,da,ks,n1,rfl,C'.same sm,hS.rl.lt n1 (hrk n1 (cC e1)),_,rfl,_,_,rfl,rfl,rfl,_,rfl,?_⟩
     have e:decide (V.int (jH ((pl ks n1*64:Nat):Int) ((dG Cy:Nat):Int))=V.int 0)=(di ks n1&&&dG Cy==0):=by rw[mR];exact kb _ 0
     exact kg e (λh=>⟨_,rfl,hy h⟩) jx
    generalize JI:(r.filter λx=>di ks x&&&dG Cy==0)=rank at*
    have lD:H4 R=some (.lst (bU rank)):=by
     rw[hd,aR,<-JI,<-j_ r 0 λx=>di ks x&&&dG Cy==0];simp only[bU,cg];rfl
    have afs:∀x∈rank,x∈r:=λx hx=>by rw[<-JI]at hx;exact(bH.mp hx).1
    have sI:rank.length<=r.length:=by rw[<-JI];exact dX _ _
    refine⟨_,rfl,R,_,rfl,.inl (a_.of lD),rfl,_,rfl,?_⟩
    have e0:decide (V.int (((bU rank).length:Nat):Int)=V.int 0)=rank.isEmpty:=by
     rw[aR,show decide (V.int ((rank.length:Nat):Int)=V.int 0)=(rank.length==0)from kb _ 0,k4]
    have jh:=s3.trans s4
    refine kg e0 (λh2=>?_) (λh2=>?_)
    ·rw[h2,ax rfl,Option.map_none]at Qb
     exact kN Qb H4 (back (t7.then s4))
    ·rw[h2,aq dd,Option.map_map]at Qb
     have FK:=bx ck jh hL
     obtain⟨vs,lK,WY⟩:=FK.lst
     obtain⟨vs2,ajG,_⟩:=hL.lst
     have Z8:R≠D:=λe=>by rw[e,s3 _ _ ajG]at hR;cases hR
     have hrD:rq≠D:=λe=>by unfold fe hide at hrq;rw[ax e]at hrq;cases hrq
     refine⟨_,rfl,.inl ⟨rfl,_,a_.of lK⟩,_,rfl,D,vs,_,rfl,rfl,lK,by rw[WY,c7];omega,?_⟩
     have YR:g_ fe (upd H4 D (.lst (vs++[.ref R]))) D (acc++[rank]):=je FK lK (by show hide H4 D R=_;rw[hide_ne Z8];exact lD)
     generalize Km:upd H4 D (.lst (vs++[.ref R]))=H5 at*
     have hh5:hide H5 D=hide H4 D:=by rw[<-Km];exact j4
     have ER:Sx [D] H1 H5:=by rw[<-Km];exact c8 (t7.then s4) (by simp)
     have h5r:H5 rq=some (.lst (bU r)):=by rw[<-Km,aN hrD];exact jh _ _ Y'
     have h5R:H5 R=some (.lst (bU rank)):=by rw[<-Km,aN Z8];exact lD
     have W_:o5 (hide H5 D) pq Cy:=by rw[hh5];exact aW dJ _ _ _ _ (gk D jh) hpq
     obtain⟨vs5,ach,_⟩:=YR.lst
     refine⟨_,rfl,rq,rfl,⟨_,a_.of h5r⟩,λN hN=>?_⟩
     refine fQ hN (yz (ux hN (a_.of h5r))) (λi=>!rank.contains (r.getD i 0)) (λi=>V.int (r.getD i 0:Nat)) (by rw[aR];omega) (λi x H' p6 No hi sm it hy jx=>?_) (λH6 s6 hd6=>?_)
     ·obtain⟨n1,rfl,e1⟩:=c6 it
      have g1:r.getD i 0=n1:=by rw[bM,e1];rfl
      rw[g1,<-NN]at hy jx
      refine⟨rfl,_,rfl,_,rfl,R,_,rfl,.inl (a_.of (sm _ _ h5R)),rfl,BY rank,_,rfl,?_⟩
      exact kg rfl (λh=>⟨_,rfl,hy h⟩) jx
     have abZ:H6 N=some (.lst (bU (r.filter λx=>!rank.contains x))):=by
      rw[hd6,aR,<-j_ r 0 λx=>!rank.contains x];simp only[bU,cg];rfl
     have hND:N≠D:=λe=>by rw[e,ach]at hN;cases hN
     have h6R:=s6 _ _ h5R
     have Iv:=ER.then s6
     have hS6:=hS.same (back Iv)
     obtain⟨dx6,P8⟩:=hS6.ob
     refine⟨_,rfl,_,rfl,R,rfl,⟨_,a_.of h6R⟩,λB hB=>?_⟩
     refine fQ hB (yz (ux hB (a_.of h6R))) (λ_=>true) (λi=>V.int ((di ks (rank.getD i 0):Nat):Int)) (by rw[aR];omega) (λi x H' p6 No hi sm it hy jx=>?_) (λH7 s7 hd7=>?_)
     ·obtain⟨n1,rfl,e1⟩:=c6 it
      have g1:rank.getD i 0=n1:=by rw[bM,e1];rfl
      rw[g1]at hy
      exact⟨rfl,_,rfl,p,dx6,_,rfl,sm _ _ P8,fT _ _ _ _ dd dd dd dd,_,rfl,p,ra,pa,da,ks,n1,rfl,hS6.same sm,hS.rl.lt n1 (hrk n1 (afs n1 (cC e1))),hy rfl⟩
     have aci:H7 B=some (.lst (((rank.map (di ks)).map λ(n:Nat)=>(n:Int)).map V.int)):=by
      rw[hd7,filter_true,aR,dz rank 0 λx=>V.int ((di ks x:Nat):Int),cg,cg];rfl
     refine⟨B,_,rfl,a_.of aci,?_⟩
     rw[wC]
     have s57:=s6.trans s7
     have hp7:=aW dJ _ _ _ _ (gk D s57) W_
     refine⟨pq,Cy,_,rfl,aW dJ _ _ _ _ (iL H7 D) hp7,ald,λH8 L8 s8 afu hL8=>?_⟩
     have afv:L8≠D:=λe=>by rw[e,s57 _ _ ach]at afu;cases afu
     have hDl:H8 D=some (.lst vs5):=s8 _ _ (s57 _ _ ach)
     have agI:(r.filter λx=>!rank.contains x).length<r.length:=by
      rw[<-JI]
      exact Pn (by rw[JI];intro e;rw[e]at h2;cases h2)
     refine⟨_,agI,N,L8,r.filter λx=>!rank.contains x,lG Cy (rank.map (di ks)).sum,acc++[rank],f2,some (.int (dG Cy:Nat)),some (.ref R),rfl,(Iv.then s7).then s8,?_,?_,bx ck (s57.trans s8) YR,?_,?_,?_,?_,?_,rfl,?_⟩
     ·show hide H8 D N=_
      rw[hide_ne hND];exact(s7.trans s8) _ _ abZ
     ·obtain⟨as,e1,e2⟩:=hL8
      refine⟨as,by rw[hide_ne afv];exact e1,Paired.uD e2 λx y g=>?_⟩
      show hide H8 D x=_
      have:x≠D:=λe=>by have g':H8 x=_:=g;rw[e,hDl]at g';cases g'
      rw[hide_ne this];exact g
     ·omega
     ·intro x hx;exact hrk x (bH.mp hx).1
     ·have:(lG Cy (rank.map (di ks)).sum).length<=Cy.length:=dX _ _
      omega
     ·rw[bZ,jL];omega
     ·intro x hx
      rcases d7.mp hx with h|h
      ·exact aah x h
      ·simp only[bA]at h;subst h;omega
     ·rw[Qb]
      congr 1
      funext l
      simp
   ·rw[fz]at h1
    have e:r=[]:=my.mp oo
    subst e
    rw[LN,gJ,cW]at Qb
    refine⟨_,rfl,kS H2 D acc Qb (back sx) hD (hL.at ck) ?_ aah⟩
    omega
def fu(H H':Hp):Hp:=λb=>match H b with
 |none=>H' b
 |some (.tup _)=>H' b
 |some _=>none
theorem xM(h:H b=none):fu H H' b=H' b:=by unfold fu;rw[h]
theorem VP(s:aP H H')(h:H' b=some (.tup xs)):fu H H' b=some (.tup xs):=by
 unfold fu
 cases e:H b with
 |none=>exact h
 |some o=>
  have:=s _ _ e
  rw[h]at this
  have:o=.tup xs:=(bO this).symm
  subst this
  exact h
theorem aai:aP (fu H H') H':=λb o e=>by
 unfold fu at e
 split at e
 ·exact e
 ·exact e
 ·cases e
theorem NO(s:aP H1 H2):aP (fu H H1) (fu H H2):=λb o e=>by
 unfold fu at e⊢
 split at e
 ·exact s _ _ e
 ·exact s _ _ e
 ·cases e
theorem acj(h:H D=none):fu H (upd H1 D o)=upd (fu H H1) D o:=by
 funext b
 by_cases hb:b=D
 ·subst hb;rw[xM h,ao,ao]
 ·rw[aN hb];unfold fu;rw[aN hb]
theorem Y_(h:H D=some (.lst xs)):aP (fu H H') (hide H' D):=λb o e=>by
 have hb:b≠D:=λq=>by unfold fu at e;rw[q,h]at e;cases e
 rw[hide_ne hb];exact aai _ _ e
def LP(H:Hp)(t:aa)(x:List Nat×List (Nat×Nat)):Prop:=∃a b,H t=some (.tup [.ref a,.ref b])/\fe H a x.1/\o5 H b x.2
theorem ke:Keeps LP:=λ_ _ _ _ s⟨a,b,h1,h2,h3⟩=>⟨a,b,s _ _ h1,s _ _ h2,aW dJ _ _ _ _ s h3⟩
def B5(ks:List Nat):Nat->List (List Nat×List (Nat×Nat))->List (List Nat×List (Nat×Nat))
 |0,b=>b
 |i+1,b=>(B5 ks i b).flatMap (steps ks)
theorem D0(ks:List Nat):∀(k:Nat)(b:List (List Nat×List (Nat×Nat))),B5 ks k (b.flatMap (steps ks))=B5 ks (k+1) b
 |0,b=>rfl
 |k+1,b=>by
  show(B5 ks k (b.flatMap (steps ks))).flatMap (steps ks)=(B5 ks (k+1) b).flatMap (steps ks)
  rw[D0 ks k b]
theorem zj(ks:List Nat):∀(k:Nat)(b:List (List Nat×List (Nat×Nat))),X2 ks k b=B5 ks k b
 |0,b=>rfl
 |k+1,b=>by
  show X2 ks k (b.flatMap (steps ks))=_
  rw[zj ks k,D0]
theorem xN(ks:List Nat)(x:List Nat×List (Nat×Nat)):(steps ks x).length<=ks.length:=by unfold steps;rw[aA];exact dX _ _
theorem zk{ks:List Nat}(h:ks.length<=5)(b:List (List Nat×List (Nat×Nat))):∀i,(B5 ks i b).length<=b.length*5^i
 |0=>by simp[B5]
 |i+1=>by
  have h1:=jv (steps ks) 5 (B5 ks i b) (λa _=>bV (xN ks a) h)
  have h2:=zk h b i
  show((B5 ks i b).flatMap (steps ks)).length<=_
  rw[eO,<-eZ]
  exact bV h1 (jk 5 h2)
theorem B6{ks:List Nat}{ps:List (Nat×Nat)}:∀i,∀x∈B5 ks i [([],ps)],x.1.length=i/\x.2.length<=ps.length
 |0,x,hx=>by simp[B5]at hx;subst hx;simp
 |i+1,x,hx=>by
  obtain⟨y,hy,hx⟩:=fO.mp hx
  obtain⟨h1,h2⟩:=B6 i y hy
  obtain⟨r,_,rfl⟩:=aM.mp hx
  refine⟨by simp[h1],?_⟩
  exact bV (dX _ _) h2
def LQ(K:aL)(C:aa):Sp:=λvs H Q _=>∃(p ra pa da a b:aa)(ks o:List Nat)(ps:List (Nat×Nat)),vs=[.ref p,.ref a,.ref b]/\jo C H p ra pa da ks/\fe H a o/\o5 H b ps/\o.length<=1000/\ps.length<=1000000/\∀H' r,aP H H'->ql LP (fu H H') r (steps ks (o,ps))->H r=none->Q (.ref r) H'
def nNx:List ag:=["scale","order","pairs","against","steps","rule"]
theorem Za:a0 nNx ["scale","order","pairs"] (aB (top 41)):={}
def stp(ks o:List Nat)(ps:List (Nat×Nat))(l:List Nat):List (List Nat×List (Nat×Nat)):=(l.filter λr=>!o.contains r&&(di ks r&&&dG ps==0)).map λr=>(o++[r],lG ps (di ks r))
theorem JJ(ks o:List Nat)(ps:List (Nat×Nat))(l:List Nat)(r:Nat):stp ks o ps (l++[r])=if(!o.contains r&&(di ks r&&&dG ps==0))=true then stp ks o ps l++[(o++[r],lG ps (di ks r))]else stp ks o ps l:=by
 unfold stp
 rw[jf,eU]
 by_cases h:(!o.contains r&&(di ks r&&&dG ps==0))=true
 ·rw[ax h,eK (p:=λr=>!o.contains r&&(di ks r&&&dG ps==0)) h];rfl
 ·rw[aq h,fC (p:=λr=>!o.contains r&&(di ks r&&&dG ps==0)) h];simp
theorem Zb(F:il K "next_steps" "next_steps" (top 41) f fd)(T:lB K mg)(W:ST K C)(M:Mt P w K mg base C "bit" ["self","rule"] 1 (DY C))(Ga:Fn P w K mg base "all_against" ["pairs"] 1 (zi K))(Gl:Fn P w K mg base "pairs_left" ["pairs","rule_bits"] 1 (E5 K)):cz P w K mg base hC 2 f fd ["scale","order","pairs"] (LQ K C):=by
 refine F.ok Za (λfF A outer s H vs Q E hr h=>?_)
 ·obtain⟨p,ra,pa,da,a,b,ks,o,ps,rfl,hS,ha,hb,Xk,mY,k⟩:=h
  obtain⟨dx,hp⟩:=hS.ob
  refine⟨_,ak (cH 3 Za.nd (c9 Ga hr rfl (ae (pv 2) ai)))<|ak (cH 4 Za.nd (bP ai))<|ak (fW ee rfl (cB (bL (pv 0) rfl)) (cZ 5 Za.nd)<|aD (eG (vR (bK uW (pv 5) (pv 1) rfl) (bK ic (b7 zL (dZ M hr (pv 0) (ae (pv 5) ai)) (pv 3)) bo (bW _)))
     (aD (eQ (gc dq kE kF gf (pv 4) (ae (pA (ae (b7 lz (pv 1) (bP (ae (pv 5) ai))) (ae (c9 Gl hr rfl (ae (pv 2) (ae (dZ M hr (pv 0) (ae (pv 5) ai)) ai))) ai))) ai)))) cf))<|aD (aX (pv 4)),?_⟩
  refine⟨_,rfl,b,ps,rfl,hb,λH0 s0=>?_⟩
  refine⟨bI _,λD hD0=>?_⟩
  have hD:H D=none:=s0.free hD0
  generalize hJ:upd H0 D (.lst [])=H1 at*
  have s1:aP H H1:=s0.trans (by rw[<-hJ];exact aw hD0)
  have BW:H1 D=some (.lst []):=by rw[<-hJ];exact ao
  have Kf:H ra=some (.lst (bU ks)):=hS.rules
  refine⟨_,rfl,p,C,dx,_,_,rfl,s1 _ _ hp,W.cl,W.nR,Pc _ _ _ _,ra,rfl,⟨_,a_.of (s1 _ _ Kf)⟩,?_⟩
  have back:∀{H'},Sx [D] H1 H'->aP H H':=λ{H'}sx b' o' e=>sx b' o' (s1 _ _ e) (by simp only[bA];exact aF e hD)
  have aoT:=hS.rl.len
  refine fY (ex:=[D]) (yz (λH' sx=>bE (back sx) (a_.of Kf)))
   (λi σ H'=>∃(v5:Option V),σ=[some (.ref p),some (.ref a),some (.ref b),some (.int (dG ps:Nat)),some (.ref D),v5]/\Sx [D] H1 H'/\g_ LP (fu H H') D (stp ks o ps (ks.take i)))
   ⟨none,rfl,.refl,gm (by rw[xM hD];exact BW)⟩ (λi σ H'⟨_,_,q,_⟩=>q) ?_ ?_
  ·rintro i x σ H3 H4 hi ⟨v5,rfl,sx,Pl⟩ jh it
   obtain⟨r,rfl,hr1⟩:=c6 it
   have qc:=sx.then jh
   have s4:=back qc
   have FO:=hS.same s4
   obtain⟨Y1,DK⟩:=FO.ob
   have FK:=bx ke (NO jh) Pl
   have ha4:=s4 _ _ ha
   have LG:=hS.rl.lt r (cC hr1)
   refine⟨_,rfl,_,rfl,a,_,rfl,.inl (a_.of ha4),rfl,BY o,_,rfl,?_⟩
   have fin:(!o.contains r&&(di ks r&&&dG ps==0))=false->∃(v5':Option V),[some (.ref p),some (.ref a),some (.ref b),some (.int (dG ps:Nat)),some (.ref D),some (.int (r:Int))]=[some (.ref p),some (.ref a),some (.ref b),some (.int (dG ps:Nat)),some (.ref D),v5']/\Sx [D] H1 H4/\g_ LP (fu H H4) D (stp ks o ps (ks.take (i+1))):=λh=>by
    refine⟨_,rfl,qc,?_⟩
    rw[cD hr1,JJ,aq (by rw[h];decide)];exact FK
   refine kg (b:= !o.contains r) (by show(!ZD (.int (r:Int)) (bU o))=_;rw[NN]) (λh1=>?_) (λh1=>?_)
   ·refine⟨_,rfl,p,Y1,_,rfl,DK,fT _ _ _ _ dd dd dd dd,_,rfl,p,ra,pa,da,ks,r,rfl,FO,LG,_,rfl,_,_,rfl,rfl,rfl,_,rfl,?_⟩
    have e:decide (V.int (jH ((pl ks r*64:Nat):Int) ((dG ps:Nat):Int))=V.int 0)=(di ks r&&&dG ps==0):=by rw[mR];exact kb _ 0
    refine kg e (λh2=>?_) (λh2=>fin (by rw[h1,h2];rfl))
    obtain⟨vs,lK,WY⟩:=FK.lst
    rw[xM hD]at lK
    refine⟨_,rfl,.inl ⟨rfl,_,a_.of lK⟩,?_⟩
    refine⟨_,rfl,_,rfl,by show 1<=az;decide,λl1 Kr=>?_⟩
    generalize Km:upd H4 l1 (.lst [.int (r:Int)])=H5 at*
    have s5:aP H4 H5:=by rw[<-Km];exact aw Kr
    have h5l:H5 l1=some (.lst [.int (r:Int)]):=by rw[<-Km];exact ao
    refine⟨a,l1,_,_,rfl,rfl,s5 _ _ ha4,h5l,(by rw[aR,c7];show o.length+1<=_;omega),λl2 P_=>?_⟩
    have ajH:bU o++[V.int (r:Int)]=bU (o++[r]):=by rw[fX];rfl
    rw[ajH]
    generalize Kq:upd H5 l2 (.lst (bU (o++[r])))=H6 at*
    have s6:aP H5 H6:=by rw[<-Kq];exact aw P_
    have h6l:H6 l2=some (.lst (bU (o++[r]))):=by rw[<-Kq];exact ao
    have O9:=s5.trans s6
    have YJ:=s4.trans O9
    refine⟨_,rfl,_,rfl,p,Y1,_,rfl,O9 _ _ DK,fT _ _ _ _ dd dd dd dd,_,rfl,p,ra,pa,da,ks,r,rfl,FO.same O9,LG,?_⟩
    refine⟨b,ps,_,rfl,aW dJ _ _ _ _ YJ hb,mY,λH7 l3 s7 ack Qj=>?_⟩
    refine⟨by show 2<=az;decide,λt ht=>?_⟩
    have Xb:=O9.trans s7
    generalize hH8:upd H7 t (.tup [.ref l2,.ref l3])=H8 at*
    have s8:aP H7 H8:=by rw[<-hH8];exact aw ht
    have h8t:H8 t=some (.tup [.ref l2,.ref l3]):=by rw[<-hH8];exact ao
    have s48:=Xb.trans s8
    have s08:=s4.trans s48
    have h8D:=s48 _ _ lK
    have hL8:=bx ke (NO s48) FK
    refine⟨D,vs,_,rfl,rfl,h8D,?_,some (.int (r:Int)),rfl,c8 (qc.then s48) (by simp),?_⟩
    ·have:(stp ks o ps (ks.take i)).length<=ks.length:=by
      unfold stp;rw[aA]
      have:=dX (λr=>!o.contains r&&(di ks r&&&dG ps==0)) (ks.take i)
      rw[d8]at this;omega
     rw[WY,c7];omega
    ·rw[cD hr1,JJ,ax (by rw[h1,h2];rfl),acj hD]
     refine je hL8 (by rw[xM hD];exact h8D) ?_
     have h5D:=s5 _ _ lK
     have Xa:=O9 _ _ lK
     have nl2:l2≠D:=λe=>by rw[e,h5D]at P_;cases P_
     have nl3:l3≠D:=λe=>by rw[e,Xa]at ack;cases ack
     have nt:t≠D:=λe=>by rw[e,h8D]at h8t;cases h8t
     refine⟨l2,l3,?_,?_,?_⟩
     ·rw[hide_ne nt];exact VP s08 h8t
     ·show hide (fu H H8) D l2=_
      rw[hide_ne nl2,xM ((s4.trans s5).free P_)];exact(s7.trans s8) _ _ h6l
     ·obtain⟨as,e1,e2⟩:=Qj
      refine⟨as,by rw[hide_ne nl3,xM (YJ.free ack)];exact s8 _ _ e1,Paired.uD e2 λy z g=>?_⟩
      have g8:H8 y=_:=s8 _ _ g
      show hide (fu H H8) D y=_
      rw[hide_ne (λe=>by rw[e,h8D]at g8;cases g8)];exact VP s08 g8
   ·exact fin (by rw[h1];rfl)
  ·rintro σ H3 ⟨v5,rfl,sx,Pl⟩
   rw[aR,f7]at Pl
   exact⟨_,rfl,k H3 D (back sx) (Pl.at ke) hD⟩
def B7(K:aL)(C:aa):Sp:=λvs H Q _=>∃(p ra pa da b:aa)(ks:List Nat)(ps:List (Nat×Nat)),vs=[.ref p,.ref b]/\jo C H p ra pa da ks/\ks.length<=5/\o5 H b ps/\ps.length<=1000000/\∀H' r,aP H H'->j0 H' r ((X2 ks ks.length [([],ps)]).map (·.1))->H r=none->Q (.ref r) H'
def nOr:List ag:=["scale","pairs","begun","length","longer","order","left"]
theorem CY:a0 nOr ["scale","pairs"] (aB (top 42)):={}
theorem Po(F:il K "find_orders" "find_orders" (top 42) f fd)(T:lB K mg)(W:ST K C)(Gn:Fn P w K mg base "next_steps" ["scale","order","pairs"] 2 (LQ K C)):cz P w K mg base hC 3 f fd ["scale","pairs"] (B7 K C):=by
 refine F.ok CY (λfF A outer s H vs Q E hr h=>?_)
 ·obtain⟨p,ra,pa,da,b,ks,ps,rfl,hS,h5,hb,mY,k⟩:=h
  obtain⟨dx,hp⟩:=hS.ob
  refine⟨_,ak (cH 2 CY.nd (bP (ae (pA (ae (bP ai) (ae (pv 1) ai))) ai)))<|ak (fW ee rfl (om rfl T.range (ae (bw aZ rfl T.len cP (ae (bL (pv 0) rfl) ai)) ai)) (cZ 3 CY.nd)<|ak (cH 4 CY.nd (bP ai))<|ak (fW ee rfl (cB (pv 2)) (fV rfl (bu (cZ 5 CY.nd) (bu (cZ 6 CY.nd) eI)))<|aD (eQ (gc dq kz lg jr (pv 4) (ae (c9 Gn hr rfl (ae (pv 0) (ae (pv 5) (ae (pv 6) ai)))) ai))))<|aD (cH 2 CY.nd (pv 4)))<|aD (aX (gh (own:=[("order",5),("left",6)]) (g:=tq K 2 (fi (cy 5) (fi (cy 6) tp))) (tt:=oE) (te:=cE 5) rfl CY.nd (cB (pv 2)) (b_ (by show i8 nOr (aB (top 42)) _ _=true;decide+kernel))
    (λs H C cl fp=>fV rfl (bu (cZ 5 CY.nd) (bu (cZ 6 CY.nd) eI))) (λs H C cl fp=>fB) (λs H C cl fp=>pv 5))),?_⟩
  refine⟨bI _,λl0 ZK=>?_⟩
  generalize hJ:upd H l0 (.lst [])=H1 at*
  have s1:aP H H1:=by rw[<-hJ];exact aw ZK
  have h1l:H1 l0=some (.lst []):=by rw[<-hJ];exact ao
  refine⟨_,rfl,by show 2<=az;decide,λt0 ZS=>?_⟩
  generalize w8:upd H1 t0 (.tup [.ref l0,.ref b])=H2 at*
  have s2:aP H1 H2:=by rw[<-w8];exact aw ZS
  have h2t:H2 t0=some (.tup [.ref l0,.ref b]):=by rw[<-w8];exact ao
  refine⟨by show 1<=az;decide,λb0 hb0=>?_⟩
  generalize Ab:upd H2 b0 (.lst [.ref t0])=H3 at*
  have s3:aP H2 H3:=by rw[<-Ab];exact aw hb0
  have h3b:H3 b0=some (.lst [.ref t0]):=by rw[<-Ab];exact ao
  have pP:=(s1.trans s2).trans s3
  have hB0:ql LP H3 b0 [([],ps)]:=⟨[t0],h3b,.cons ⟨l0,b,s3 _ _ h2t,(s2.trans s3) _ _ h1l,aW dJ _ _ _ _ pP hb⟩ .nil⟩
  have Kf:H ra=some (.lst (bU ks)):=hS.rules
  refine⟨_,rfl,p,C,dx,_,_,rfl,pP _ _ hp,W.cl,W.nR,Pc _ _ _ _,ra,_,rfl,.inl (a_.of (pP _ _ Kf)),((bU ks).length:Int),rfl,by omega,by rw[aR];omega,?_⟩
  rw[show(((bU ks).length:Nat):Int).toNat=ks.length by rw[aR];omega]
  refine fY (ex:=[]) rG
   (λi σ H'=>∃(bq:aa)(v3 v4 v5 v6:Option V),σ=[some (.ref p),some (.ref b),some (.ref bq),v3,v4,v5,v6]/\Sx [] H3 H'/\ql LP H' bq (B5 ks i [([],ps)]))
   ⟨b0,none,none,none,none,rfl,.refl,hB0⟩ (λi σ H'⟨_,_,_,_,_,_,q,_⟩=>q) ?_ ?_
  ·rintro i x σ H4 H5 hi ⟨bq,v3,v4,v5,v6,rfl,sx,hB⟩ P6 rfl
   have ER:=sx.then P6
   have hB5:=aW ke _ _ _ _ P6 hB
   have s05:=pP.trans (gZ ER)
   refine⟨bI _,λD hD=>?_⟩
   obtain⟨ts,Mo,Qh⟩:=hB5
   have P2:ts.length=(B5 ks i [([],ps)]).length:=bF Qh
   generalize Kq:upd H5 D (.lst [])=H6 at*
   have s6:aP H5 H6:=by rw[<-Kq];exact aw hD
   have Xa:H6 D=some (.lst []):=by rw[<-Kq];exact ao
   refine⟨_,rfl,bq,rfl,⟨_,a_.of (s6 _ _ Mo)⟩,?_⟩
   have back:∀{H'},Sx [D] H6 H'->aP H5 H':=λ{H'}sx=>jt (H1:=H5) hD (o:=.lst []) (by rw[Kq];exact sx)
   have hlen:=zk h5 [([],ps)] i
   have afx:(B5 ks i [([],ps)]).length<=3125:=by
    have:5^i<=5^5:=jX dd oo
    simp only[jL,jW]at hlen
    omega
   refine fY (ex:=[D]) (yz (λH' sx=>bE (back sx) (a_.of Mo)))
    (λj σ H'=>∃(v5 v6:Option V),σ=[some (.ref p),some (.ref b),some (.ref bq),some (.int ((0:Int)+i)),some (.ref D),v5,v6]/\Sx [D] H6 H'/\g_ LP H' D (((B5 ks i [([],ps)]).take j).flatMap (steps ks)))
    ⟨v5,v6,rfl,.refl,gm Xa⟩ (λi σ H'⟨_,_,_,q,_⟩=>q) ?_ ?_
   ·rintro j x σ H7 H8 hj ⟨v5,v6,rfl,sx7,YO⟩ Yd it
    obtain⟨t,rfl,htj⟩:=fD it
    obtain⟨st,tj,kf⟩:=cN Qh htj
    have sx8:=sx7.then Yd
    have s58:=back sx8
    obtain⟨a1,b1,c1,c2,c3⟩:=ke _ _ _ _ s58 kf
    have hL8:=bx ke Yd YO
    obtain⟨vs,lK,WY⟩:=hL8.lst
    obtain⟨z1,z2⟩:=B6 i st (cC tj)
    refine⟨t,_,rfl,lu.of c1,rfl,_,_,rfl,_,_,rfl,rfl,?_⟩
    refine⟨_,rfl,.inl ⟨rfl,_,a_.of lK⟩,_,rfl,_,rfl,_,rfl,p,ra,pa,da,a1,b1,ks,st.1,st.2,rfl,hS.same (s05.trans s58),c2,c3,by omega,by omega,λH9 r s9 hR iE=>?_⟩
    obtain⟨rs,e1,e2⟩:=id hR
    have h9r:H9 r=some (.lst (rs.map V.ref)):=aai _ _ e1
    have hL9:=bx ke s9 hL8
    have h9D:=s9 _ _ lK
    refine⟨D,r,vs,_,rfl,rfl,h9D,h9r,?_,some (.ref a1),some (.ref b1),rfl,c8 (sx8.then s9) (by simp),?_⟩
    ·have e3:rs.length=(steps ks (st.1,st.2)).length:=bF e2
     have e4:=xN ks (st.1,st.2)
     have e5:=jv (steps ks) 5 ((B5 ks i [([],ps)]).take j) (λa _=>bV (xN ks a) h5)
     rw[d8]at e5
     rw[WY,aA,e3,c7]
     have:min j (B5 ks i [([],ps)]).length*5<=3125*5:=jk 5 oo
     omega
    ·rw[kc (steps ks) tj]
     exact Bd hL9 h9D (gv ke (Y_ lK) e2)
   ·rintro σ H7 ⟨v5,v6,rfl,sx7,YO⟩
    rw[aA,P2,f7]at YO
    exact⟨_,rfl,D,some (.int ((0:Int)+i)),some (.ref D),v5,v6,rfl,ER.then (back sx7),YO.at ke⟩
  ·rintro σ H4 ⟨bq,v3,v4,v5,v6,rfl,sx,ts,Mo,Qh⟩
   have P2:ts.length=(B5 ks ks.length [([],ps)]).length:=bF Qh
   have hlen:=zk h5 [([],ps)] ks.length
   have afx:(B5 ks ks.length [([],ps)]).length<=3125:=by
    have:5^ks.length<=5^5:=jX dd oo
    simp only[jL,jW]at hlen
    omega
   have Vp:=pP.trans (gZ sx)
   refine⟨_,rfl,bq,rfl,⟨_,a_.of Mo⟩,λD hD=>?_⟩
   refine kq ck hD (yz (ux hD (a_.of Mo))) (λ_=>true) (λi=>((B5 ks ks.length [([],ps)]).getD i ([],[])).1) (by rw[aA,P2];omega) (λi x H' p6 No hi sm hDs it hy jx=>?_) (λH5 s5 hL=>?_)
   ·obtain⟨t,rfl,htj⟩:=fD it
    obtain⟨st,tj,kf⟩:=cN Qh htj
    obtain⟨a1,b1,c1,c2,c3⟩:=kf
    have g:(B5 ks ks.length [([],ps)]).getD i ([],[])=st:=by rw[bM,tj];rfl
    rw[g]at hy
    refine⟨t,_,rfl,lu.of (sm _ _ c1),rfl,_,_,rfl,_,_,rfl,rfl,rfl,_,rfl,hy rfl H' a1 (λ_ _ h=>h) ?_⟩
    show hide H' D a1=_
    rw[hide_ne (aF c2 hD)];exact sm _ _ c2
   ·rw[filter_true,aA,P2]at hL
    refine k H5 D (Vp.trans s5) ?_ (Vp.free hD)
    rw[zj,<-dz (B5 ks ks.length [([],ps)]) ([],[]) (·.1)]
    exact hL.at ck
theorem JK(c:Nat):(rJ c).length<=c+1:=by
 unfold rJ
 have:=dX (λx=>decide (x<=Bj)&&decide (c-x<=Bj)) (aE (c+1))
 rw[e_]at this
 first|exact this|(refine bV (dX _ _) ?_;rw[e_];exact aV _)
theorem wI(c:Nat):∀R:List (List Nat),(between R c).length<=(c+1)*R.length
 |[]=>by simp[between]
 |r::R=>by
  have ih:=wI c R
  have h:=JK c
  unfold between at ih⊢
  rw[eS,bZ,aA,aS,iu,iA]
  omega
theorem Pp(gs:List Nat):∀R:List (List Nat),(gs.foldl between R).length<=(gs.map (·+1)).foldr (·*·) 1*R.length:=by
 induction gs with
 |nil=>intro R;simp
 |cons g gs ih=>
  intro R
  rw[fK,bb,List.foldr_cons]
  refine bV (ih _) (bV (TN _ (wI g R)) (kO ?_))
  rw[eY (g+1) ((gs.map (·+1)).foldr (·*·) 1),eZ]
theorem afy:∀a,a<6->∀b,b<6->∀c,c<6->∀d,d<6->a+b+c+d<=5->(a+1)*((b+1)*((c+1)*((d+1)*1)))<=24:=by decide+kernel
theorem D8:∀(w:br)(i:Nat),(cA i w).Pairwise (·<·)/\∀v∈cA i w,i<=v/\v<i+w.length
 |[],i=>⟨By,by simp[cA]⟩
 |x::w,i=>by
  obtain⟨h1,h2⟩:=D8 w (i+1)
  have hl:(x::w:List vQ).length=w.length+1:=rfl
  have PR:f_ (x::w)=f_ w+1:=hl
  unfold cA
  split
  ·refine⟨jP.mpr ⟨λv hv=>by have:=h2 v hv;omega,h1⟩,λv hv=>?_⟩
   rw[PR]
   rcases aY.mp hv with rfl|hv
   ·exact⟨aV _,by omega⟩
   ·have:=h2 v hv
    exact⟨by omega,by omega⟩
  ·refine⟨h1,λv hv=>?_⟩
   have:=h2 v hv
   rw[PR]
   exact⟨by omega,by omega⟩
theorem wJ{w:br}(hok:dn w=true):(ow w).length<=7200:=by
 obtain⟨hl,lK,lH⟩:=bR hok
 rw[U_]
 have Qa:(vp w).length=bc w:=cY w 0
 by_cases h5:bc w=5
 ·have hm:=(mP _ lK lH).2
  obtain⟨so,bd⟩:=D8 w 0
  have hs:(dk w).length<=24:=by
   rcases hq:vp w with _|⟨v0,_|⟨v1,_|⟨v2,_|⟨v3,_|⟨v4,r⟩⟩⟩⟩⟩
   all_goals rw[hq]at Qa
   all_goals try(simp at Qa;omega)
   have hr:r=[]:=my.mp (by simp at Qa;omega)
   subst hr
   rw[show cA 0 w=[v0,v1,v2,v3,v4]from hq]at so bd
   have b4:=(bd v4 (by simp)).2
   simp only[jP,aY,iw,gE]at so
   have c1:=so.1 v1 (by simp)
   have c2:=so.2.1 v2 (by simp)
   have c3:=so.2.2.1 v3 (by simp)
   have c4:=so.2.2.2.1 v4 (by simp)
   rw[pC hq]
   split
   ·rw[aA]
    refine bV (Pp _ _) ?_
    show((v1-v0-1+1)*((v2-v1-1+1)*((v3-v2-1+1)*((v4-v3-1+1)*1))))*1<=24
    rw[iA]
    exact afy _ oo _ oo _ oo _ oo oo
   ·simp
  exact bV (BU hs hm) dd
 ·have h4:bc w<=4:=by omega
  have hm:(MR (bc w)).length<=88:=by
   have:∀n,1<=n->n<=4->(MR n).length<=88:=by
    intro n h1 hn
    have:n=1\/n=2\/n=3\/n=4:=by omega
    rcases this with rfl|rfl|rfl|rfl<;>decide+kernel
   exact this _ lK h4
  have hs:(dk w).length<=64:=by
   rcases hq:vp w with _|⟨v0,vr⟩
   ·rw[hq]at Qa;simp at Qa;omega
   ·rw[hq,aS]at Qa
    rw[pC hq]
    split
    ·rw[aA]
     have h:=(vU (mW (v0::vr)) [[v0]] 1 (by simp)).1
     have:4^(mW (v0::vr)).length<=4^3:=jX dd (by rw[o4,aS];omega)
     simp only[jL,iA]at h
     omega
    ·simp
  exact bV (BU hs hm) dd
theorem jq{w:br}{Q:aa->Hp->Prop}{E:XK}(hw:fE H a w)(hok:dn w=true)(k:∀H' p,aP H H'->H p=none->mO C H' p w->Q p H'):
  ∀x dx,H x=none->H dx=none->dx≠x->j9 C [.ref x,.ref a] (upd (upd H dx (.own x)) x (.ins C dx [])) (λv H2=>v=.non/\Q x H2) E:=by
 intro x dx hx WV qh
 refine⟨x,dx,a,w,rfl,ao,?_,hok,λH' sx hW=>⟨rfl,k H' x ?_ hx hW⟩⟩
 ·rw[j4]
  exact aW bJ _ _ _ _ (oZ hx (aw WV)) hw
 ·intro b o e
  have WX:b≠x:=aF e hx
  have hbd:b≠dx:=aF e WV
  exact sx b o (by rw[aN WX,aN hbd];exact e) (by simp only[bA];exact WX)
def VQ(K:aL):Sp:=λvs H Q _=>∃(q:aa)(r:List Nat),vs=[.ref q]/\a_ K H q (bU r)/\r.length<=60/\Q (.bl (B8 r)) H
theorem ajK:a0 ["rules"] ["rules"] (aB (top 65)):={}
theorem NP(r:List Nat):r.eraseDups.length<=r.length:=by
 have:∀(n:Nat)(r:List Nat),r.length<=n->r.eraseDups.length<=r.length:=by
  intro n
  induction n with
  |zero=>intro r h;have:r=[]:=my.mp oo;subst this;simp
  |succ n ih=>
   intro r h
   cases r with
   |nil=>simp
   |cons a r=>
    rw[IZ,aS,aS]
    have h2:=dX (λb=>!b==a) r
    have:=ih (r.filter λb=>!b==a) (by rw[aS]at h;omega)
    omega
 exact this _ r (aV _)
theorem acm(F:il K "are_rules" "are_rules" (top 65) f fd)(T:lB K mg):cz P w K mg base hC 1 f fd ["rules"] (VQ K):=by
 refine F.ok ajK (λfF A outer s H vs Q E hr h=>?_)
 ·obtain⟨q,r,rfl,hq,hl,k⟩:=h
  refine⟨_,ak (eG (K9 (bK ic (bw aZ rfl T.len cP (ae (pv 0) ai)) bo (bW _)) (bK Q0 (Lk rfl T.len rfl T.set rfl (pv 0)) (bw aZ rfl T.len cP (ae (pv 0) ai)) (bW _))) (aD (aX x4)) cf)<|aD (aX (gU Q0 (bw (Rw rfl) rfl T.max Vt (ae (pv 0) ai)) (eC T.rules rfl) (bW _))),?_⟩
  unfold B8 at k
  refine⟨_,rfl,q,_,rfl,.inl hq,rfl,_,rfl,?_⟩
  have e0:decide (V.int (((bU r).length:Nat):Int)=V.int 0)=r.isEmpty:=by rw[aR,show decide (V.int ((r.length:Nat):Int)=V.int 0)=(r.length==0)from kb _ 0,k4]
  refine kg e0 (λh1=>?_) (λh1=>?_)
  ·rw[h1]at k;exact k
  ·rw[h1]at k
   refine⟨_,rfl,q,r,rfl,hq,hl,_,rfl,q,_,rfl,.inl hq,_,_,rfl,rfl,_,rfl,?_⟩
   have e1:decide (((r.eraseDups.length:Nat):Int)<((bU r).length:Nat))= !decide (r.eraseDups.length=r.length):=by
    rw[aR,<-nZ,dN]
    have:=NP r;omega
   refine kg e1 (λh2=>?_) (λh2=>?_)
   ·rw[d_]at h2
    rw[h2,uY,uY]at k;exact k
   ·rw[jg]at h2
    rw[h2,Sy]at k
    have qh:r≠[]:=λe=>by rw[e]at h1;cases h1
    have ZQ:0<r.length:=by cases r with|nil=>exact absurd rfl qh|cons=>simp
    refine⟨_,rfl,q,r.map (λ(n:Nat)=>(n:Int)),rfl,by rw[<-BX];exact hq,by rw[aA];exact ZQ,λmx hmx hle=>?_⟩
    refine⟨_,_,rfl,rfl,?_⟩
    have e2:decide (mx<16)=(!false&&r.all λk=>decide (k<Sw63.RULES)):=by
     obtain⟨a,ha,rfl⟩:=aM.mp hmx
     rw[rH,fv,cV,bN,c_]
     constructor
     ·intro h y hy
      have:=hle (y:Int) (aM.mpr ⟨y,hy,rfl⟩)
      rw[bN];show y<16;omega
     ·intro h
      have:=h a ha
      rw[bN]at this
      have:a<16:=this
      omega
    show Q (.bl (decide (mx<16))) H
    rw[e2];exact k
abbrev lsd(rows:List (List Nat)):List Nat:=rows.length::rows.flatMap λr=>r.length::r
def mS(K:aL):Sp:=λvs H Q _=>∃(q:aa)(rows:List (List Nat)),vs=[.ref q]/\j0 H q rows/\(lsd rows).length<=8000000/\∀H' r,aP H H'->H r=none->fe H' r (lsd rows)->Q (.ref r) H'
theorem acn:a0 ["rows","answer","row"] ["rows"] (aB (top 66)):={}
theorem Pq(F:il K "listed" "listed" (top 66) f fd)(T:lB K mg):cz P w K mg base hC 1 f fd ["rows"] (mS K):=by
 refine F.ok acn (λfF A outer s H vs Q E hr h=>?_)
 ·obtain⟨q,rows,rfl,⟨rs,hq,hp⟩,hl,k⟩:=h
  have sI:rs.length=rows.length:=bF hp
  refine⟨_,ak (cH 1 acn.nd (bP (ae (bw aZ rfl T.len cP (ae (pv 0) ai)) ai)))<|ak (fW ee rfl (cB (pv 0)) (cZ 2 acn.nd)<|ak (eQ (gc dq kE kF gf (pv 1) (ae (bw aZ rfl T.len cP (ae (pv 2) ai)) ai)))<|aD (eQ (gc dq kz lg jr (pv 1) (ae (pv 2) ai))))<|aD (aX (pv 1)),?_⟩
  refine⟨_,rfl,q,_,rfl,.inl (a_.of hq),by show 1<=az;decide,λD hD=>?_⟩
  generalize hJ:upd H D (.lst [V.int (((rs.map V.ref).length:Nat):Int)])=H1 at*
  have s1:aP H H1:=by rw[<-hJ];exact aw hD
  have BW:H1 D=some (.lst (bU [rows.length])):=by rw[<-hJ,ao,aA,sI];rfl
  refine⟨_,rfl,q,rfl,⟨_,a_.of (s1 _ _ hq)⟩,?_⟩
  have back:∀{H'},Sx [D] H1 H'->aP H H':=λ{H'}sx b' o' e=>sx b' o' (s1 _ _ e) (by simp only[bA];exact aF e hD)
  refine fY (ex:=[D]) (yz (λH' sx=>bE (back sx) (a_.of hq)))
   (λi σ H'=>∃(v2:Option V),σ=[some (.ref q),some (.ref D),v2]/\Sx [D] H1 H'/\H' D=some (.lst (bU (rows.length::(rows.take i).flatMap λr=>r.length::r))))
   ⟨none,rfl,.refl,BW⟩ (λi σ H'⟨_,_,q,_⟩=>q) ?_ ?_
  ·rintro i x σ H3 H4 hi ⟨v2,rfl,sx,Lz⟩ jh it
   obtain⟨a,rfl,ha⟩:=fD it
   obtain⟨r,vT,kf⟩:=cN hp ha
   have qc:=sx.then jh
   have DW:=jh _ _ Lz
   have Y8:H4 a=some (.lst (bU r)):=back qc _ _ kf
   have haD:a≠D:=aF kf hD
   have hlen:(rows.length::(rows.take i).flatMap λr=>r.length::r).length+(r.length+1)<=8000000:=by
    have e:=pU (λr:List Nat=>r.length::r) vT
    have:(lsd rows).length=(rows.length::(rows.take i).flatMap λr=>r.length::r).length+((r.length::r).length+((rows.drop (i+1)).flatMap λr=>r.length::r).length):=by
     show(rows.length::rows.flatMap _).length=_
     rw[e];simp only[aS,bZ];omega
    simp only[aS]at this hl⊢
    omega
   refine⟨_,rfl,.inl ⟨rfl,_,a_.of DW⟩,_,rfl,a,_,rfl,.inl (a_.of Y8),D,_,_,rfl,rfl,DW,by rw[aR,c7];omega,?_⟩
   refine⟨_,rfl,.inl ⟨rfl,_,a_.of ao⟩,_,rfl,D,a,_,_,rfl,rfl,ao,by rw[aN haD];exact Y8,by rw[bZ,aR,aR,c7];simp only[aS,qR]at hlen⊢;omega,some (.ref a),rfl,c8 (c8 qc (by simp)) (by simp),?_⟩
   rw[ao,kc (λr:List Nat=>r.length::r) vT]
   simp only[bU,bb,eU,aA,i9,gz,jM]
  ·rintro σ H3 ⟨v2,rfl,sx,Lz⟩
   rw[aA,sI,f7]at Lz
   exact⟨_,rfl,k H3 D (back sx) hD Lz⟩
abbrev qm(bs:List (br×List Nat)):sk:=bs.map λb=>(b.1,bh b.2)
def ph(K:aL):Sp:=λvs H Q _=>∃(q:aa)(bs:List (br×List Nat)),vs=[.ref q]/\EX H q bs/\bs.length<=60/\(∀b∈bs,b.1.length<=60)/\∀H',aP H H'->Q (.int (dt (qm bs))) H'
theorem LR:a0 ["told","sounds","row"] ["told"] (aB (top 67)):={}
theorem VR(l:List α)(d:α)(f:α->Bool):((aE l.length).map λi=>V.bl (f (l.getD i d)))=((aE l.length).map λi=>f (l.getD i d)).map V.bl:=by rw[cg];rfl
theorem Pr(F:il K "told_refusal" "told_refusal" (top 67) f fd)(T:lB K mg)(Gw:Fn P w K mg base "is_word" ["sounds"] 2 mI)(Mk:Kp P w K mg base CW "Ways" ["self","sounds"] 3 (j9 CW))(Mh:Mt P w K mg base CW "has_row" ["self","row"] 3 (ND K CW)):cz P w K mg base hC 5 f fd ["told"] (ph K):=by
 refine F.ok LR (λfF A outer s H vs Q E hr h=>?_)
 ·obtain⟨q,bs,rfl,⟨ts,hq,hp⟩,hl,Xm,k⟩:=h
  have P2:ts.length=bs.length:=bF hp
  refine⟨_,ak (eG (K9 (bK x5 (bw aZ rfl T.len cP (ae (pv 0) ai)) (eC T.TB rfl) (bW _)) (nJ (jC (bw (KD rfl) rfl T.all Iq (ae
     (gh (own:=[("sounds",1),("row",2)]) (g:=tq K 2 (fi (cy 1) (fi (cy 2) tp))) (tt:=oE) (te:=Ge mI [] E0 (fk (cE 1) f6))
      rfl LR.nd (cB (pv 0)) (b_ (by show i8 ["told","sounds","row"] (aB (top 67)) _ _=true;decide+kernel))
      (λs H C cl fp=>fV rfl (bu (cZ 1 LR.nd) (bu (cZ 2 LR.nd) eI)))
      (λs H C cl fp=>fB) (λs H C cl fp=>c9 Gw (hr.mono dd) rfl (ae (pv 1) ai))) ai))))) (aD (aX (eC T.o3 rfl))) cf)<|ak (eG (nJ (jC (bw (KD rfl) rfl T.all Iq (ae
     (gh (own:=[("sounds",1),("row",2)]) (g:=tq K 2 (fi (cy 1) (fi (cy 2) tp))) (tt:=oE) (te:=ng CW "has_row" (ND K CW) [] E0 (Gg CW (j9 CW) [] E0 (fk (cE 1) f6)) (fk (cE 2) f6))
      rfl LR.nd (cB (pv 0)) (b_ (by show i8 ["told","sounds","row"] (aB (top 67)) _ _=true;decide+kernel))
      (λs H C cl fp=>fV rfl (bu (cZ 1 LR.nd) (bu (cZ 2 LR.nd) eI)))
      (λs H C cl fp=>fB) (λs H C cl fp=>dZ Mh (hr.mono dd) (lC Mk hr rfl (ae (pv 1) ai)) (ae (pv 2) ai))) ai)))) (aD (aX (eC T.aeF rfl))) cf)<|aD (aX bo),?_⟩
  refine⟨_,rfl,q,_,rfl,.inl (a_.of hq),_,_,rfl,rfl,_,rfl,?_⟩
  have N6:∀p:br×fS->Bool,(qm bs).all p=bs.all λb=>p (b.1,bh b.2):=λp=>by rw[u9];rfl
  have XT:(qm bs).length=bs.length:=aA _
  unfold dt at k
  rw[XT,N6,N6]at k
  have e0:decide (((10:Int))<((ts.map V.ref).length:Nat))= !decide (bs.length<=Sw63.TOLD):=by
   rw[aA,P2,<-nZ,dN];show(10:Int)<_↔¬bs.length<=10;omega
  refine kg e0 (λh1=>?_) (λh1=>?_)
  ·rw[d_]at h1
   rw[h1]at k
   exact k H λ_ _ h=>h
  rw[jg]at h1
  rw[h1,fv]at k
  refine⟨_,rfl,q,rfl,⟨_,a_.of hq⟩,λD hD=>?_⟩
  refine E3 hD (yz (ux hD (a_.of hq))) (λ_=>true) (λi=>V.bl (dn (bs.getD i ([],[])).1)) (by rw[aA,P2];omega) (λi x H' p6 No hi sm it hy jx=>?_) (λH1 s1 hd=>?_)
  ·obtain⟨t,rfl,hti⟩:=fD it
   obtain⟨b,hbi,kf⟩:=cN hp hti
   obtain⟨a1,q1,c1,c2,c3⟩:=gQ _ _ _ _ sm kf
   have g:bs.getD i ([],[])=b:=by rw[bM,hbi];rfl
   rw[g]at hy
   exact⟨t,_,rfl,lu.of c1,rfl,_,_,rfl,_,_,rfl,rfl,rfl,_,rfl,a1,b.1,rfl,c2,Xm b (cC hbi),λH2 s2=>hy rfl H2 s2⟩
  rw[filter_true,aA,P2,VR bs ([],[]) λb=>dn b.1]at hd
  refine⟨D,_,rfl,a_.of hd,_,rfl,?_⟩
  rw[EE bs ([],[]) λb=>dn b.1]
  refine kg rfl (λh2=>?_) (λh2=>?_)
  ·rw[d_]at h2
   rw[h2]at k
   exact k H1 s1
  rw[jg]at h2
  rw[h2,aq dd]at k
  refine⟨_,rfl,q,rfl,⟨_,a_.of (s1 _ _ hq)⟩,λD2 Ql=>?_⟩
  refine E3 Ql (yz (ux Ql (a_.of (s1 _ _ hq)))) (λ_=>true) (λi=>V.bl ((sr (bs.getD i ([],[])).1).contains (bh (bs.getD i ([],[])).2))) (by rw[aA,P2];omega) (λi x H' p6 No hi sm it hy jx=>?_) (λH2 s2 hd=>?_)
  ·obtain⟨t,rfl,hti⟩:=fD it
   obtain⟨b,hbi,kf⟩:=cN hp hti
   obtain⟨a1,q1,c1,c2,c3⟩:=gQ _ _ _ _ (s1.trans sm) kf
   have g:bs.getD i ([],[])=b:=by rw[bM,hbi];rfl
   rw[g]at hy
   have hok:dn b.1=true:=c_.mp h2 b (cC hbi)
   refine⟨t,_,rfl,lu.of c1,rfl,_,_,rfl,_,_,rfl,rfl,rfl,_,rfl,?_⟩
   dsimp only[f6]
   refine jq c2 hok λH3 y s3 Qg hW=>?_
   obtain⟨E4,wa,wsy,wm,Kg,_⟩:=id hW
   refine⟨y,E4,_,rfl,Kg,iM _ _ _ dd dd dd,_,rfl,y,q1,b.1,b.2,rfl,hW,hok,a_.of (s3 _ _ c3),λH4 s4=>?_⟩
   have e:decide (bh b.2∈ow b.1)=(sr b.1).contains (bh b.2):=by
    rw[cV,bN,jR];exact(iJ b.1).mem_iff
   rw[e]
   exact hy rfl H4 (s3.trans s4)
  rw[filter_true,aA,P2,VR bs ([],[]) λb=>(sr b.1).contains (bh b.2)]at hd
  refine⟨D2,_,rfl,a_.of hd,_,rfl,?_⟩
  rw[EE bs ([],[]) λb=>(sr b.1).contains (bh b.2)]
  refine kg rfl (λh3=>?_) (λh3=>?_)
  ·rw[d_]at h3
   rw[h3]at k
   exact k H2 (s1.trans s2)
  ·rw[jg]at h3
   rw[h3]at k
   exact k H2 (s1.trans s2)
structure Fr (p:aa) (H H':Hp):Prop where
 keep:∀b o,H b=some o->b≠p->(∀bG,o≠.dT bG)->H' b=some o
 dom:∀b,H' b=none->H b=none
theorem Fr.refl{p:aa}:Fr p H H:=⟨λ_ _ h _ _=>h,λ_ h=>h⟩
theorem Fr.trans{p:aa}(a:Fr p H H1)(b:Fr p H1 H2):Fr p H H2:=⟨λc o h n t=>b.keep c o (a.keep c o h n t) n t,λc h=>a.dom c (b.dom c h)⟩
theorem Fr.same{p:aa}(s:aP H H'):Fr p H H':=⟨λb o h _ _=>s b o h,λb h=>s.free h⟩
theorem Fr.sx{p:aa}{o':HO}(h:H da=some (.dT bG))(h':H' da=some o')(s:Sx [da] H H'):Fr p H H':=⟨λb o e n t=>B2 h s b o e t,λb hb=>by
 cases e:H b with
 |none=>rfl
 |some o=>
  by_cases q:b=da
  ·subst q;rw[h']at hb;cases hb
  ·have:=s b o e (by simp only[bA];exact q)
   rw[hb]at this;cases this⟩
theorem Fr.upd{p:aa}{H H1:Hp}{o:HO}(a:Fr p H H1):Fr p H (upd H1 p o):=⟨λb u e n t=>by rw[aN n];exact a.keep b u e n t,λb hb=>by
 by_cases q:b=p
 ·subst q;rw[ao]at hb;cases hb
 ·rw[aN q]at hb;exact a.dom b hb⟩
def gr(G H H':Hp):Hp:=λb=>if((H b).isSome&&(G b).isNone)=true then none else H' b
theorem mT(h:H b=none):gr G H H' b=H' b:=by unfold gr;rw[h];rfl
theorem ki(h:G b=some o):gr G H H' b=H' b:=by unfold gr;rw[h];simp
theorem iD:aP (gr G H H') H':=λb o e=>by
 unfold gr at e
 split at e
 ·cases e
 ·exact e
theorem nF(h:gr G H H' b=some o):H b=none\/∃u,G b=some u:=by
 unfold gr at h
 cases e:H b with
 |none=>exact .inl rfl
 |some u=>
  cases e2:G b with
  |none=>rw[e,e2]at h;simp at h
  |some v=>exact .inr ⟨v,rfl⟩
theorem tQ(s:aP H1 H2):aP (gr G H H1) (gr G H H2):=λb o e=>by
 have h:=iD _ _ e
 rcases nF e with q|⟨u,q⟩
 ·rw[mT q];exact s _ _ h
 ·rw[ki q];exact s _ _ h
theorem zl(d:∀b,H1 b=none->H b=none):aP (gr G H1 H2) (gr G H H2):=λb o e=>by
 have h:=iD _ _ e
 rcases nF e with q|⟨u,q⟩
 ·rw[mT (d b q)];exact h
 ·rw[ki q];exact h
theorem aal(d:∀b,H1 b=none->H b=none):aP (gr (gr G H H1) H1 H2) (gr G H H2):=λb o e=>by
 have h:=iD _ _ e
 rcases nF e with q|⟨u,q⟩
 ·rw[mT (d b q)];exact h
 ·rcases nF q with q|⟨v,q⟩
  ·rw[mT q];exact h
  ·rw[ki q];exact h
theorem tR(g:aP G H)(s:aP H H'):aP G (gr G H H'):=λb o e=>by rw[ki e];exact s _ _ (g _ _ e)
theorem aam{sp:aa}(hG:jo C G sp ra pa da ks)(g:aP G H)(h:jo C H' sp ra pa da ks)(kn:B3 H H' da):jo C (gr G H H') sp ra pa da ks:=by
 obtain⟨⟨dx0,a1⟩,a2,a3,⟨VL,a4,a5⟩,a6⟩:=hG
 obtain⟨⟨dx,b1⟩,b2,b3,⟨bG,b4,b5⟩,b6⟩:=h
 refine⟨⟨dx,by rw[ki a1];exact b1⟩,?_,by rw[ki a3];exact b3,⟨bG,by rw[ki a4];exact b4,b5.nd,b5.short,λhv v e=>?_⟩,b6⟩
 ·show gr G H H' ra=_
  rw[ki a2];exact b2
 ·obtain⟨la,e1,e2⟩:=b5.ok hv v e
  refine⟨la,e1,?_⟩
  rcases kn bG b4 hv v e with⟨kvs',q1,q2⟩|⟨la',q1,q2⟩
  ·rw[g _ _ a4]at q1
   have e':VL=kvs':=by injection q1 with q1;injection q1
   rw[<-e']at q2
   obtain⟨ajL,r1,r2⟩:=a5.ok hv v q2
   have:ajL=la:=by rw[r1]at e1;exact V.ref.inj e1
   rw[<-this,ki r2,this];exact e2
  ·have:la'=la:=by rw[q1]at e1;exact V.ref.inj e1
   rw[<-this,mT q2,this];exact e2
structure DT (K:aL) (C:aa):Prop where
 cl:Cls K C
 nC:dQ K C "codas"
 nS:dQ K C "scale"
def df(c:Int)(sp:aa):List (ag×V):=[("codas",.int c),("scale",.ref sp)]
theorem VS(c:Int)(sp:aa):(df c sp).lookup ("codas":ag)=some (V.int c):=rfl
theorem yD(c:Int)(sp:aa):(df c sp).lookup ("scale":ag)=some (V.ref sp):=rfl
theorem jl(c:Int)(sp:aa)(h:(x==("codas":ag))=false)(h2:(x==("scale":ag))=false):(df c sp).lookup x=none:=by
 unfold df
 rw[fM,h,fM,h2];rfl
theorem VT(c c':Int)(sp:aa):eV "codas" (.int c') (df c sp)=df c' sp:=by
 show(if("codas":ag)="codas" then _ else _)=_
 rw[ax rfl];rfl
theorem VU(c:Int)(sp sp':aa):eV "scale" (.ref sp') (df c sp)=df c sp':=by
 show(if("codas":ag)="scale" then _ else _)=_
 rw[aq dd];rfl
theorem afz(sp:aa):eV "scale" (.ref sp) (eV "codas" (.int 0) [])=df 0 sp:=by
 show(if("codas":ag)="scale" then _ else _)=_
 rw[aq dd];rfl
structure CZ (CS CD:aa) (H:Hp) (p sp ra pa da:aa) (st:dB):Prop where
 ob:∃dx,H p=some (.ins CD dx (df (cI st.codas) sp))
 sc:jo CS H sp ra pa da st.rules
def Dk(CS CD:aa)(H:Hp)(p:aa)(st:dB):Prop:=∃sp ra pa da,CZ CS CD H p sp ra pa da st
theorem CZ.same{CS CD:aa}{H H':Hp}{p sp ra pa da:aa}{st:dB}(h:CZ CS CD H p sp ra pa da st)(s:aP H H'):CZ CS CD H' p sp ra pa da st:=by
 obtain⟨⟨dx,h1⟩,h2⟩:=h
 exact⟨⟨dx,s _ _ h1⟩,h2.same s⟩
theorem Dk.same{CS CD:aa}{H H':Hp}{p:aa}{st:dB}(h:Dk CS CD H p st)(s:aP H H'):Dk CS CD H' p st:=by
 obtain⟨sp,ra,pa,da,h⟩:=h
 exact⟨sp,ra,pa,da,h.same s⟩
def mU(CS CD:aa)(G H:Hp)(p:aa)(st:dB)(a:JL)(Q:VK):Prop:=∀H' r,Fr p H H'->Dk CS CD (gr G H H') p st->H r=none->H' r=some (.lst (sZ (ll a)))->Q (.ref r) H'
theorem mU.quiet{p r:aa}{st:dB}{a:JL}{Q:VK}(h:mU CS CD G H p st a Q)(g:aP G H)(hd:Dk CS CD G p st)(s:aP H H')(hr:H r=none)(e:H' r=some (.lst (sZ (ll a)))):Q (.ref r) H':=
 h H' r (.same s) (hd.same (tR g s)) hr e
theorem pj{H3 H5:Hp}{p sp:aa}{st:dB}(hd:CZ CS CD G p sp ra pa da st)(g:aP G H)(s2:aP H H2)(hS:jo CS H3 sp ra pa da st.rules)(sx:Sx [da] H2 H3)(kn:B3 H2 H3 da)(s5:aP H3 H5):
  Fr p H H5/\Dk CS CD (gr G H H5) p st:=by
 obtain⟨⟨dx,hp⟩,hG⟩:=hd
 have hG':=hG
 obtain⟨_,_,_,⟨VL,a4,_⟩,_⟩:=hG
 obtain⟨_,_,_,⟨bG,b4,_⟩,_⟩:=id hS
 have uA:=s2 _ _ (g _ _ a4)
 refine⟨(Fr.same s2).trans ((Fr.sx uA b4 sx).trans (Fr.same s5)),sp,ra,pa,da,⟨dx,?_⟩,?_⟩
 ·rw[ki hp]
  exact s5 _ _ ((B2 uA sx).ins (s2 _ _ (g _ _ hp)))
 ·exact(aam hG' (g.trans s2) hS kn).same (λb o e=>tQ s5 _ _ (zl (λb h=>s2.free h) _ _ e))
theorem aco(v:Int):sZ (ll (fU v))=[V.int v]:=rfl
theorem su(R:List (List Nat)):sZ (ll ⟨(R.length:Nat),R⟩)=bU (lsd R):=by
 unfold ll lsd
 simp only[bU,sZ,bb,vk,cg]
 rfl
abbrev sD(i:Nat):bj:=inClass (top 68) i
def zm(CS CD:aa):Sp:=λvs H Q _=>∃(p dx:aa),vs=[.ref p]/\H p=some (.ins CD dx [])/\∀H',Sx [p] H H'->Dk CS CD H' p rA->Q .non H'
theorem ajM:a0 ["self"] ["self"] (aB (sD 0)):={}
theorem D9:Rules []:=⟨l_,λ_ h=>by simp at h⟩
theorem VV(F:il K "__init__" "Desk.__init__" (sD 0) f fd)(W:DT K CD)(Mk:Kp P w K mg base CS "Scale" ["self","rules"] 1 (tf K CS)):cz P w K mg base hC 3 f fd ["self"] (zm CS CD):=by
 refine F.ok ajM (λfF A outer s H vs Q E hr h=>?_)
 ·obtain⟨p,dx,rfl,hp,k⟩:=h
  refine⟨_,ak (iQ (pv 0) bo rfl)<|aD (iQ (pv 0) (lC Mk hr rfl (ae (bP ai) ai)) rfl),?_⟩
  refine⟨_,rfl,p,CD,dx,[],rfl,hp,W.cl,W.nC,dd,?_⟩
  generalize hJ:upd H p (.ins CD dx (eV "codas" (.int 0) []))=H1 at*
  have DU:H1 p=some (.ins CD dx (eV "codas" (.int 0) [])):=by rw[<-hJ];exact ao
  have s1:Sx [p] H H1:=by rw[<-hJ];exact c8 .refl (by simp)
  refine⟨bI _,λl hl=>?_⟩
  generalize w8:upd H1 l (.lst [])=H2 at*
  have s2:aP H1 H2:=by rw[<-w8];exact aw hl
  have h2l:H2 l=some (.lst (bU [])):=by rw[<-w8];exact ao
  dsimp only[f6]
  refine uh h2l D9 λH3 sp pa da s3 CF FE uA ZR hS=>?_
  have NG:=s2 _ _ DU
  have P7:=s3 _ _ NG
  refine⟨_,rfl,p,CD,dx,_,rfl,P7,W.cl,W.nS,(by show 1<1000;decide),?_⟩
  rw[afz]
  have ne:∀{b o},H2 b=none\/(H2 b=some o/\o≠.ins CD dx (eV "codas" (.int 0) []))->b≠p:=λ{b o}h e=>by
   subst e
   rcases h with h|⟨h,n⟩
   ·rw[NG]at h;cases h
   ·rw[NG]at h;exact n (bO h).symm
  have nsp:sp≠p:=ne (o:=.lst []) (.inl CF)
  have npa:pa≠p:=ne (o:=.lst []) (.inl FE)
  have nda:da≠p:=ne (o:=.lst []) (.inl uA)
  have nl:l≠p:=ne (.inr ⟨h2l,λe=>by cases e⟩)
  refine k _ (c8 ((s1.then s2).then s3) (by simp)) ⟨sp,l,pa,da,⟨dx,ao⟩,?_⟩
  obtain⟨⟨XA,a1⟩,a2,a3,_,a6⟩:=hS
  refine⟨⟨XA,by rw[aN nsp];exact a1⟩,?_,by rw[aN npa];exact a3,⟨[],by rw[aN nda];exact ZR,l_,λx hx=>by simp at hx,λhv v e=>by rw[ve]at e;cases e⟩,a6⟩
  show upd H3 p _ l=_
  rw[aN nl];exact a2
theorem Pt{Q:aa->Hp->Prop}{E:XK}(k:∀H' p,aP H H'->H p=none->Dk CS CD H' p rA->Q p H'):
  ∀x dx,H x=none->H dx=none->dx≠x->zm CS CD [.ref x] (upd (upd H dx (.own x)) x (.ins CD dx [])) (λv H2=>v=.non/\Q x H2) E:=by
 intro x dx hx WV qh
 refine⟨x,dx,rfl,ao,λH' sx hW=>⟨rfl,k H' x ?_ hx hW⟩⟩
 intro b o e
 have WX:b≠x:=aF e hx
 have hbd:b≠dx:=aF e WV
 exact sx b o (by rw[aN WX,aN hbd];exact e) (by simp only[bA];exact WX)
theorem JM{H3:Hp}{p sp:aa}{st:dB}(hp:G p=some o)(g:aP G H)(d:∀b,H1 b=none->H b=none)(DU:∃u,H1 p=some u)(CF:H1 sp=none)(FE:H1 pa=none)(uA:H1 da=none)(ZR:H3 da=some (.dT []))(hS:jo CS H3 sp ra pa da st.rules)(Kf:H ra=none\/∃u,G ra=some u)(LD:ra≠p):Dk CS CD (gr G H (upd H3 p (.ins CD dx (df (cI st.codas) sp)))) p st:=by
 obtain⟨u,DU⟩:=DU
 have ne:∀{b},H1 b=none->b≠p:=λ{b}h e=>by rw[e,DU]at h;cases h
 obtain⟨⟨XA,a1⟩,a2,a3,_,a6⟩:=hS
 refine⟨sp,ra,pa,da,⟨dx,by rw[ki hp];exact ao⟩,⟨XA,by rw[mT (d _ CF),aN (ne CF)];exact a1⟩,?_,by rw[mT (d _ FE),aN (ne FE)];exact a3,⟨[],by rw[mT (d _ uA),aN (ne uA)];exact ZR,l_,λx hx=>by simp at hx,λhv v e=>by rw[ve]at e;cases e⟩,a6⟩
 show gr G H _ ra=_
 rcases Kf with h|⟨u,h⟩
 ·rw[mT h,aN LD];exact a2
 ·rw[ki h,aN LD];exact a2
def E7(CS CD:aa):Sp:=λvs H Q _=>∃(p:aa)(G:Hp)(st:dB),vs=[.ref p]/\aP G H/\Dk CS CD G p st/\mU CS CD G H p (bD st .begins).1 (bD st .begins).2 Q
theorem ajN:a0 ["self"] ["self"] (aB (sD 1)):={}
theorem VW(F:il K "begin" "Desk.begin" (sD 1) f fd)(W:DT K CD)(Mk:Kp P w K mg base CS "Scale" ["self","rules"] 1 (tf K CS)):cz P w K mg base hC 3 f fd ["self"] (E7 CS CD):=by
 refine F.ok ajN (λfF A outer s H vs Q E hr h=>?_)
 ·obtain⟨p,G,st,rfl,g,⟨sp0,ra0,pa0,da0,⟨dx,hp⟩,hS0⟩,k⟩:=h
  refine⟨_,ak (iQ (pv 0) bo rfl)<|ak (iQ (pv 0) (lC Mk hr rfl (ae (bP ai) ai)) rfl)<|aD (aX (bP (ae bo ai))),?_⟩
  have VX:=g _ _ hp
  refine⟨_,rfl,p,CD,dx,_,rfl,VX,W.cl,W.nC,(by show 2<1000;decide),?_⟩
  rw[VT]
  generalize hJ:upd H p (.ins CD dx (df 0 sp0))=H1 at*
  have DU:H1 p=some (.ins CD dx (df 0 sp0)):=by rw[<-hJ];exact ao
  have f1:Fr p H H1:=by rw[<-hJ];exact Fr.refl.upd
  refine⟨bI _,λl hl=>?_⟩
  generalize w8:upd H1 l (.lst [])=H2 at*
  have s2:aP H1 H2:=by rw[<-w8];exact aw hl
  have h2l:H2 l=some (.lst (bU [])):=by rw[<-w8];exact ao
  dsimp only[f6]
  refine uh h2l D9 λH3 sp pa da s3 CF FE uA ZR hS=>?_
  have NG:=s2 _ _ DU
  refine⟨_,rfl,p,CD,dx,_,rfl,s3 _ _ NG,W.cl,W.nS,(by show 2<1000;decide),?_⟩
  rw[VU]
  refine⟨by show 1<=az;decide,λr iE=>?_⟩
  have f3:=(f1.trans (Fr.same s2)).trans (Fr.same s3)
  have f2:=f1.trans (Fr.same s2)
  have nl:l≠p:=λe=>by rw[e,DU]at hl;cases hl
  have f4:Fr p H (upd H3 p (.ins CD dx (df 0 sp))):=f3.upd
  have hk:Dk CS CD (gr G H (upd H3 p (.ins CD dx (df 0 sp)))) p rA:=JM (st:=rA) hp g f2.dom ⟨_,NG⟩ CF FE uA ZR hS (.inl (f1.dom _ hl)) nl
  exact k _ r (f4.trans (Fr.same (aw iE))) (hk.same (tQ (aw iE))) (f4.dom _ iE) ao
def E8(CS CD:aa):Sp:=λvs H Q _=>∃(p:aa)(G:Hp)(st:dB)(z:Nat),vs=[.ref p,.int (z:Int)]/\aP G H/\Dk CS CD G p st/\mU CS CD G H p (bD st (.codas z)).1 (bD st (.codas z)).2 Q
theorem ajP:a0 ["self","codas"] ["self","codas"] (aB (sD 2)):={}
theorem VY(F:il K "set_codas" "Desk.set_codas" (sD 2) f fd)(T:lB K mg)(W:DT K CD):cz P w K mg base hC 1 f fd ["self","codas"] (E8 CS CD):=by
 refine F.ok ajP (λfF A outer s H vs Q E hr h=>?_)
 ·obtain⟨p,G,st,z,rfl,g,hd,k⟩:=h
  refine⟨_,ak (eG (bK x5 (pv 1) bo (bW _)) (aD (aX (bP (ae (eC T.o3 rfl) ai)))) cf)<|ak (iQ (pv 0) (pv 1) rfl)<|aD (aX (bP (ae bo ai))),?_⟩
  refine⟨_,rfl,_,_,rfl,rfl,_,rfl,?_⟩
  refine kg (b:=decide (1<z)) (by rw[dN];omega) (λh1=>?_) (λh1=>?_)
  ·rw[bN]at h1
   have e:bD st (.codas z)=(st,fU (-1)):=ax h1
   rw[e]at k
   exact⟨by show 1<=az;decide,λr iE=>k.quiet g hd (aw iE) iE ao⟩
  ·rw[fz]at h1
   have e:bD st (.codas z)=({st with codas:=z==1},fU 0):=aq h1
   rw[e]at k
   obtain⟨sp,ra,pa,da,⟨dx,hp⟩,hS⟩:=hd
   have VX:=g _ _ hp
   refine⟨_,rfl,_,rfl,p,CD,dx,_,rfl,VX,W.cl,W.nC,(by show 2<1000;decide),?_⟩
   rw[VT]
   refine⟨by show 1<=az;decide,λr iE=>?_⟩
   have f1:Fr p H (upd H p (.ins CD dx (df (z:Int) sp))):=Fr.refl.upd
   refine k _ r (f1.trans (Fr.same (aw iE))) ?_ (f1.dom _ iE) ao
   have ez:(z:Int)=cI (z==1):=by
    have:z=0\/z=1:=by omega
    rcases this with rfl|rfl<;>rfl
   have hh:Dk CS CD (gr G H (upd H p (.ins CD dx (df (z:Int) sp)))) p {st with codas:=z==1}:=by
    refine⟨sp,ra,pa,da,⟨dx,by rw[ki hp,ao,ez]⟩,?_⟩
    have nl:∀{b xs},G b=some (.lst xs)->gr G H (upd H p (.ins CD dx (df (z:Int) sp))) b=some (.lst xs):=λ{b xs}e=>by
     rw[ki e,aN (λq=>by rw[q,hp]at e;cases e)];exact g _ _ e
    obtain⟨⟨XA,a1⟩,a2,a3,⟨bG,a4,a5⟩,a6⟩:=hS
    refine⟨⟨XA,?_⟩,nl a2,nl a3,⟨bG,?_,a5.nd,a5.short,λhv v e=>?_⟩,a6⟩
    ·rw[ki a1,aN (λq=>?_)]
     ·exact g _ _ a1
     ·rw[q,hp]at a1
      injection a1 with a1
      injection a1 with _ _ a1
      have:=congrArg f_ a1
      simp[sf,df]at this
    ·rw[ki a4,aN (λq=>by rw[q,hp]at a4;cases a4)];exact g _ _ a4
    ·obtain⟨la,e1,e2⟩:=a5.ok hv v e
     exact⟨la,e1,nl e2⟩
   exact hh.same (tQ (aw iE))
def VZ(CS CD:aa):Sp:=λvs H Q _=>∃(p q:aa)(G:Hp)(st:dB)(r:List Nat),vs=[.ref p,.ref q]/\aP G H/\Dk CS CD G p st/\fe G q r/\r.length<=60/\mU CS CD G H p (bD st (.rules r)).1 (bD st (.rules r)).2 Q
theorem ajQ:a0 ["self","rules"] ["self","rules"] (aB (sD 3)):={}
theorem LS:∀(n:Nat)(r:List Nat),r.length<=n->r.eraseDups.length=r.length->r.Nodup:=by
 intro n
 induction n with
 |zero=>intro r h _;have:r=[]:=my.mp oo;subst this;exact l_
 |succ n ih=>
  intro r h e
  cases r with
  |nil=>exact l_
  |cons a r=>
   rw[IZ,aS,aS]at e
   rw[aS]at h
   have h1:=NP (r.filter λb=>!b==a)
   have h2:=dX (λb=>!b==a) r
   have e2:(r.filter λb=>!b==a)=r:=List.length_filter_eq_length_iff.mp oo|>AN.mpr
   rw[e2]at e
   refine iZ.mpr ⟨λha=>?_,ih r oo oo⟩
   have:=AN.mp e2 a ha
   simp at this
theorem V0(h:B8 r=true):Rules r:=by
 unfold B8 at h
 simp only[eJ,c_,bN]at h
 exact⟨LS _ r (aV _) h.2.2,λk hk=>h.2.1 k hk⟩
theorem acp(F:il K "use_rules" "Desk.use_rules" (sD 3) f fd)(T:lB K mg)(W:DT K CD)(Ga:Fn P w K mg base "are_rules" ["rules"] 1 (VQ K))(Mk:Kp P w K mg base CS "Scale" ["self","rules"] 1 (tf K CS)):cz P w K mg base hC 3 f fd ["self","rules"] (VZ CS CD):=by
 refine F.ok ajQ (λfF A outer s H vs Q E hr h=>?_)
 ·obtain⟨p,q,G,st,r,rfl,g,hd,hq,hl,k⟩:=h
  refine⟨_,ak (eG (nJ (jC (c9 Ga (hr.mono dd) rfl (ae (pv 1) ai)))) (aD (aX (bP (ae (eC T.o3 rfl) ai)))) cf)<|ak (iQ (pv 0) (lC Mk hr rfl (ae (pv 1) ai)) rfl)<|aD (aX (bP (ae (bw aZ rfl T.len cP (ae (pv 1) ai)) ai))),?_⟩
  have hqH:H q=some (.lst (bU r)):=g _ _ hq
  refine⟨_,rfl,q,r,rfl,a_.of hqH,hl,_,rfl,?_⟩
  refine kg rfl (λh1=>?_) (λh1=>?_)
  ·rw[d_]at h1
   have e:bD st (.rules r)=(st,fU (-1)):=ax h1
   rw[e]at k
   exact⟨by show 1<=az;decide,λt iE=>k.quiet g hd (aw iE) iE ao⟩
  ·rw[jg]at h1
   have e:bD st (.rules r)=({st with rules:=r},fU (r.length:Nat)):=aq (by rw[h1];decide)
   rw[e]at k
   obtain⟨sp0,ra0,pa0,da0,⟨dx,hp⟩,hS0⟩:=hd
   have VX:=g _ _ hp
   refine⟨_,rfl,?_⟩
   dsimp only[f6]
   refine uh hqH (V0 h1) λH3 sp pa da s3 CF FE uA ZR hS=>?_
   refine⟨_,rfl,p,CD,dx,_,rfl,s3 _ _ VX,W.cl,W.nS,(by show 2<1000;decide),?_⟩
   rw[VU]
   have nq:q≠p:=λe=>by rw[e,VX]at hqH;cases hqH
   have P5:upd H3 p (.ins CD dx (df (cI st.codas) sp)) q=some (.lst (bU r)):=by rw[aN nq];exact s3 _ _ hqH
   refine⟨_,rfl,q,_,rfl,.inl (a_.of P5),by show 1<=az;decide,λt ht=>?_⟩
   have f4:Fr p H (upd H3 p (.ins CD dx (df (cI st.codas) sp))):=(Fr.same s3).upd
   have hk:Dk CS CD (gr G H (upd H3 p (.ins CD dx (df (cI st.codas) sp)))) p {st with rules:=r}:=JM (st:={st with rules:=r}) hp g (λ_ h=>h) ⟨_,VX⟩ CF FE uA ZR hS (.inr ⟨_,hq⟩) nq
   refine k _ t (f4.trans (Fr.same (aw ht))) (hk.same (tQ (aw ht))) (f4.dom _ ht) ?_
   rw[ao,aR];rfl
def E9(CS CD:aa):Sp:=λvs H Q _=>∃(p q:aa)(G:Hp)(st:dB)(w:br),vs=[.ref p,.ref q]/\aP G H/\Dk CS CD G p st/\fE H q w/\w.length<=60/\mU CS CD G H p (bD st (.many w)).1 (bD st (.many w)).2 Q
theorem ajR:a0 ["self","sounds"] ["self","sounds"] (aB (sD 4)):={}
theorem V1(F:il K "many" "Desk.many" (sD 4) f fd)(T:lB K mg)(W:DT K CD)(Gw:Fn P w K mg base "is_word" ["sounds"] 2 mI)(Mk:Kp P w K mg base CW "Ways" ["self","sounds"] 3 (j9 CW))(Mm:Mt P w K mg base CW "how_many" ["self"] 1 (Lv CW)):cz P w K mg base hC 5 f fd ["self","sounds"] (E9 CS CD):=by
 refine F.ok ajR (λfF A outer s H vs Q E hr h=>?_)
 ·obtain⟨p,q,G,st,w,rfl,g,hd,hw,hl,k⟩:=h
  refine⟨_,ak (eG (nJ (jC (c9 Gw (hr.mono dd) rfl (ae (pv 1) ai)))) (aD (aX (bP (ae (eC T.o3 rfl) ai)))) cf)<|aD (aX (bP (ae (gD Mm (hr.mono dd) (lC Mk hr rfl (ae (pv 1) ai))) ai))),?_⟩
  refine⟨_,rfl,q,w,rfl,hw,hl,λH1 s1=>⟨_,rfl,?_⟩⟩
  refine kg rfl (λh1=>?_) (λh1=>?_)
  ·rw[d_]at h1
   have e:bD st (.many w)=(st,fU (-1)):=ax h1
   rw[e]at k
   exact⟨by show 1<=az;decide,λt iE=>k.quiet g hd (s1.trans (aw iE)) (s1.free iE) ao⟩
  ·rw[jg]at h1
   have e:bD st (.many w)=(st,fU ((sr w).length:Nat)):=aq (by rw[h1];decide)
   rw[e]at k
   refine⟨_,rfl,?_⟩
   dsimp only[f6]
   refine jq (aW bJ _ _ _ _ s1 hw) h1 λH2 y s2 Qg hW=>?_
   obtain⟨E4,wa,wsy,wm,Kg,_⟩:=id hW
   refine⟨y,E4,_,rfl,Kg,iM _ _ _ dd dd dd,y,w,rfl,hW,h1,by show 1<=az;decide,λt ht=>?_⟩
   refine k.quiet g hd ((s1.trans s2).trans (aw ht)) ((s1.trans s2).free ht) ?_
   rw[ao,aco,(iJ w).length_eq]
def E_(CS CD:aa):Sp:=λvs H Q _=>∃(p q:aa)(G:Hp)(st:dB)(w:br),vs=[.ref p,.ref q]/\aP G H/\Dk CS CD G p st/\fE H q w/\w.length<=60/\mU CS CD G H p (bD st (.best w)).1 (bD st (.best w)).2 Q
def nBe:List ag:=["self","sounds","ways","scores","least","number","score"]
theorem LU:a0 nBe ["self","sounds"] (aB (sD 5)):={}
theorem kr(l:List α)(d:α)(p:α->Bool)(f:α->β):((aE l.length).filter λi=>p (l.getD i d)).map (λi=>f (l.getD i d))=(l.filter p).map f:=by
 rw[<-j_ l d p,cg];rfl
theorem B9{w:br}(hok:dn w=true)(p:fS->Bool):(lsd (((ow w).filter p).map mV)).length<=8000000:=by
 obtain⟨_,_,lH⟩:=bR hok
 have h1:=jv (λr:List Nat=>r.length::r) 16 (((ow w).filter p).map mV) (λr hr=>by
  obtain⟨y,hy,rfl⟩:=aM.mp hr
  have:=oQ lH (bH.mp hy).1
  rw[aS];omega)
 have h2:((ow w).filter p).length<=7200:=bV (dX _ _) (wJ hok)
 rw[aA]at h1
 have h3:=jk 16 h2
 show(_::_).length<=_
 rw[aS]
 omega
theorem acq(r:List Nat)(h:r≠[]):∃m∈r,∀y∈r,m<=y:=by
 induction r with
 |nil=>exact absurd rfl h
 |cons a r ih=>
  by_cases e:r=[]
  ·subst e;exact⟨a,bp,by simp⟩
  ·obtain⟨m,hm,hy⟩:=ih e
   by_cases q:m<=a
   ·exact⟨m,bg _ hm,λy h=>by rcases aY.mp h with rfl|h;exact q;exact hy y h⟩
   ·exact⟨a,bp,λy h=>by rcases aY.mp h with rfl|h;exact aV _;have:=hy y h;omega⟩
abbrev xO:fS:=⟨[],[]⟩
theorem V2(F:il K "best" "Desk.best" (sD 5) f fd)(T:lB K mg)(W:DT K CD)(Gw:Fn P w K mg base "is_word" ["sounds"] 2 mI)(Mk:Kp P w K mg base CW "Ways" ["self","sounds"] 3 (j9 CW))(Ms:Mt P w K mg base CS "scores" ["self","ways","codas"] 4 (pf K CW CS))(Mr:Mt P w K mg base CW "row" ["self","number"] 1 (yq CW))(Gl:Fn P w K mg base "listed" ["rows"] 1 (mS K)):cz P w K mg base hC 5 f fd ["self","sounds"] (E_ CS CD):=by
 refine F.ok LU (λfF A outer s H vs Q E hr h=>?_)
 ·obtain⟨p,q,G,st,w,rfl,g,hd,hw,hl,k⟩:=h
  refine⟨_,ak (eG (nJ (jC (c9 Gw (hr.mono dd) rfl (ae (pv 1) ai)))) (aD (aX (bP (ae (eC T.o3 rfl) ai)))) cf)<|ak (lx (i:=2) LU.nd rfl (fN rfl) (lC Mk hr rfl (ae (pv 1) ai)))<|ak (cH 3 LU.nd (dZ Ms hr (bL (pv 0) rfl) (ae (pv 2) (ae (bL (pv 0) rfl) ai))))<|ak (lx (i:=4) LU.nd rfl (fN rfl) (T4 rfl T.min rfl (pv 3)))<|aD (aX (c9 Gl (hr.mono dd) rfl (ae (gh (own:=[("number",5),("score",6)]) (g:=tq K 2 (fi (cy 5) (fi (cy 6) tp))) (tt:=oq (qk rEq (cE 6) (cE 4))) (te:=ng CW "row" (yq CW) [] E0 (cE 2) (fk (cE 5) f6))
    rfl LU.nd (kC rfl T.enumerate (ae (pv 3) ai)) (b_ (by show i8 nBe (aB (sD 5)) _ _=true;decide+kernel))
    (λs H C cl fp=>fV rfl (bu (cZ 5 LU.nd) (bu (cZ 6 LU.nd) eI)))
    (λs H C cl fp=>gX (bK ic (pv 6) (pv 4) (bW _)))
    (λs H C cl fp=>dZ Mr (hr.mono dd) (pv 2) (ae (pv 5) ai))) ai))),?_⟩
  refine⟨_,rfl,q,w,rfl,hw,hl,λH1 s1=>⟨_,rfl,?_⟩⟩
  refine kg rfl (λh1=>?_) (λh1=>?_)
  ·rw[d_]at h1
   have e:bD st (.best w)=(st,fU (-1)):=ax h1
   rw[e]at k
   exact⟨by show 1<=az;decide,λt iE=>k.quiet g hd (s1.trans (aw iE)) (s1.free iE) ao⟩
  rw[jg]at h1
  have e:bD st (.best w)=(st,sv (Hh st.codas st.rules w)):=aq (by rw[h1];decide)
  rw[e]at k
  obtain⟨_,lK,lH⟩:=bR h1
  obtain⟨sp,ra,pa,da,zy⟩:=hd
  refine⟨_,rfl,?_⟩
  dsimp only[f6]
  refine jq (aW bJ _ _ _ _ s1 hw) h1 λH2 y s2 Qg hW=>?_
  have lP:=s1.trans s2
  have hd2:=zy.same (g.trans lP)
  obtain⟨⟨dx,w6⟩,Mv⟩:=hd2
  obtain⟨sdx,acs⟩:=Mv.ob
  refine⟨_,rfl,p,CD,dx,_,_,rfl,w6,W.cl,W.nS,yD _ _,sp,sdx,_,rfl,acs,fT _ _ _ _ dd dd dd dd,_,rfl,_,rfl,p,CD,dx,_,_,rfl,w6,W.cl,W.nC,VS _ _,sp,ra,pa,da,y,st.rules,w,st.codas,rfl,Mv,hW,h1,λH3 l t7 C' ZK Qj kn3=>?_⟩
  have V3:=Mv.kept
  obtain⟨ajS,V3,_⟩:=V3
  have hW3:=zf CW _ _ _ _ (B2 V3 t7) hW
  have hn:((ow w).map (sc st.codas st.rules w)).length=(ow w).length:=aA _
  have V4:=wJ h1
  obtain⟨mn,hcc⟩:∃mn:Nat,(ow w=[]/\mn=0)\/((∃y∈ow w,sc st.codas st.rules w y=mn)/\∀y∈ow w,mn<=sc st.codas st.rules w y):=by
   by_cases e:ow w=[]
   ·exact⟨0,.inl ⟨e,rfl⟩⟩
   ·obtain⟨m,hm,hy⟩:=acq ((ow w).map (sc st.codas st.rules w)) (λq=>e (Hi.mp q))
    obtain⟨z,hz,rfl⟩:=aM.mp hm
    exact⟨_,.inr ⟨⟨z,hz,rfl⟩,λy' Xf=>hy _ (aM.mpr ⟨y',Xf,rfl⟩)⟩⟩
  have hc:ow w=[]\/((∃y∈ow w,sc st.codas st.rules w y=mn)/\∀y∈ow w,mn<=sc st.codas st.rules w y):=hcc.imp (λh=>h.1) id
  refine⟨_,rfl,l,_,rfl,YZ Qj,λe0=>?_,λm hm hle=>?_⟩
  have hm0:mn=0:=by
   rcases hcc with h|⟨⟨y',Xf,_⟩,_⟩
   ·exact h.2
   ·rw[Hi.mp e0]at Xf;cases Xf
  have eT:∀a:Nat,decide (V.int (a:Int)=V.int 0)=(a==mn):=λa=>by rw[hm0];exact kb a 0
  rotate_left
  have hm':mn=m:=by
   obtain⟨z,hz,rfl⟩:=aM.mp hm
   rcases hcc with h|⟨⟨y',Xf,ey⟩,ags⟩
   ·rw[h.1]at hz;cases hz
   ·have h2:=hle _ (aM.mpr ⟨y',Xf,rfl⟩)
    have h3:=ags z hz
    omega
  have eT:∀a:Nat,decide (V.int (a:Int)=V.int (m:Int))=(a==mn):=λa=>by rw[hm'];exact kb a m
  all_goals
   refine⟨_,rfl,l,_,rfl,YZ Qj,λD hD=>?_⟩
   refine kq ck hD (Z5 (ux hD (YZ Qj))) (λi=>sc st.codas st.rules w ((ow w).getD i xO)==mn) (λi=>((ow w).getD i xO).row) (by rw[aR,hn];omega) (λi x H' p6 No hi sm⟨oD,WE⟩it hy jx=>?_) (λH4 s4 hL=>?_)
   ·obtain⟨T',y',rfl,hT,hx⟩:=it
    obtain⟨n1,rfl,e1⟩:=c6 hx
    rw[bz]at e1
    obtain⟨yw,P',ey⟩:=u7.mp e1
    have g1:(ow w).getD i xO=yw:=by rw[bM,P'];rfl
    rw[g1,ey]at hy jx
    refine⟨T',_,rfl,lu.of hT,rfl,_,_,rfl,_,_,rfl,rfl,rfl,_,rfl,_,rfl,rfl,_,rfl,?_⟩
    refine kg (eT n1) (λh=>?_) (λh=>jx h H' (λ_ _ h=>h))
    have hW':=jn CW _ _ _ _ sm hW3
    obtain⟨E4,wa,wsy,wm,Kg,_⟩:=id hW'
    refine⟨_,rfl,y,E4,_,rfl,Kg,iM _ _ _ dd dd dd,_,rfl,y,w,i,yw,rfl,hW',h1,P',λr iE=>hy h _ r (aw iE) ?_⟩
    show hide (upd H' r _) D r=_
    rw[hide_ne (λe=>by rw[e,WE]at iE;cases iE),ao]
   ·rw[aR,hn,kr (ow w) xO (λy=>sc st.codas st.rules w y==mn) mV]at hL
    refine⟨D,_,rfl,hL.at ck,B9 h1 _,λH5 r s5 iE hr5=>?_⟩
    have hf:=pj zy g lP C' t7 kn3 (s4.trans s5)
    refine k H5 r hf.1 hf.2 ((pj zy g lP C' t7 kn3 s4).1.dom _ iE) ?_
    rw[hr5,X0 lH hc]
    unfold sv
    rw[<-aA (f:=mV),su]
theorem NQ{c:Bool}{w:br}(hv:bc w<=5){y z:fS}(hy:y∈ow w)(hz:z∈ow w):sc c ks w y<=(sc c ks w z|||spare ks.length):=by
 have:=(sO (p:=sA c w ks y) (q:=sA c w ks z) (by rw[cG,cG]) (fq hv hy) (fq hv hz)).1
 rw[cG]at this;exact this
theorem zp{c:Bool}(hk:ks.length<=16){w:br}(hv:bc w<=5){y z:fS}(hy:y∈ow w)(hz:z∈ow w):Bl (more ks.length (sc c ks w y) (sc c ks w z)):=by
 have:=(sO (p:=sA c w ks y) (q:=sA c w ks z) (by rw[cG,cG]) (fq hv hy) (fq hv hz)).2
 rw[cG]at this
 exact⟨_,by rw[qZ,cG,cG];omega,this⟩
theorem B'(w:br)(r:List Nat):dt (qm [(w,r)])=dt [(w,bh r)]:=rfl
theorem xP{d:sk}(h:¬dt d<0):d.length<=10/\∀x∈d,dn x.1=true/\x.2∈ow x.1:=by
 unfold dt at h
 by_cases h1:(decide (d.length<=Sw63.TOLD)&&d.all λx=>dn x.1)=false
 ·rw[ax h1]at h;omega
 ·rw[aq h1]at h
  by_cases h2:(d.all λx=>(sr x.1).contains x.2)=false
  ·rw[ax h2]at h;omega
  ·rw[JH,eJ,bN]at h1
   rw[JH]at h2
   refine⟨h1.1,λx hx=>⟨c_.mp h1.2 x hx,?_⟩⟩
   have:=c_.mp h2 x hx
   rw[jR]at this
   exact(iJ x.1).mem_iff.mpr this
theorem Pu{d:sk}(h:¬dt d<0):dt d=0:=by
 unfold dt at h⊢
 split at h
 ·omega
 ·rename_i h1
  rw[aq h1]
  split at h
  ·omega
  ·rename_i h2;rw[aq h2]
theorem B_{d:sk}(h:¬dt d=0):dt d<0:=by
 by_cases h2:dt d<0
 ·exact h2
 ·exact absurd (Pu h2) h
theorem Ca(x:Nat):∀(L:List Nat)(bG:List (Key×V)),(iI (kl bG (L.map λn:Nat=>(.inl (n:Int),V.bl true))) (.inl (x:Int))).isSome=((iI bG (.inl (x:Int))).isSome||L.contains x)
 |[],bG=>by simp[kl]
 |a::L,bG=>by
  have ih:=Ca x L (putK bG (.inl (a:Int)) (.bl true))
  have e:kl bG ((a::L).map λn:Nat=>((.inl (n:Int):Key),V.bl true))=kl (putK bG (.inl (a:Int)) (.bl true)) (L.map λn:Nat=>(.inl (n:Int),V.bl true)):=rfl
  rw[e,ih,vg]
  by_cases q:x=a
  ·subst q;simp
  ·have:¬((.inl (x:Int):Key)=.inl (a:Int)):=λe=>q (by have:=Qo e;omega)
   rw[aq this,Hy]
   have e2:(x==a)=false:=by simpa using q
   rw[e2,vf]
def ajU(H:Hp)(t:aa)(x:Nat):Prop:=H t=some (.tup [.int (x:Int),.bl true])
theorem JN:Keeps ajU:=λ_ _ _ _ s h=>s _ _ h
def Fb(CS CD:aa):Sp:=λvs H Q _=>∃(p q:aa)(G:Hp)(st:dB)(w:br),vs=[.ref p,.ref q]/\aP G H/\Dk CS CD G p st/\fE H q w/\w.length<=60/\mU CS CD G H p (bD st (.contenders w)).1 (bD st (.contenders w)).2 Q
def nCo:List ag:=["self","sounds","ways","scores","free","score","number"]
theorem Fc:a0 nCo ["self","sounds"] (aB (sD 6)):={}
theorem V5(F:il K "contenders" "Desk.contenders" (sD 6) f fd)(T:lB K mg)(W:DT K CD)(Gw:Fn P w K mg base "is_word" ["sounds"] 2 mI)(Mk:Kp P w K mg base CW "Ways" ["self","sounds"] 3 (j9 CW))(Ms:Mt P w K mg base CS "scores" ["self","ways","codas"] 4 (pf K CW CS))(Mu:Mt P w K mg base CS "unbounded" ["self","scores"] 2 (VM K CS))(Mr:Mt P w K mg base CW "row" ["self","number"] 1 (yq CW))(Gl:Fn P w K mg base "listed" ["rows"] 1 (mS K)):cz P w K mg base hC 5 f fd ["self","sounds"] (Fb CS CD):=by
 refine F.ok Fc (λfF A outer s H vs Q E hr h=>?_)
 ·obtain⟨p,q,G,st,w,rfl,g,hd,hw,hl,k⟩:=h
  have hu:=show(A.deeper (i5 "Desk.contenders" (aB (sD 6)) s.heap.objs.size f fF)).units+1<cp by have:=hr.units;omega
  refine⟨_,ak (eG (nJ (jC (c9 Gw (hr.mono dd) rfl (ae (pv 1) ai)))) (aD (aX (bP (ae (eC T.o3 rfl) ai)))) cf)<|ak (lx (i:=2) Fc.nd rfl (fN rfl) (lC Mk hr rfl (ae (pv 1) ai)))<|ak (cH 3 Fc.nd (dZ Ms hr (bL (pv 0) rfl) (ae (pv 2) (ae (bL (pv 0) rfl) ai))))<|ak (lx (i:=4) Fc.nd rfl (fN rfl) (Di (KI rfl) rfl T.dict afl (ae (gh (own:=[("score",5)]) (g:=cy 5) (tt:=oE) (te:=aeb (fk (cE 5) (fk (tC (.bl true)) f6)))
    rfl Fc.nd (cB (dZ Mu (hr.mono dd) (bL (pv 0) rfl) (ae (pv 3) ai))) (b_ (by show i8 nCo (aB (sD 6)) _ _=true;decide+kernel))
    (λs H C cl fp=>cZ 5 Fc.nd) (λs H C cl fp=>fB) (λs H C cl fp=>pA (ae (pv 5) (ae x4 ai)))) ai)))<|aD (aX (c9 Gl (hr.mono dd) rfl (ae (gh (own:=[("number",6),("score",5)]) (g:=tq K 2 (fi (cy 6) (fi (cy 5) tp))) (tt:=tB (aer (cE 5) (cE 4))) (te:=ng CW "row" (yq CW) [] E0 (cE 2) (fk (cE 6) f6))
    rfl Fc.nd (kC rfl T.enumerate (ae (pv 3) ai)) (b_ (by show i8 nCo (aB (sD 6)) _ _=true;decide+kernel))
    (λs H C cl fp=>fV rfl (bu (cZ 6 Fc.nd) (bu (cZ 5 Fc.nd) eI)))
    (λs H C cl fp=>gX (QI (abe hu (pv 5) (pv 4))))
    (λs H C cl fp=>dZ Mr (hr.mono dd) (pv 2) (ae (pv 6) ai))) ai))),?_⟩
  refine⟨_,rfl,q,w,rfl,hw,hl,λH1 s1=>⟨_,rfl,?_⟩⟩
  refine kg rfl (λh1=>?_) (λh1=>?_)
  ·rw[d_]at h1
   have e:bD st (.contenders w)=(st,fU (-1)):=ax h1
   rw[e]at k
   exact⟨by show 1<=az;decide,λt iE=>k.quiet g hd (s1.trans (aw iE)) (s1.free iE) ao⟩
  rw[jg]at h1
  have e:bD st (.contenders w)=(st,sv (Hm st.codas st.rules w)):=aq (by rw[h1];decide)
  rw[e]at k
  obtain⟨_,lK,lH⟩:=bR h1
  obtain⟨sp,ra,pa,da,zy⟩:=hd
  refine⟨_,rfl,?_⟩
  dsimp only[f6]
  refine jq (aW bJ _ _ _ _ s1 hw) h1 λH2 y s2 Qg hW=>?_
  have lP:=s1.trans s2
  have hd2:=zy.same (g.trans lP)
  obtain⟨⟨dx,w6⟩,Mv⟩:=hd2
  obtain⟨sdx,acs⟩:=Mv.ob
  refine⟨_,rfl,p,CD,dx,_,_,rfl,w6,W.cl,W.nS,yD _ _,sp,sdx,_,rfl,acs,fT _ _ _ _ dd dd dd dd,_,rfl,_,rfl,p,CD,dx,_,_,rfl,w6,W.cl,W.nC,VS _ _,sp,ra,pa,da,y,st.rules,w,st.codas,rfl,Mv,hW,h1,λH3 l t7 C' ZK Qj kn3=>?_⟩
  obtain⟨ajS,V3,_⟩:=Mv.kept
  have sd3:=B2 V3 t7
  have hW3:=zf CW _ _ _ _ sd3 hW
  have hn:((ow w).map (sc st.codas st.rules w)).length=(ow w).length:=aA _
  have V4:=wJ h1
  have FN:=sd3.ins w6
  obtain⟨ajW,acu⟩:=C'.ob
  refine⟨_,rfl,p,CD,dx,_,_,rfl,FN,W.cl,W.nS,yD _ _,sp,ajW,_,rfl,acu,fT _ _ _ _ dd dd dd dd,_,rfl,sp,ra,pa,da,l,st.rules,_,rfl,C',Qj,by rw[hn];omega,?_,λH4 u L' s4 hu0 hmem Y4 hll hu4=>?_⟩
  ·intro o ho z hz
   obtain⟨y1,hy1,rfl⟩:=aM.mp ho
   obtain⟨y2,ZO,rfl⟩:=aM.mp hz
   exact NQ lH hy1 ZO
  have hlU:(ye (dom st.rules.length) L').length<=7200:=by have:=(NK (dom st.rules.length) L').2;rw[hn]at hll;omega
  refine⟨u,rfl,⟨_,a_.of hu4⟩,λD hD=>?_⟩
  refine kq JN hD (yz (ux hD (a_.of hu4))) (λ_=>true) (λi=>(ye (dom st.rules.length) L').getD i 0) (by rw[aR];omega) (λi x H' p6 No hi sm⟨oD,WE⟩it hy jx=>?_) (λH5 s5 hL=>?_)
  ·obtain⟨n1,rfl,e1⟩:=c6 it
   have g1:(ye (dom st.rules.length) L').getD i 0=n1:=by rw[bM,e1];rfl
   rw[g1]at hy
   refine⟨rfl,_,rfl,by show 2<=az;decide,λt ht=>hy rfl _ t (aw ht) ?_⟩
   show hide (upd H' t _) D t=_
   rw[hide_ne (λe=>by rw[e,WE]at ht;cases ht),ao]
  rw[filter_true,aR,show(aE (ye (dom st.rules.length) L').length).map (λi=>(ye (dom st.rules.length) L').getD i 0)=ye (dom st.rules.length) L' by have:=dz (ye (dom st.rules.length) L') 0 id;simpa using this]at hL
  obtain⟨ts,Qc,uz⟩:=hL.at JN
  refine⟨D,ts,(ye (dom st.rules.length) L').map λn:Nat=>(.inl (n:Int),V.bl true),rfl,a_.of Qc,?_,λfd hfd=>?_⟩
  ·clear hL Qc
   generalize ye (dom st.rules.length) L'=U at uz
   induction uz with
   |nil=>exact .nil
   |cons r t ih=>exact .cons (lu.of r) ih
  generalize Kq:upd H5 fd (.dK (kl [] ((ye (dom st.rules.length) L').map λn:Nat=>(.inl (n:Int),V.bl true))))=H6 at*
  have s6:aP H5 H6:=by rw[<-Kq];exact aw hfd
  have h6f:H6 fd=some (.dK (kl [] ((ye (dom st.rules.length) L').map λn:Nat=>(.inl (n:Int),V.bl true)))):=by rw[<-Kq];exact ao
  have s36:=(s4.trans s5).trans s6
  have Kn:JC H6 l ((ow w).map (sc st.codas st.rules w)):=Qj.same s36
  have hW6:=jn CW _ _ _ _ s36 hW3
  have hLw:∀z,z∈L'↔∃y∈ow w,sc st.codas st.rules w y=z:=λz=>by rw[hmem,aM]
  refine⟨_,rfl,l,_,rfl,YZ Kn,λD2 Ql=>?_⟩
  refine kq ck Ql (Z5 (ux Ql (YZ Kn))) (λi=>(ye (dom st.rules.length) L').contains (sc st.codas st.rules w ((ow w).getD i xO))) (λi=>((ow w).getD i xO).row) (by rw[aR,hn];omega) (λi x H' p6 No hi sm⟨oD,WE⟩it hy jx=>?_) (λH7 s7 YO=>?_)
  ·obtain⟨T',y',rfl,hT,hx⟩:=it
   obtain⟨n1,rfl,e1⟩:=c6 hx
   rw[bz]at e1
   obtain⟨yw,P',ey⟩:=u7.mp e1
   have g1:(ow w).getD i xO=yw:=by rw[bM,P'];rfl
   rw[g1,ey]at hy jx
   refine⟨T',_,rfl,lu.of hT,rfl,_,_,rfl,_,_,rfl,rfl,rfl,_,rfl,_,rfl,fd,_,rfl,tW.k (k:=.inl (n1:Int)) (sm _ _ h6f),_,rfl,?_⟩
   refine kg (by rw[Ca,ve];exact vf _) (λh=>?_) (λh=>jx h H' (λ_ _ h=>h))
   have hW':=jn CW _ _ _ _ sm hW6
   obtain⟨E4,wa,wsy,wm,Kg,_⟩:=id hW'
   refine⟨_,rfl,y,E4,_,rfl,Kg,iM _ _ _ dd dd dd,_,rfl,y,w,i,yw,rfl,hW',h1,P',λr iE=>hy h _ r (aw iE) ?_⟩
   show hide (upd H' r _) D2 r=_
   rw[hide_ne (λe=>by rw[e,WE]at iE;cases iE),ao]
  ·rw[aR,hn,kr (ow w) xO (λy=>(ye (dom st.rules.length) L').contains (sc st.codas st.rules w y)) mV]at YO
   refine⟨D2,_,rfl,YO.at ck,B9 h1 _,λH8 r s8 iE hr8=>?_⟩
   have hf:=pj zy g lP C' t7 kn3 ((s36.trans s7).trans s8)
   refine k H8 r hf.1 hf.2 ((pj zy g lP C' t7 kn3 (s36.trans s7)).1.dom _ iE) ?_
   rw[hr8,CM lH hLw Y4 (λ_=>BP)]
   unfold sv
   rw[<-aA (f:=mV),su]
def Pw(CS CD:aa)(K:aL)(cl:br->fS->mC):Sp:=λvs H Q _=>∃(p q r:aa)(G:Hp)(st:dB)(w:br)(kQ:List Nat),vs=[.ref p,.ref q,.ref r]/\aP G H/\Dk CS CD G p st/\fE H q w/\w.length<=60/\fe H r kQ/\mU CS CD G H p (bD st (cl w (bh kQ))).1 (bD st (cl w (bh kQ))).2 Q
def nPr:List ag:=["self","sounds","row","refusal","ways","sizes","heavy","counts","rule"]
theorem JO:a0 nPr ["self","sounds","row"] (aB (sD 7)):={}
theorem V6(F:il K "profile" "Desk.profile" (sD 7) f fd)(T:lB K mg)(W:DT K CD)(WS:ST K CS)(Gr:Fn P w K mg base "told_refusal" ["told"] 5 (ph K))(Mk:Kp P w K mg base CW "Ways" ["self","sounds"] 3 (j9 CW))(Mz:Mt P w K mg base CW "sizes_part" ["self","row"] 2 (wx K CW))(Mm:Mt P w K mg base CW "marks_part" ["self","row"] 2 (sg K CW))(Gh:Fn P w K mg base "heavy_syllables" ["sounds","sizes","codas"] 2 (zb K))(Gs:Fn P w K mg base "syllable_counts" ["sounds","sizes"] 3 (EU K))(Gf:Fn P w K mg base "foot_counts" ["marks","heavy"] 2 (wD K)):cz P w K mg base hC 6 f fd ["self","sounds","row"] (Pw CS CD K .profile):=by
 refine F.ok JO (λfF A outer s H vs Q E hr h=>?_)
 ·obtain⟨p,q,r,G,st,w,kQ,rfl,g,hd,hw,hl,hrw,k⟩:=h
  refine⟨_,ak (cH 3 JO.nd (c9 Gr hr rfl (ae (bP (ae (pA (ae (pv 1) (ae (pv 2) ai))) ai)) ai)))<|ak (eG (bK zM (pv 3) bo (bW _)) (aD (aX (bP (ae (pv 3) ai)))) cf)<|ak (cH 4 JO.nd (lC Mk (hr.mono dd) rfl (ae (pv 1) ai)))<|ak (cH 5 JO.nd (dZ Mz (hr.mono dd) (pv 4) (ae (pv 2) ai)))<|ak (cH 6 JO.nd (c9 Gh (hr.mono dd) rfl (ae (pv 1) (ae (pv 5) (ae (bL (pv 0) rfl) ai)))))<|ak (lx (i:=7) JO.nd rfl (fN rfl) (b7 lz (c9 Gs (hr.mono dd) rfl (ae (pv 1) (ae (pv 5) ai))) (c9 Gf (hr.mono dd) rfl (ae (dZ Mm (hr.mono dd) (pv 4) (ae (pv 2) ai)) (ae (pv 6) ai)))))<|aD (aX (b7 lz (bP (ae bo (ae (bw aZ rfl T.len cP (ae (bL (bL (pv 0) rfl) rfl) ai)) ai)))
    (gh (own:=[("rule",8)]) (g:=cy 8) (tt:=oE) (te:=qk (aa6 K) (cE 7) (cE 8)) rfl JO.nd (cB (bL (bL (pv 0) rfl) rfl)) (b_ (by show i8 nPr (aB (sD 7)) _ _=true;decide+kernel))
     (λs H C cl fp=>cZ 8 JO.nd) (λs H C cl fp=>fB) (λs H C cl fp=>iP fJ (pv 7) (pv 8) (λ_ _=>rfl))))),?_⟩
  refine⟨_,rfl,_,rfl,by show 2<=az;decide,λt1 Qc=>⟨by show 1<=az;decide,λt2 uz=>?_⟩⟩
  generalize hJ:upd (upd H t1 (.tup [.ref q,.ref r])) t2 (.lst [.ref t1])=H1 at*
  have s1:aP H H1:=by rw[<-hJ];exact(aw Qc).trans (aw uz)
  have acv:H1 t2=some (.lst ([t1].map V.ref)):=by rw[<-hJ];exact ao
  have acw:H1 t1=some (.tup [.ref q,.ref r]):=by rw[<-hJ];exact aw uz _ _ ao
  refine⟨t2,[(w,kQ)],rfl,⟨[t1],acv,.cons ⟨q,r,acw,aW bJ _ _ _ _ s1 hw,s1 _ _ hrw⟩ .nil⟩,by show 1<=60;decide,by simpa using hl,λH2 s2=>?_⟩
  have lP:=s1.trans s2
  rw[B']
  refine⟨_,rfl,rfl,_,rfl,?_⟩
  have e0:(!decide (V.int (dt [(w,bh kQ)])=V.int 0))=decide (dt [(w,bh kQ)]<0):=by
   rw[<-nZ,dN]
   constructor
   ·intro h;exact B_ λe=>h (by rw[e])
   ·intro h e;have:=V.int.inj e;omega
  refine kg e0 (λh1=>?_) (λh1=>?_)
  ·rw[bN]at h1
   have e:bD st (.profile w (bh kQ))=(st,fU (dt [(w,bh kQ)])):=ax h1
   rw[e]at k
   refine⟨_,rfl,by show 1<=az;decide,λt iE=>k.quiet g hd (lP.trans (aw iE)) (lP.free iE) ao⟩
  rw[fz]at h1
  have e:bD st (.profile w (bh kQ))=(st,⟨0,[sA st.codas w st.rules (bh kQ)]⟩):=aq h1
  rw[e]at k
  obtain⟨_,hto⟩:=xP h1
  obtain⟨hok,hmem⟩:=hto _ bp
  have hok:dn w=true:=hok
  have hmem:bh kQ∈ow w:=hmem
  obtain⟨Lu,lK,lH⟩:=bR hok
  obtain⟨_,b1,b2⟩:=HE lH hmem
  obtain⟨m1,m2⟩:=nQ hmem
  have pZ:=En m1
  obtain⟨sp,ra,pa,da,zy⟩:=id hd
  refine⟨_,rfl,?_⟩
  dsimp only[f6]
  refine jq (aW bJ _ _ _ _ lP hw) hok λH3 y s3 Qg hW=>?_
  have pP:=lP.trans s3
  obtain⟨E4,wa,wsy,wm,Kg,_⟩:=id hW
  refine⟨_,rfl,y,E4,_,rfl,Kg,iM _ _ _ dd dd dd,_,rfl,y,r,w,kQ,rfl,hW,hok,a_.of (pP _ _ hrw),λH4 z s4 hz0 hz=>?_⟩
  have Vp:=pP.trans s4
  have Mg:H4 z=some (.lst (bU (flat (bh kQ).sylls))):=by rw[b1];exact hz
  obtain⟨⟨dx,hpG⟩,hSG⟩:=zy
  have VX:=g _ _ hpG
  refine⟨_,rfl,_,rfl,_,rfl,p,CD,dx,_,_,rfl,Vp _ _ VX,W.cl,W.nC,VS _ _,q,z,w,(bh kQ).sylls,st.codas,rfl,aW bJ _ _ _ _ Vp hw,a_.of Mg,Lu,pZ,λH5 hv s5 hv0 hhv=>?_⟩
  have s05:=Vp.trans s5
  refine⟨_,rfl,_,rfl,q,z,w,(bh kQ).sylls,rfl,aW bJ _ _ _ _ s05 hw,a_.of (s5 _ _ Mg),Lu,pZ,λH6 c1 s6 apa hc1=>?_⟩
  have YJ:=s05.trans s6
  have ajY:=((s4.trans s5).trans s6) _ _ Kg
  have hW6:=jn CW _ _ _ _ ((s4.trans s5).trans s6) hW
  refine⟨_,rfl,y,E4,_,rfl,ajY,iM _ _ _ dd dd dd,_,rfl,y,r,w,kQ,rfl,hW6,hok,a_.of (YJ _ _ hrw),λH7 mk s7 apb hmk=>?_⟩
  have s07:=YJ.trans s7
  have ajZ:H7 mk=some (.lst (bU (bh kQ).marks)):=by rw[b2];exact hmk
  refine⟨_,rfl,mk,hv,bc w,(bh kQ).marks,_,rfl,a_.of ajZ,a_.of ((s6.trans s7) _ _ hhv),lH,Ap lH m2,mok lH m2,λH8 c2 s8 apd hc2=>?_⟩
  have s08:=s07.trans s8
  have aj0:=(s7.trans s8) _ _ hc1
  refine⟨c1,c2,_,_,rfl,rfl,aj0,hc2,by show 4+12<=az;decide,λcc hcc=>?_⟩
  have ecc:bU (d6 w (bh kQ).sylls)++bU (du (bh kQ).marks ((cM w (bh kQ).sylls).map (dA st.codas)))=bU ((aE 16).map (wK st.codas w (bh kQ))):=by
   rw[<-xk st.codas lH hmem,<-fX];rfl
  rw[ecc]
  generalize hH9:upd H8 cc (.lst (bU ((aE 16).map (wK st.codas w (bh kQ)))))=H9 at*
  have s9:aP H8 H9:=by rw[<-hH9];exact aw hcc
  have h9c:H9 cc=some (.lst (bU ((aE 16).map (wK st.codas w (bh kQ))))):=by rw[<-hH9];exact ao
  have s09:=s08.trans s9
  have hS9:=hSG.same (g.trans s09)
  obtain⟨afC,afD⟩:=hS9.ob
  have acz:H9 ra=some (.lst (bU st.rules)):=hS9.rules
  refine⟨_,rfl,p,CD,dx,_,_,rfl,s09 _ _ VX,W.cl,W.nS,yD _ _,sp,CS,afC,_,_,rfl,afD,WS.cl,WS.nR,Pc _ _ _ _,ra,_,rfl,.inl (a_.of acz),by show 2<=az;decide,λa1 ha1=>?_⟩
  generalize ES:upd H9 a1 (.lst [.int 0,.int (((bU st.rules).length:Nat):Int)])=Kj at*
  have XM:aP H9 Kj:=by rw[<-ES];exact aw ha1
  have aj1:Kj a1=some (.lst [.int 0,.int (((bU st.rules).length:Nat):Int)]):=by rw[<-ES];exact ao
  have afE:=s09.trans XM
  have sI:=hSG.rl
  refine⟨_,rfl,p,CD,dx,_,_,rfl,afE _ _ VX,W.cl,W.nS,yD _ _,sp,CS,afC,_,_,rfl,XM _ _ afD,WS.cl,WS.nR,Pc _ _ _ _,ra,rfl,⟨_,a_.of (XM _ _ acz)⟩,λD hD=>?_⟩
  have LO:=sI.len
  refine fQ hD (yz (ux hD (a_.of (XM _ _ acz)))) (λ_=>true) (λi=>V.int ((wK st.codas w (bh kQ) (st.rules.getD i 0):Nat):Int)) (by rw[aR];omega) (λi x H' p6 No hi sm it hy jx=>?_) (λH11 s11 afF=>?_)
  ·obtain⟨n1,rfl,e1⟩:=c6 it
   have g1:st.rules.getD i 0=n1:=by rw[bM,e1];rfl
   rw[g1]at hy
   have hlt:=sI.lt n1 (cC e1)
   exact⟨rfl,_,rfl,_,rfl,cc,_,_,_,rfl,rfl,a_.of (sm _ _ (XM _ _ h9c)),at_of (j:=n1) rfl (by rw[bz,bz,mw hlt];rfl),hy rfl⟩
  rw[filter_true,aR,dz st.rules 0 λx=>V.int ((wK st.codas w (bh kQ) x:Nat):Int)]at afF
  refine⟨a1,D,_,_,rfl,rfl,s11 _ _ aj1,afF,by show 2+f_ _<=_;rw[aA,c7];omega,λr' Kd=>?_⟩
  have afG:=afE.trans s11
  refine k.quiet g hd (afG.trans (aw Kd)) (afG.free Kd) ?_
  rw[ao]
  unfold ll sA
  simp only[aR,eS,Ak,cW,aA,sZ,bb,cg,i9,jM]
  rfl
theorem acA{u:HO}(h:H D=some u)(hG:G D=none):aP (gr G H H') (gr G H (upd H' D o)):=λb v e=>by
 have hb:b≠D:=λq=>by
  rcases nF e with z|⟨x,z⟩
  ·rw[q,h]at z;cases z
  ·rw[q,hG]at z;cases z
 have h2:=iD _ _ e
 rcases nF e with z|⟨x,z⟩
 ·rw[mT z,aN hb];exact h2
 ·rw[ki z,aN hb];exact h2
def nBo:List ag:=["self","sounds","row","refusal","ways","scores","told","number","score"]
theorem JP:a0 nBo ["self","sounds","row"] (aB (sD 8)):={}
theorem V7(F:il K "bounding" "Desk.bounding" (sD 8) f fd)(T:lB K mg)(W:DT K CD)(Gr:Fn P w K mg base "told_refusal" ["told"] 5 (ph K))(Mk:Kp P w K mg base CW "Ways" ["self","sounds"] 3 (j9 CW))(Ms:Mt P w K mg base CS "scores" ["self","ways","codas"] 4 (pf K CW CS))(Mn:Mt P w K mg base CW "number_of" ["self","row"] 3 (wz K CW))(Mb:Mt P w K mg base CS "bounds" ["self","score","other"] 2 (wH CS))(Mr:Mt P w K mg base CW "row" ["self","number"] 1 (yq CW))(Gl:Fn P w K mg base "listed" ["rows"] 1 (mS K)):cz P w K mg base hC 6 f fd ["self","sounds","row"] (Pw CS CD K .bounding):=by
 refine F.ok JP (λfF A outer s H vs Q E hr h=>?_)
 ·obtain⟨p,q,r,G,st,w,kQ,rfl,g,hd,hw,hl,hrw,k⟩:=h
  refine⟨_,ak (cH 3 JP.nd (c9 Gr hr rfl (ae (bP (ae (pA (ae (pv 1) (ae (pv 2) ai))) ai)) ai)))<|ak (eG (bK zM (pv 3) bo (bW _)) (aD (aX (bP (ae (pv 3) ai)))) cf)<|ak (lx (i:=4) JP.nd rfl (fN rfl) (lC Mk (hr.mono dd) rfl (ae (pv 1) ai)))<|ak (cH 5 JP.nd (dZ Ms (hr.mono dd) (bL (pv 0) rfl) (ae (pv 4) (ae (bL (pv 0) rfl) ai))))<|ak (lx (i:=6) JP.nd rfl (fN rfl) (iP fJ (pv 5) (dZ Mn (hr.mono dd) (pv 4) (ae (pv 2) ai)) (λ_ _=>rfl)))<|aD (aX (c9 Gl (hr.mono dd) rfl (ae (gh (own:=[("number",7),("score",8)]) (g:=tq K 2 (fi (cy 7) (fi (cy 8) tp))) (tt:=tB (ng CS "bounds" (wH CS) [] E0 (aa3 K (cE 0) "scale") (fk (cE 8) (fk (cE 6) f6)))) (te:=ng CW "row" (yq CW) [] E0 (cE 4) (fk (cE 7) f6))
    rfl JP.nd (kC rfl T.enumerate (ae (pv 5) ai)) (b_ (by show i8 nBo (aB (sD 8)) _ _=true;decide+kernel))
    (λs H C cl fp=>fV rfl (bu (cZ 7 JP.nd) (bu (cZ 8 JP.nd) eI)))
    (λs H C cl fp=>gX (jC (dZ Mb (hr.mono dd) (bL (pv 0) rfl) (ae (pv 8) (ae (pv 6) ai)))))
    (λs H C cl fp=>dZ Mr (hr.mono dd) (pv 4) (ae (pv 7) ai))) ai))),?_⟩
  refine⟨_,rfl,_,rfl,by show 2<=az;decide,λt1 Qc=>⟨by show 1<=az;decide,λt2 uz=>?_⟩⟩
  generalize hJ:upd (upd H t1 (.tup [.ref q,.ref r])) t2 (.lst [.ref t1])=H1 at*
  have s1:aP H H1:=by rw[<-hJ];exact(aw Qc).trans (aw uz)
  have acv:H1 t2=some (.lst ([t1].map V.ref)):=by rw[<-hJ];exact ao
  have acw:H1 t1=some (.tup [.ref q,.ref r]):=by rw[<-hJ];exact aw uz _ _ ao
  refine⟨t2,[(w,kQ)],rfl,⟨[t1],acv,.cons ⟨q,r,acw,aW bJ _ _ _ _ s1 hw,s1 _ _ hrw⟩ .nil⟩,by show 1<=60;decide,by simpa using hl,λH2 s2=>?_⟩
  have lP:=s1.trans s2
  rw[B']
  refine⟨_,rfl,rfl,_,rfl,?_⟩
  have e0:(!decide (V.int (dt [(w,bh kQ)])=V.int 0))=decide (dt [(w,bh kQ)]<0):=by
   rw[<-nZ,dN]
   constructor
   ·intro h;exact B_ λe=>h (by rw[e])
   ·intro h e;have:=V.int.inj e;omega
  refine kg e0 (λh1=>?_) (λh1=>?_)
  ·rw[bN]at h1
   have e:bD st (.bounding w (bh kQ))=(st,fU (dt [(w,bh kQ)])):=ax h1
   rw[e]at k
   refine⟨_,rfl,by show 1<=az;decide,λt iE=>k.quiet g hd (lP.trans (aw iE)) (lP.free iE) ao⟩
  rw[fz]at h1
  have e:bD st (.bounding w (bh kQ))=(st,sv (Hk st.codas st.rules w (bh kQ))):=aq h1
  rw[e]at k
  obtain⟨_,hto⟩:=xP h1
  obtain⟨hok,hmem⟩:=hto _ bp
  have hok:dn w=true:=hok
  have hmem:bh kQ∈ow w:=hmem
  obtain⟨Lu,lK,lH⟩:=bR hok
  obtain⟨sp,ra,pa,da,zy⟩:=hd
  refine⟨_,rfl,?_⟩
  dsimp only[f6]
  refine jq (aW bJ _ _ _ _ lP hw) hok λH3 y s3 Qg hW=>?_
  have pP:=lP.trans s3
  have Zc:=zy.same (g.trans pP)
  obtain⟨⟨dx,FN⟩,C'⟩:=Zc
  obtain⟨sdx,acu⟩:=C'.ob
  refine⟨_,rfl,p,CD,dx,_,_,rfl,FN,W.cl,W.nS,yD _ _,sp,sdx,_,rfl,acu,fT _ _ _ _ dd dd dd dd,_,rfl,_,rfl,p,CD,dx,_,_,rfl,FN,W.cl,W.nC,VS _ _,sp,ra,pa,da,y,st.rules,w,st.codas,rfl,C',hW,hok,λH4 l qc FO ZK hl4 kn4=>?_⟩
  obtain⟨Pj,acB,_⟩:=C'.kept
  have P9:=B2 acB qc
  have hW4:=zf CW _ _ _ _ P9 hW
  have DK:=P9.ins FN
  have aj2:H4 r=some (.lst (bU kQ)):=P9.lst (pP _ _ hrw)
  obtain⟨E4,wa,wsy,wm,Kg,_⟩:=id hW4
  have hn:((ow w).map (sc st.codas st.rules w)).length=(ow w).length:=aA _
  have V4:=wJ hok
  refine⟨_,rfl,_,rfl,y,E4,_,rfl,Kg,iM _ _ _ dd dd dd,_,rfl,y,r,w,kQ,rfl,hW4,hok,a_.of aj2,hmem,λH5 i0 s5 hi0=>?_⟩
  have hl5:=hl4.same s5
  refine⟨l,_,_,.int (sc st.codas st.rules w (bh kQ):Nat),rfl,rfl,YZ hl5,at_of (j:=i0) rfl (by rw[bz,bz,hi0];rfl),?_⟩
  refine⟨_,rfl,l,_,rfl,YZ hl5,λD hD=>?_⟩
  refine kq ck hD (Z5 (ux hD (YZ hl5))) (λi=>!(sc st.codas st.rules w ((ow w).getD i xO)==sc st.codas st.rules w (bh kQ))&&dom st.rules.length (sc st.codas st.rules w ((ow w).getD i xO)) (sc st.codas st.rules w (bh kQ))) (λi=>((ow w).getD i xO).row) (by rw[aR,hn];omega) (λi x H' p6 No hi sm⟨oD,WE⟩it hy jx=>?_) (λH6 s6 hL=>?_)
  ·obtain⟨T',y',rfl,hT,hx⟩:=it
   obtain⟨n1,rfl,e1⟩:=c6 hx
   rw[bz]at e1
   obtain⟨yw,P',ey⟩:=u7.mp e1
   have g1:(ow w).getD i xO=yw:=by rw[bM,P'];rfl
   rw[g1,ey]at hy jx
   have s5':=s5.trans sm
   have hS':=FO.same s5'
   obtain⟨aj4,ali⟩:=hS'.ob
   refine⟨T',_,rfl,lu.of hT,rfl,_,_,rfl,_,_,rfl,rfl,rfl,_,rfl,p,CD,dx,_,_,rfl,s5' _ _ DK,W.cl,W.nS,yD _ _,sp,aj4,_,rfl,ali,fT _ _ _ _ dd dd dd dd,_,rfl,_,rfl,sp,ra,pa,da,st.rules,n1,_,rfl,hS',by rw[<-ey];exact NQ lH (cC P') hmem,_,rfl,?_⟩
   refine kg rfl (λh=>?_) (λh=>jx h H' (λ_ _ h=>h))
   have hW':=jn CW _ _ _ _ s5' hW4
   obtain⟨aj5,_,_,_,alj,_⟩:=id hW'
   refine⟨_,rfl,y,aj5,_,rfl,alj,iM _ _ _ dd dd dd,_,rfl,y,w,i,yw,rfl,hW',hok,P',λr' iE=>hy h _ r' (aw iE) ?_⟩
   show hide (upd H' r' _) D r'=_
   rw[hide_ne (λe=>by rw[e,WE]at iE;cases iE),ao]
  ·rw[aR,hn,kr (ow w) xO (λz=>!(sc st.codas st.rules w z==sc st.codas st.rules w (bh kQ))&&dom st.rules.length (sc st.codas st.rules w z) (sc st.codas st.rules w (bh kQ))) mV]at hL
   refine⟨D,_,rfl,hL.at ck,B9 hok _,λH7 r' s7 iE hr7=>?_⟩
   have hf:=pj zy g pP FO qc kn4 ((s5.trans s6).trans s7)
   refine k H7 r' hf.1 hf.2 ((pj zy g pP FO qc kn4 (s5.trans s6)).1.dom _ iE) ?_
   rw[hr7,Hj lH hmem]
   unfold sv
   rw[<-aA (f:=mV),su]
def afH(c:Bool)(ks:List Nat)(b:br×List Nat)(x:Nat×Nat):Prop:=∃z∈ow b.1,more ks.length (sc c ks b.1 (bh b.2)) (sc c ks b.1 z)≠0/\x=(more ks.length (sc c ks b.1 z) (sc c ks b.1 (bh b.2)),more ks.length (sc c ks b.1 (bh b.2)) (sc c ks b.1 z))
def zq(CS CD:aa):Sp:=λvs H Q _=>∃(p q sp ra pa da:aa)(G:Hp)(st:dB)(bs:List (br×List Nat)),vs=[.ref p,.ref q]/\aP G H/\CZ CS CD G p sp ra pa da st/\EX H q bs/\bs.length<=10/\(∀b∈bs,dn b.1=true/\bh b.2∈ow b.1)/\∀H' r ps,Fr p H H'->CZ CS CD (gr G H H') p sp ra pa da st->H r=none->o5 H' r ps->ps.length<=80000->Enc st.rules.length ps (Sw63.said st.codas st.rules (qm bs))->Q (.ref r) H'
def nPa:List ag:=["self","told","pairs","sounds","row","ways","scores"]
theorem Px:a0 nPa ["self","told"] (aB (sD 9)):={}
theorem V8(F:il K "pairs" "Desk.pairs" (sD 9) f fd)(T:lB K mg)(W:DT K CD)(Mk:Kp P w K mg base CW "Ways" ["self","sounds"] 3 (j9 CW))(Ms:Mt P w K mg base CS "scores" ["self","ways","codas"] 4 (pf K CW CS))(Mn:Mt P w K mg base CW "number_of" ["self","row"] 3 (wz K CW))(Ga:Fn P w K mg base "pairs_against" ["scale","told_score","scores"] 2 (xK K CS)):cz P w K mg base hC 5 f fd ["self","told"] (zq CS CD):=by
 refine F.ok Px (λfF A outer s H vs Q E hr h=>?_)
 ·obtain⟨p,q,sp,ra,pa,da,G,st,bs,rfl,g,zy,⟨ts,hq,hp⟩,hbl,hbs,k⟩:=h
  have P2:ts.length=bs.length:=bF hp
  refine⟨_,ak (cH 2 Px.nd (bP ai))<|ak (fW ee rfl (cB (pv 1)) (fV rfl (bu (cZ 3 Px.nd) (bu (cZ 4 Px.nd) eI)))<|ak (cH 5 Px.nd (lC Mk hr rfl (ae (pv 3) ai)))<|ak (cH 6 Px.nd (dZ Ms hr (bL (pv 0) rfl) (ae (pv 5) (ae (bL (pv 0) rfl) ai))))<|aD (eQ (gc dq kz lg jr (pv 2) (ae (c9 Ga (hr.mono dd) rfl (ae (bL (pv 0) rfl) (ae (iP fJ (pv 6) (dZ Mn (hr.mono dd) (pv 5) (ae (pv 4) ai)) (λ_ _=>rfl)) (ae (pv 6) ai)))) ai))))<|aD (aX (wj rfl T.sorted rfl T.set rfl hr.units (pv 2))),?_⟩
  refine⟨bI _,λD hD=>?_⟩
  generalize hJ:upd H D (.lst [])=H1 at*
  have s1:aP H H1:=by rw[<-hJ];exact aw hD
  have BW:H1 D=some (.lst []):=by rw[<-hJ];exact ao
  have g1:=g.trans s1
  have hGD:G D=none:=by
   cases e:G D with
   |none=>rfl
   |some o=>have:=g _ _ e;rw[hD]at this;cases this
  obtain⟨VL,yA,_⟩:=zy.sc.kept
  have amU:=g1 _ _ yA
  have JD:da≠D:=λe=>by rw[e,hGD]at yA;cases yA
  have LO:=zy.sc.rl.len
  refine⟨_,rfl,q,rfl,⟨_,a_.of (s1 _ _ hq)⟩,?_⟩
  have nda:∀{b o},H b=some o->(∀z,o≠.dT z)->b∉[da,D]:=λ{b o}e n=>by
   simp only[aY,iw,gE,iS]
   exact⟨λq=>by rw[q,g _ _ yA]at e;exact n _ (bO e).symm,aF e hD⟩
  have Y0:∀{H'},Sx [da,D] H1 H'->Sd H H':=λ{H'}sx b o e n=>sx b o (s1 _ _ e) (nda e n)
  refine fY (ex:=[da,D]) (yz (λH' sx=>sx.sq (a_.of (s1 _ _ hq)) (nda hq (λ_ e=>by cases e))))
   (λi σ H'=>∃(v3 v4 v5 v6:Option V)(acc:List (Nat×Nat)),σ=[some (.ref p),some (.ref q),some (.ref D),v3,v4,v5,v6]/\Sx [da,D] H1 H'/\CZ CS CD (gr G H1 H') p sp ra pa da st/\g_ vV H' D acc/\acc.length<=8000*i/\∀x,x∈acc↔∃b∈bs.take i,afH st.codas st.rules b x)
   ⟨none,none,none,none,[],rfl,.refl,zy.same (tR g1 (λ_ _ h=>h)),gm BW,by simp,by simp⟩ (λi σ H'⟨_,_,_,_,_,_,q,_⟩=>q) ?_ ?_
  ·rintro i x σ H3 H4 hi ⟨v3,v4,v5,v6,acc,rfl,sx,Zd,Pl,N6,tF⟩ jh it
   obtain⟨t,rfl,hti⟩:=fD it
   obtain⟨b,hbi,kf⟩:=cN hp hti
   have hbm:=cC hbi
   obtain⟨hok,hmem⟩:=hbs b hbm
   obtain⟨_,lK,lH⟩:=bR hok
   have qc:=sx.then jh
   obtain⟨a1,q1,c1,c2,c3⟩:=ab5 _ _ _ _ (Y0 qc) kf
   have FK:=bx dJ jh Pl
   refine⟨t,_,rfl,lu.of c1,rfl,_,_,rfl,_,_,rfl,rfl,?_⟩
   refine⟨_,rfl,?_⟩
   dsimp only[f6]
   refine jq c2 hok λH5 y s5 Qg hW=>?_
   have ER:=qc.then s5
   have afI:CZ CS CD (gr G H1 H5) p sp ra pa da st:=Zd.same (tQ (jh.trans s5))
   have hd5:=afI.same iD
   obtain⟨⟨dx,W_⟩,hS5⟩:=hd5
   obtain⟨sdx,aj7⟩:=hS5.ob
   refine⟨_,rfl,p,CD,dx,_,_,rfl,W_,W.cl,W.nS,yD _ _,sp,sdx,_,rfl,aj7,fT _ _ _ _ dd dd dd dd,_,rfl,_,rfl,p,CD,dx,_,_,rfl,W_,W.cl,W.nC,VS _ _,sp,ra,pa,da,y,st.rules,b.1,st.codas,rfl,hS5,hW,hok,λH6 l Iv hS6 ZK Kn kn6=>?_⟩
   obtain⟨api,afJ,_⟩:=hS5.kept
   have sd6:=B2 afJ Iv
   have hW6:=zf CW _ _ _ _ sd6 hW
   have P8:=sd6.ins W_
   have aj8:H6 q1=some (.lst (bU b.2)):=sd6.lst (s5 _ _ c3)
   obtain⟨E4,wa,wsy,wm,Kg,_⟩:=id hW6
   have hn:((ow b.1).map (sc st.codas st.rules b.1)).length=(ow b.1).length:=aA _
   have V4:=wJ hok
   have d5:∀c,H5 c=none->H1 c=none:=λc hc=>by
    cases e:H1 c with
    |none=>rfl
    |some o=>
     by_cases z1:c=da
     ·subst z1;rw[afJ]at hc;cases hc
     ·by_cases z2:c=D
      ·subst z2
       obtain⟨vs,hv,_⟩:=(bx dJ s5 FK).lst
       rw[hv]at hc;cases hc
      ·have:=ER c o e (by simp[z1,z2])
       rw[hc]at this;cases this
   have aj9:CZ CS CD (gr G H1 H6) p sp ra pa da st:=by
    obtain⟨⟨dx5,apj⟩,aj'⟩:=afI
    obtain⟨dxG,hpG⟩:=zy.ob
    refine⟨⟨dx,by rw[ki hpG];exact P8⟩,?_⟩
    exact(aam aj' iD hS6 kn6).same (aal d5)
   have YR:=bx dJ s5 FK
   obtain⟨vs5,alk,aj_⟩:=YR.lst
   have Xa:H6 D=some (.lst vs5):=Iv _ _ alk (by simp only[bA];exactλe=>JD e.symm)
   have hL6:g_ vV H6 D acc:=by
    obtain⟨as,e1,e2⟩:=YR
    refine⟨as,sd6.lst e1,Paired.uD e2 λc x gg=>?_⟩
    have hcD:c≠D:=λe=>by have Ze:hide H5 D c=_:=gg;unfold hide at Ze;rw[ax e]at Ze;cases Ze
    show hide H6 D c=_
    have Ze:hide H5 D c=_:=gg
    rw[hide_ne hcD]at Ze⊢;exact sd6.tup Ze
   refine⟨_,rfl,.inl ⟨rfl,_,a_.of Xa⟩,?_⟩
   refine⟨_,rfl,p,CD,dx,_,_,rfl,P8,W.cl,W.nS,yD _ _,_,rfl,_,rfl,y,E4,_,rfl,Kg,iM _ _ _ dd dd dd,_,rfl,y,q1,b.1,b.2,rfl,hW6,hok,a_.of aj8,hmem,λH7 i0 s7 hi0=>?_⟩
   have Z9:=Kn.same s7
   refine⟨l,_,_,.int (sc st.codas st.rules b.1 (bh b.2):Nat),rfl,rfl,YZ Z9,at_of (j:=i0) rfl (by rw[bz,bz,hi0];rfl),?_⟩
   refine⟨_,rfl,sp,ra,pa,da,l,st.rules,_,_,rfl,hS6.same s7,Z9,by rw[hn];omega,λo ho=>?_,λH8 r rs s8 iE sI hrs hr8=>?_⟩
   ·obtain⟨z,hz,rfl⟩:=aM.mp ho
    exact⟨NQ lH hmem hz,NQ lH hz hmem,zp LO lH hmem hz,zp LO lH hz hmem⟩
   have s68:=s7.trans s8
   have hL8:=bx dJ s68 hL6
   have h8D:=s68 _ _ Xa
   obtain⟨as,e1,e2⟩:=hr8
   have aka:as.length=rs.length:=bF e2
   refine⟨D,r,vs5,_,rfl,rfl,h8D,e1,?_,some (.ref a1),some (.ref q1),some (.ref y),some (.ref l),acc++rs,rfl,?_,?_,?_,?_,?_⟩
   ·rw[aj_,aA,aka,c7]
    rw[aA,P2]at hi
    omega
   ·exact c8 ((ER.trans (Iv.weak (by simp))).then s68) (by simp)
   ·exact aj9.same (λc o e=>acA BW hGD _ _ (tQ s68 _ _ e))
   ·refine Bd hL8 h8D (Paired.uD e2 λc x gg=>?_)
    have Ze:H8 c=_:=gg
    show hide H8 D c=_
    rw[hide_ne (λe=>by rw[e,h8D]at Ze;cases Ze)];exact gg
   ·rw[bZ];omega
   ·intro x
    rw[d7,tF,hrs,cD hbi]
    constructor
    ·rintro(⟨b',Ec,hx⟩|⟨o,ho,h1,h2⟩)
     ·exact⟨b',jB _ Ec,hx⟩
     ·obtain⟨z,hz,rfl⟩:=aM.mp ho
      exact⟨b,iG _ (by simp),z,hz,h1,h2⟩
    ·rintro⟨b',Ec,hx⟩
     rcases d7.mp Ec with h|h
     ·exact .inl ⟨b',h,hx⟩
     ·simp only[bA]at h
      subst h
      obtain⟨z,hz,h1,h2⟩:=hx
      exact .inr ⟨_,aM.mpr ⟨z,hz,rfl⟩,h1,h2⟩
  ·rintro σ H3 ⟨v3,v4,v5,v6,acc,rfl,sx,Zd,Pl,N6,tF⟩
   rw[aA,P2]at N6 tF
   rw[f7]at tF
   refine⟨_,rfl,D,acc,rfl,Pl.at dJ,by omega,λx hx=>?_,λr as rs iE has hrs sI=>?_⟩
   ·obtain⟨b,hb,z,hz,_,rfl⟩:=(tF x).mp hx
    obtain⟨hok,hmem⟩:=hbs b hb
    obtain⟨_,lK,lH⟩:=bR hok
    exact⟨zp LO lH hz hmem,zp LO lH hmem hz⟩
   ·have Zc:=Zd.same iD
    obtain⟨Pj,acB,_⟩:=Zc.sc.kept
    have afL:∀b,H3 b=none->H b=none:=λb hb=>by
     cases e:H b with
     |none=>rfl
     |some o=>
      by_cases z1:b=da
      ·subst z1;rw[acB]at hb;cases hb
      ·have:=sx b o (s1 _ _ e) (by simp[z1,aF e hD])
       rw[hb]at this;cases this
    have f3:Fr p H H3:=⟨λb o e _ n=>Y0 sx b o e n,afL⟩
    refine k _ r rs (f3.trans (Fr.same (aw iE))) ?_ (afL _ iE) ⟨as,ao,gv dJ (aw iE) has⟩ oo ?_
    ·exact Zd.same (λc o e=>tQ (aw iE) _ _ (zl (λb h=>s1.free h) _ _ e))
    ·intro x
     rw[hrs,tF]
     constructor
     ·rintro⟨b,hb,hx⟩
      obtain⟨hok,hmem⟩:=hbs b hb
      obtain⟨_,lK,lH⟩:=bR hok
      obtain⟨pp,Xl,e⟩:=(HC (ks:=st.rules) (codas:=st.codas) lH hmem x).mpr hx
      exact⟨pp,(HD pp).mpr ⟨(b.1,bh b.2),aM.mpr ⟨b,hb,rfl⟩,Xl⟩,e⟩
     ·rintro⟨pp,Xl,e⟩
      obtain⟨xx,hxx,Xl⟩:=(HD pp).mp Xl
      obtain⟨b,hb,rfl⟩:=aM.mp hxx
      obtain⟨hok,hmem⟩:=hbs b hb
      obtain⟨_,lK,lH⟩:=bR hok
      exact⟨b,hb,(HC (ks:=st.rules) (codas:=st.codas) lH hmem x).mp ⟨pp,Xl,e⟩⟩
def xQ(CS CD:aa)(K:aL)(cl:sk->mC):Sp:=λvs H Q _=>∃(p q:aa)(G:Hp)(st:dB)(bs:List (br×List Nat)),vs=[.ref p,.ref q]/\aP G H/\Dk CS CD G p st/\EX H q bs/\bs.length<=60/\(∀b∈bs,b.1.length<=60)/\mU CS CD G H p (bD st (cl (qm bs))).1 (bD st (cl (qm bs))).2 Q
theorem V9:a0 ["self","told","refusal","ranks"] ["self","told"] (aB (sD 10)):={}
theorem aan:a0 ["self","told","refusal"] ["self","told"] (aB (sD 11)):={}
theorem Cb(d:sk):(!decide (V.int (dt d)=V.int 0))=decide (dt d<0):=by
 rw[<-nZ,dN]
 constructor
 ·intro h;exact B_ λe=>h (by rw[e])
 ·intro h e;have:=V.int.inj e;omega
theorem NR{bs:List (br×List Nat)}(h:¬dt (qm bs)<0):bs.length<=10/\∀b∈bs,dn b.1=true/\bh b.2∈ow b.1:=by
 obtain⟨h1,h2⟩:=xP h
 exact⟨by rw[aA]at h1;exact h1,λb hb=>h2 (b.1,bh b.2) (aM.mpr ⟨b,hb,rfl⟩)⟩
theorem NS(rows:List (List Nat))(a m:Nat)(h:rows.length<=a)(h2:∀r∈rows,r.length<=m):(lsd rows).length<=1+a*(m+1):=by
 have h1:=jv (λr:List Nat=>r.length::r) (m+1) rows (λr hr=>by have:=h2 r hr;rw[aS];omega)
 have h3:=jk (m+1) h
 show(_::_).length<=_
 rw[aS];omega
theorem V'(F:il K "learn" "Desk.learn" (sD 10) f fd)(T:lB K mg)(W:DT K CD)(Gr:Fn P w K mg base "told_refusal" ["told"] 5 (ph K))(Mp:Mt P w K mg base CD "pairs" ["self","told"] 5 (zq CS CD))(Gk:Fn P w K mg base "find_ranks" ["scale","pairs"] 2 (E6 K CS))(Gl:Fn P w K mg base "listed" ["rows"] 1 (mS K)):cz P w K mg base hC 6 f fd ["self","told"] (xQ CS CD K .learn):=by
 refine F.ok V9 (λfF A outer s H vs Q E hr h=>?_)
 ·obtain⟨p,q,G,st,bs,rfl,g,hd,hq,hbl,hbw,k⟩:=h
  refine⟨_,ak (cH 2 V9.nd (c9 Gr hr rfl (ae (pv 1) ai)))<|ak (eG (bK zM (pv 2) bo (bW _)) (aD (aX (bP (ae (pv 2) ai)))) cf)<|ak (cH 3 V9.nd (c9 Gk (hr.mono dd) rfl (ae (bL (pv 0) rfl) (ae (dZ Mp hr (pv 0) (ae (pv 1) ai)) ai))))<|ak (eG (bK aa2 (pv 3) QE (bW _)) (aD (aX (bP (ae (eC T.Ya rfl) ai)))) cf)<|aD (aX (c9 Gl (hr.mono dd) rfl (ae (pv 3) ai))),?_⟩
  refine⟨_,rfl,q,bs,rfl,hq,hbl,hbw,λH1 s1=>?_⟩
  refine⟨_,rfl,rfl,_,rfl,?_⟩
  refine kg (Cb _) (λh1=>?_) (λh1=>?_)
  ·rw[bN]at h1
   have e:bD st (.learn (qm bs))=(st,fU (dt (qm bs))):=ax h1
   rw[e]at k
   exact⟨_,rfl,by show 1<=az;decide,λt iE=>k.quiet g hd (s1.trans (aw iE)) (s1.free iE) ao⟩
  rw[fz]at h1
  have e:bD st (.learn (qm bs))=(st,match Sw63.learnt st.codas st.rules (qm bs)with|none=>fU (-6)|some l=>⟨(l.length:Nat),l⟩):=aq h1
  rw[e]at k
  obtain⟨acC,hbs⟩:=NR h1
  obtain⟨sp,ra,pa,da,zy⟩:=hd
  obtain⟨⟨dx,hpG⟩,hSG⟩:=id zy
  have qo:=s1 _ _ (g _ _ hpG)
  refine⟨_,rfl,p,CD,dx,_,_,rfl,qo,W.cl,W.nS,yD _ _,_,rfl,p,dx,_,rfl,qo,jl _ _ dd dd,_,rfl,p,q,sp,ra,pa,da,G,st,bs,rfl,g.trans s1,zy,aW gQ _ _ _ _ s1 hq,acC,hbs,λH2 pl ps f2 V_ akb mY akc acD=>?_⟩
  have Mv:=(V_.same iD).sc
  have f02:=(Fr.same (p:=p) s1).trans f2
  have NT:Dk CS CD (gr G H H2) p st:=⟨sp,ra,pa,da,V_.same (zl λb h=>s1.free h)⟩
  have hle:=Oz hSG.rl.nd acD
  refine⟨sp,ra,pa,da,pl,st.rules,ps,rfl,Mv,mY,by omega,λhn H3 s3=>?_,λH3 r rows hs s3 iE hr3 sI akd=>?_⟩
  ·rw[hle]at hn
   rw[hn]at k
   refine⟨_,rfl,rfl,_,rfl,?_⟩
   show if true=true then _ else _
   rw[ax rfl]
   refine⟨by show 1<=az;decide,λt ht=>?_⟩
   have f3:=f02.trans (Fr.same s3)
   exact k _ t (f3.trans (Fr.same (aw ht))) (NT.same (tQ (s3.trans (aw ht)))) (f3.dom _ ht) ao
  ·rw[hle]at hs
   rw[hs]at k
   refine⟨_,rfl,rfl,_,rfl,?_⟩
   show if false=true then _ else _
   rw[aq dd]
   refine⟨_,rfl,r,rows,rfl,hr3,bV (NS rows 16 16 sI akd) dd,λH4 t s4 ZS ht=>?_⟩
   have f4:=(f02.trans (Fr.same s3)).trans (Fr.same s4)
   refine k _ t f4 (NT.same (tQ (s3.trans s4))) ((f02.trans (Fr.same s3)).dom _ ZS) ?_
   rw[ht,su]
theorem Zf(F:il K "fitting" "Desk.fitting" (sD 11) f fd)(T:lB K mg)(W:DT K CD)(WS:ST K CS)(Gr:Fn P w K mg base "told_refusal" ["told"] 5 (ph K))(Mp:Mt P w K mg base CD "pairs" ["self","told"] 5 (zq CS CD))(Go:Fn P w K mg base "find_orders" ["scale","pairs"] 3 (B7 K CS))(Gl:Fn P w K mg base "listed" ["rows"] 1 (mS K)):cz P w K mg base hC 6 f fd ["self","told"] (xQ CS CD K .fitting):=by
 refine F.ok aan (λfF A outer s H vs Q E hr h=>?_)
 ·obtain⟨p,q,G,st,bs,rfl,g,hd,hq,hbl,hbw,k⟩:=h
  refine⟨_,ak (cH 2 aan.nd (c9 Gr hr rfl (ae (pv 1) ai)))<|ak (eG (bK zM (pv 2) bo (bW _)) (aD (aX (bP (ae (pv 2) ai)))) cf)<|ak (eG (bK x5 (bw aZ rfl T.len cP (ae (bL (bL (pv 0) rfl) rfl) ai)) (eC T.K8 rfl) (bW _)) (aD (aX (bP (ae (eC T.tooMany rfl) ai)))) cf)<|aD (aX (c9 Gl (hr.mono dd) rfl (ae (c9 Go (hr.mono dd) rfl (ae (bL (pv 0) rfl) (ae (dZ Mp hr (pv 0) (ae (pv 1) ai)) ai))) ai))),?_⟩
  refine⟨_,rfl,q,bs,rfl,hq,hbl,hbw,λH1 s1=>?_⟩
  refine⟨_,rfl,rfl,_,rfl,?_⟩
  refine kg (Cb _) (λh1=>?_) (λh1=>?_)
  ·rw[bN]at h1
   have e:bD st (.fitting (qm bs))=(st,fU (dt (qm bs))):=ax h1
   rw[e]at k
   exact⟨_,rfl,by show 1<=az;decide,λt iE=>k.quiet g hd (s1.trans (aw iE)) (s1.free iE) ao⟩
  rw[fz]at h1
  obtain⟨acC,hbs⟩:=NR h1
  obtain⟨sp,ra,pa,da,zy⟩:=id hd
  obtain⟨⟨dx,hpG⟩,hSG⟩:=id zy
  have qo:=s1 _ _ (g _ _ hpG)
  have WL:=hSG.same (g.trans s1)
  obtain⟨ake,akf⟩:=WL.ob
  have akg:H1 ra=some (.lst (bU st.rules)):=WL.rules
  refine⟨_,rfl,p,CD,dx,_,_,rfl,qo,W.cl,W.nS,yD _ _,sp,CS,ake,_,_,rfl,akf,WS.cl,WS.nR,Pc _ _ _ _,ra,_,rfl,.inl (a_.of akg),_,_,rfl,rfl,_,rfl,?_⟩
  have e5:decide ((5:Int)<((bU st.rules).length:Nat))=decide (Sw63.ORDERED<st.rules.length):=by rw[aR,dN];show(5:Int)<_↔5<st.rules.length;omega
  refine kg e5 (λh2=>?_) (λh2=>?_)
  ·rw[bN]at h2
   have e:bD st (.fitting (qm bs))=(st,fU (-4)):=(aq h1).trans (ax h2)
   rw[e]at k
   exact⟨by show 1<=az;decide,λt iE=>k.quiet g hd (s1.trans (aw iE)) (s1.free iE) ao⟩
  rw[fz]at h2
  have h5:st.rules.length<=5:=by have:¬5<st.rules.length:=h2;omega
  have e:bD st (.fitting (qm bs))=(st,⟨((HB st.codas st.rules (qm bs)).length:Nat),HB st.codas st.rules (qm bs)⟩):=(aq h1).trans (aq h2)
  rw[e]at k
  refine⟨_,rfl,p,CD,dx,_,_,rfl,qo,W.cl,W.nS,yD _ _,_,rfl,p,dx,_,rfl,qo,jl _ _ dd dd,_,rfl,p,q,sp,ra,pa,da,G,st,bs,rfl,g.trans s1,zy,aW gQ _ _ _ _ s1 hq,acC,hbs,λH2 pl ps f2 V_ akb mY akc acD=>?_⟩
  have Mv:=(V_.same iD).sc
  have f02:=(Fr.same (p:=p) s1).trans f2
  have NT:Dk CS CD (gr G H H2) p st:=⟨sp,ra,pa,da,V_.same (zl λb h=>s1.free h)⟩
  have hfe:=KP hSG.rl.nd acD
  refine⟨sp,ra,pa,da,pl,st.rules,ps,rfl,Mv,h5,mY,by omega,λH3 r s3 hr3 iE=>?_⟩
  have hlen:(lsd ((X2 st.rules st.rules.length [([],ps)]).map (·.1))).length<=8000000:=by
   refine bV (NS _ 3125 5 ?_ ?_) dd
   ·rw[aA,zj]
    have h:=zk h5 [([],ps)] st.rules.length
    have:5^st.rules.length<=5^5:=jX dd h5
    simp only[jL,jW]at h
    omega
   ·intro r' Kd
    rw[zj]at Kd
    obtain⟨x,hx,rfl⟩:=aM.mp Kd
    have:=(B6 _ x hx).1
    omega
  refine⟨r,_,rfl,hr3,hlen,λH4 t s4 ZS ht=>?_⟩
  have f4:=(f02.trans (Fr.same s3)).trans (Fr.same s4)
  refine k _ t f4 (NT.same (tQ (s3.trans s4))) ((f02.trans (Fr.same s3)).dom _ ZS) ?_
  rw[ht,hfe,su]
theorem mU.go{H3:Hp}{p:aa}{st:dB}{a:JL}{Q:VK}(h:mU CS CD G H p st a Q)(s:aP H H3):mU CS CD (gr G H H3) H3 p st a Q:=
 λH' r f d hr e=>h H' r ((Fr.same s).trans f) (d.same (aal λ_ h=>s.free h)) (s.free hr) e
theorem nG(s:aP H H1)(h:H rp=none)(sx:Sx [rp] H1 H2):aP H H2:=λb o e=>sx b o (s _ _ e) (by simp only[bA];exact aF e h)
theorem Py{A B:Prop}{c:Bool}(e:c=true)(h:A):if c=true then A else B:=by rw[ax e];exact h
theorem gR{A B:Prop}{c:Bool}(e:c=false)(h:B):if c=true then A else B:=by rw[aq (by rw[e];decide)];exact h
def zr(K:aL)(CR CS CD:aa):Sp:=λvs H Q _=>∃(p rp qd a:aa)(G H0:Hp)(st:dB)(wh:Int)(l:List Int)(x:mC),vs=[.ref p,.int wh,.ref rp]/\aP G H0/\Dk CS CD G p st/\aP H0 H/\H0 rp=none/\FJ CR qd a H rp 1/\a_ K (hide H rp) a (sZ (wh::l))/\jT (wh::l) x/\(3<=wh/\wh<=7)/\mU CS CD G H0 p (bD st x).1 (bD st x).2 Q
def nAb:List ag:=["desk","which","reader","sounds","row"]
theorem acE:a0 nAb ["desk","which","reader"] (aB (top 69)):={}
theorem Wa{CR:aa}(F:il K "answer_about_word" "answer_about_word" (top 69) f fd)(T:lB K mg)(Mw:Mt P w K mg base CR "take_word" ["self"] 2 (zc K CR))(Ml:Mt P w K mg base CR "take_list" ["self"] 2 (s_ K CR))(M3:Mt P w K mg base CD "many" ["self","sounds"] 5 (E9 CS CD))(M4:Mt P w K mg base CD "best" ["self","sounds"] 5 (E_ CS CD))(M7:Mt P w K mg base CD "contenders" ["self","sounds"] 5 (Fb CS CD))(M5:Mt P w K mg base CD "profile" ["self","sounds","row"] 6 (Pw CS CD K .profile))(M6:Mt P w K mg base CD "bounding" ["self","sounds","row"] 6 (Pw CS CD K .bounding)):
  cz P w K mg base hC 7 f fd ["desk","which","reader"] (zr K CR CS CD):=by
 refine F.ok acE (λfF A outer s H vs Q E hr h=>?_)
 ·obtain⟨p,rp,qd,a,G,H0,st,wh,l,x,rfl,g,hd,s0,wL,Wb,Xc,hc,hwh,k⟩:=h
  refine⟨_,ak (cH 3 acE.nd (gD Mw (hr.mono dd) (pv 2)))<|ak (eG (bK ic (pv 1) (eC T.Z6 rfl) (bW _)) (aD (aX (dZ M3 (hr.mono dd) (pv 0) (ae (pv 3) ai)))) cf)<|ak (eG (bK ic (pv 1) (eC T.Z7 rfl) (bW _)) (aD (aX (dZ M4 (hr.mono dd) (pv 0) (ae (pv 3) ai)))) cf)<|ak (eG (bK ic (pv 1) (eC T.yk rfl) (bW _)) (aD (aX (dZ M7 (hr.mono dd) (pv 0) (ae (pv 3) ai)))) cf)<|ak (cH 4 acE.nd (gD Ml (hr.mono dd) (pv 2)))<|ak (eG (bK ic (pv 1) (eC T.cProfile rfl) (bW _)) (aD (aX (dZ M5 hr (pv 0) (ae (pv 3) (ae (pv 4) ai))))) cf)<|aD (aX (dZ M6 hr (pv 0) (ae (pv 3) (ae (pv 4) ai)))),?_⟩
  obtain⟨orp,afM⟩:∃o,H rp=some o:=⟨_,Wb⟩
  have one:∀(w:br)(H1:Hp)(ws:aa),Sx [rp] H H1->fE (fr H H1) ws w->aP H0 H1/\fE H1 ws w/\aP (gr G H0 H1) H1/\Dk CS CD (gr G H0 H1) p st:=λw H1 ws s1 Ke=>by
   have PZ:=nG s0 wL s1
   exact⟨PZ,aW bJ _ _ _ _ B0 Ke,iD,hd.same (tR g PZ)⟩
  cases hc with
  |begins=>omega
  |codas z=>omega
  |rules r Kd=>omega
  |learn bs h1 h2=>omega
  |fitting bs h1 h2=>omega
  |many w hw=>
   refine⟨_,rfl,rp,qd,_,rfl,Wb,d4 _ _ dd dd,rp,qd,a,_,1,w,[],rfl,Wb,Xc,by rw[cW];rfl,by omega,λH1 ws s1 Cc Ke=>?_⟩
   obtain⟨PZ,hw',P0,lD⟩:=one w H1 ws s1 Ke
   obtain⟨sp,ra,pa,da,⟨dx,qo⟩,_⟩:=lD.same P0
   refine⟨_,rfl,rfl,_,rfl,Py dd ?_⟩
   exact⟨_,rfl,p,dx,_,rfl,qo,jl _ _ dd dd,_,rfl,p,ws,gr G H0 H1,st,w,rfl,P0,lD,hw',hw,k.go PZ⟩
  |best w hw=>
   refine⟨_,rfl,rp,qd,_,rfl,Wb,d4 _ _ dd dd,rp,qd,a,_,1,w,[],rfl,Wb,Xc,by rw[cW];rfl,by omega,λH1 ws s1 Cc Ke=>?_⟩
   obtain⟨PZ,hw',P0,lD⟩:=one w H1 ws s1 Ke
   obtain⟨sp,ra,pa,da,⟨dx,qo⟩,_⟩:=lD.same P0
   refine⟨_,rfl,rfl,_,rfl,gR dd ?_⟩
   refine⟨_,rfl,rfl,_,rfl,Py dd ?_⟩
   exact⟨_,rfl,p,dx,_,rfl,qo,jl _ _ dd dd,_,rfl,p,ws,gr G H0 H1,st,w,rfl,P0,lD,hw',hw,k.go PZ⟩
  |contenders w hw=>
   refine⟨_,rfl,rp,qd,_,rfl,Wb,d4 _ _ dd dd,rp,qd,a,_,1,w,[],rfl,Wb,Xc,by rw[cW];rfl,by omega,λH1 ws s1 Cc Ke=>?_⟩
   obtain⟨PZ,hw',P0,lD⟩:=one w H1 ws s1 Ke
   obtain⟨sp,ra,pa,da,⟨dx,qo⟩,_⟩:=lD.same P0
   refine⟨_,rfl,rfl,_,rfl,gR dd ?_⟩
   refine⟨_,rfl,rfl,_,rfl,gR dd ?_⟩
   refine⟨_,rfl,rfl,_,rfl,Py dd ?_⟩
   exact⟨_,rfl,p,dx,_,rfl,qo,jl _ _ dd dd,_,rfl,p,ws,gr G H0 H1,st,w,rfl,P0,lD,hw',hw,k.go PZ⟩
  |profile w r hw Kd=>
   refine⟨_,rfl,rp,qd,_,rfl,Wb,d4 _ _ dd dd,rp,qd,a,_,1,w,CN r,rfl,Wb,Xc,rfl,by omega,λH1 ws s1 Cc Ke=>?_⟩
   refine⟨_,rfl,rfl,_,rfl,gR dd ?_⟩
   refine⟨_,rfl,rfl,_,rfl,gR dd ?_⟩
   refine⟨_,rfl,rfl,_,rfl,gR dd ?_⟩
   have ZN:(5::nT (w,r)).drop (1+(tZ w).length)=(((m8 r).length:Nat):Int)::(m8 r++[]):=by
    have h0:(5::nT (w,r)).drop 1=tZ w++CN r:=rfl
    rw[lQ h0,ze,cW]
   refine⟨_,rfl,rp,qd,_,rfl,Cc,d4 _ _ dd dd,rp,qd,a,_,_,m8 r,[],rfl,Cc,bE (nE s1) Xc,ZN,λH2 rs s2 ui WO=>?_⟩
   have nX:=s1.trans s2
   have lP:=nG s0 wL nX
   have hw2:fE H2 ws w:=aW bJ _ _ _ _ (λb o e=>B0 _ _ (Jz afM s2 _ _ e)) Ke
   have ada:H2 rs=some (.lst (bU r)):=by rw[<-zd];exact B0 _ _ WO
   have lD:Dk CS CD (gr G H0 H2) p st:=hd.same (tR g lP)
   obtain⟨sp,ra,pa,da,⟨dx,qo⟩,_⟩:=lD.same iD
   refine⟨_,rfl,rfl,_,rfl,Py dd ?_⟩
   exact⟨_,rfl,p,dx,_,rfl,qo,jl _ _ dd dd,_,rfl,_,rfl,p,ws,rs,gr G H0 H2,st,w,r,rfl,iD,lD,hw2,hw,ada,k.go lP⟩
  |bounding w r hw Kd=>
   refine⟨_,rfl,rp,qd,_,rfl,Wb,d4 _ _ dd dd,rp,qd,a,_,1,w,CN r,rfl,Wb,Xc,rfl,by omega,λH1 ws s1 Cc Ke=>?_⟩
   refine⟨_,rfl,rfl,_,rfl,gR dd ?_⟩
   refine⟨_,rfl,rfl,_,rfl,gR dd ?_⟩
   refine⟨_,rfl,rfl,_,rfl,gR dd ?_⟩
   have ZN:(6::nT (w,r)).drop (1+(tZ w).length)=(((m8 r).length:Nat):Int)::(m8 r++[]):=by
    have h0:(6::nT (w,r)).drop 1=tZ w++CN r:=rfl
    rw[lQ h0,ze,cW]
   refine⟨_,rfl,rp,qd,_,rfl,Cc,d4 _ _ dd dd,rp,qd,a,_,_,m8 r,[],rfl,Cc,bE (nE s1) Xc,ZN,λH2 rs s2 ui WO=>?_⟩
   have nX:=s1.trans s2
   have lP:=nG s0 wL nX
   have hw2:fE H2 ws w:=aW bJ _ _ _ _ (λb o e=>B0 _ _ (Jz afM s2 _ _ e)) Ke
   have ada:H2 rs=some (.lst (bU r)):=by rw[<-zd];exact B0 _ _ WO
   have lD:Dk CS CD (gr G H0 H2) p st:=hd.same (tR g lP)
   obtain⟨sp,ra,pa,da,⟨dx,qo⟩,_⟩:=lD.same iD
   refine⟨_,rfl,rfl,_,rfl,gR dd ?_⟩
   exact⟨_,rfl,p,dx,_,rfl,qo,jl _ _ dd dd,_,rfl,_,rfl,p,ws,rs,gr G H0 H2,st,w,r,rfl,iD,lD,hw2,hw,ada,k.go lP⟩
def LV(K:aL)(CS CD:aa):Sp:=λvs H Q _=>∃(p c:aa)(G:Hp)(st:dB)(l:List Int)(x:mC),vs=[.ref p,.ref c]/\aP G H/\Dk CS CD G p st/\a_ K H c (sZ l)/\jT l x/\mU CS CD G H p (bD st x).1 (bD st x).2 Q
def nCa:List ag:=["desk","call","reader","which","told"]
theorem Zg:a0 nCa ["desk","call"] (aB (top 70)):={}
theorem JQ{l:List Int}{x:mC}(h:jT l x):∃wh l',l=wh::l':=by cases h<;>exact⟨_,_,rfl⟩
theorem Zh{CR:aa}(F:il K "answer_call" "answer_call" (top 70) f fd)(T:lB K mg)(Mk:Kp P w K mg base CR "Reader" ["self","numbers"] 1 (wG K CR))(Mt':Mt P w K mg base CR "take" ["self"] 1 (uc K CR))(Ml:Mt P w K mg base CR "take_list" ["self"] 2 (s_ K CR))(Ma:Mt P w K mg base CR "take_all_told" ["self"] 4 (EZ K CR))(M0:Mt P w K mg base CD "begin" ["self"] 3 (E7 CS CD))(M1:Mt P w K mg base CD "set_codas" ["self","codas"] 1 (E8 CS CD))(M2:Mt P w K mg base CD "use_rules" ["self","rules"] 3 (VZ CS CD))(Gw:Fn P w K mg base "answer_about_word" ["desk","which","reader"] 7 (zr K CR CS CD))(M8:Mt P w K mg base CD "learn" ["self","told"] 6 (xQ CS CD K .learn))(M9:Mt P w K mg base CD "fitting" ["self","told"] 6 (xQ CS CD K .fitting)):cz P w K mg base hC 8 f fd ["desk","call"] (LV K CS CD):=by
 refine F.ok Zg (λfF A outer s H vs Q E hr h=>?_)
 ·obtain⟨p,c,G,st,l,x,rfl,g,hd,Xc,hc,k⟩:=h
  refine⟨_,ak (cH 2 Zg.nd (lC Mk (hr.mono dd) rfl (ae (pv 1) ai)))<|ak (cH 3 Zg.nd (gD Mt' (hr.mono dd) (pv 2)))<|ak (eG (bK ic (pv 3) (eC T.Yb rfl) (bW _)) (aD (aX (gD M0 (hr.mono dd) (pv 0)))) cf)<|ak (eG (bK ic (pv 3) (eC T.abz rfl) (bW _)) (aD (aX (dZ M1 (hr.mono dd) (pv 0) (ae (gD Mt' (hr.mono dd) (pv 2)) ai)))) cf)<|ak (eG (bK ic (pv 3) (eC T.abA rfl) (bW _)) (aD (aX (dZ M2 (hr.mono dd) (pv 0) (ae (gD Ml (hr.mono dd) (pv 2)) ai)))) cf)<|ak (eG (bK oz (pv 3) (pA (ae (eC T.Z6 rfl) (ae (eC T.Z7 rfl) (ae (eC T.cProfile rfl) (ae (eC T.OM rfl) (ae (eC T.yk rfl) ai)))))) rfl) (aD (aX (c9 Gw hr rfl (ae (pv 0) (ae (pv 3) (ae (pv 2) ai)))))) cf)<|ak (cH 4 Zg.nd (gD Ma (hr.mono dd) (pv 2)))<|ak (eG (bK ic (pv 3) (eC T.abB rfl) (bW _)) (aD (aX (dZ M8 (hr.mono dd) (pv 0) (ae (pv 4) ai)))) cf)<|aD (aX (dZ M9 (hr.mono dd) (pv 0) (ae (pv 4) ai))),?_⟩
  obtain⟨wh,l',rfl⟩:=JQ hc
  refine⟨_,rfl,?_⟩
  dsimp only[f6]
  refine yr λH1 rp qd s1 wL Cc=>?_
  refine⟨_,rfl,rp,qd,_,rfl,Cc,d4 _ _ dd dd,rp,qd,c,_,0,wh,rfl,Cc,bE (oZ wL s1) Xc,rfl,λH2 sx2 ui=>?_⟩
  have lP:=nG s1 wL sx2
  have Wc:a_ K (hide H2 rp) c (sZ (wh::l')):=bE (oZ wL lP) Xc
  have hd2:Dk CS CD (gr G H H2) p st:=hd.same (tR g lP)
  obtain⟨sp,ra,pa,da,⟨dx,w6⟩,_⟩:=hd2.same iD
  have about:3<=wh/\wh<=7->∀t,H2 t=none->zr K CR CS CD [.ref p,.int wh,.ref rp] (upd H2 t (.tup [.int 3,.int 4,.int 5,.int 6,.int 7])) Q E0:=λhwh t ht=>by
   have htr:rp≠t:=aF ui ht
   refine⟨p,rp,qd,c,G,H,st,wh,l',x,rfl,g,hd,lP.trans (aw ht),wL,aw ht _ _ ui,bE (gk rp (aw ht)) Wc,hc,hwh,k⟩
  cases hc with
  |begins=>
   refine⟨_,rfl,rfl,_,rfl,Py dd ?_⟩
   exact⟨_,rfl,p,dx,_,rfl,w6,jl _ _ dd dd,p,gr G H H2,st,rfl,iD,hd2,k.go lP⟩
  |codas z=>
   refine⟨_,rfl,rfl,_,rfl,gR dd ?_⟩
   refine⟨_,rfl,rfl,_,rfl,Py dd ?_⟩
   refine⟨_,rfl,p,dx,_,rfl,w6,jl _ _ dd dd,_,rfl,rp,qd,_,rfl,ui,d4 _ _ dd dd,rp,qd,c,_,1,(z:Int),rfl,ui,Wc,rfl,λH3 t7 akh=>?_⟩
   have pP:=nG lP wL t7
   exact⟨p,gr G H H3,st,z,rfl,iD,hd.same (tR g pP),k.go pP⟩
  |rules r Kd=>
   refine⟨_,rfl,rfl,_,rfl,gR dd ?_⟩
   refine⟨_,rfl,rfl,_,rfl,gR dd ?_⟩
   refine⟨_,rfl,rfl,_,rfl,Py dd ?_⟩
   refine⟨_,rfl,p,dx,_,rfl,w6,jl _ _ dd dd,_,rfl,rp,qd,_,rfl,ui,d4 _ _ dd dd,rp,qd,c,_,1,m8 r,[],rfl,ui,Wc,by rw[ze,cW];rfl,λH3 q t7 akh hq3=>?_⟩
   have pP:=nG lP wL t7
   obtain⟨q0,q1⟩:=pS hq3
   refine⟨p,q,gr G H H3,st,r,rfl,iD,hd.same (tR g pP),?_,Kd,k.go pP⟩
   show gr G H H3 q=_
   rw[mT (lP.free q0),<-zd];exact q1
  |many w hw=>
   refine⟨_,rfl,rfl,_,rfl,gR dd ?_⟩
   refine⟨_,rfl,rfl,_,rfl,gR dd ?_⟩
   refine⟨_,rfl,rfl,_,rfl,gR dd ?_⟩
   refine⟨_,rfl,by show 5<=az;decide,λt ht=>⟨t,_,rfl,.inr (lu.of ao),rfl,rfl,_,rfl,Py dd ?_⟩⟩
   exact⟨_,rfl,_,rfl,_,rfl,about oo t ht⟩
  |best w hw=>
   refine⟨_,rfl,rfl,_,rfl,gR dd ?_⟩
   refine⟨_,rfl,rfl,_,rfl,gR dd ?_⟩
   refine⟨_,rfl,rfl,_,rfl,gR dd ?_⟩
   refine⟨_,rfl,by show 5<=az;decide,λt ht=>⟨t,_,rfl,.inr (lu.of ao),rfl,rfl,_,rfl,Py dd ?_⟩⟩
   exact⟨_,rfl,_,rfl,_,rfl,about oo t ht⟩
  |contenders w hw=>
   refine⟨_,rfl,rfl,_,rfl,gR dd ?_⟩
   refine⟨_,rfl,rfl,_,rfl,gR dd ?_⟩
   refine⟨_,rfl,rfl,_,rfl,gR dd ?_⟩
   refine⟨_,rfl,by show 5<=az;decide,λt ht=>⟨t,_,rfl,.inr (lu.of ao),rfl,rfl,_,rfl,Py dd ?_⟩⟩
   exact⟨_,rfl,_,rfl,_,rfl,about oo t ht⟩
  |profile w r hw Kd=>
   refine⟨_,rfl,rfl,_,rfl,gR dd ?_⟩
   refine⟨_,rfl,rfl,_,rfl,gR dd ?_⟩
   refine⟨_,rfl,rfl,_,rfl,gR dd ?_⟩
   refine⟨_,rfl,by show 5<=az;decide,λt ht=>⟨t,_,rfl,.inr (lu.of ao),rfl,rfl,_,rfl,Py dd ?_⟩⟩
   exact⟨_,rfl,_,rfl,_,rfl,about oo t ht⟩
  |bounding w r hw Kd=>
   refine⟨_,rfl,rfl,_,rfl,gR dd ?_⟩
   refine⟨_,rfl,rfl,_,rfl,gR dd ?_⟩
   refine⟨_,rfl,rfl,_,rfl,gR dd ?_⟩
   refine⟨_,rfl,by show 5<=az;decide,λt ht=>⟨t,_,rfl,.inr (lu.of ao),rfl,rfl,_,rfl,Py dd ?_⟩⟩
   exact⟨_,rfl,_,rfl,_,rfl,about oo t ht⟩
  |learn bs hb1 hb2=>
   refine⟨_,rfl,rfl,_,rfl,gR dd ?_⟩
   refine⟨_,rfl,rfl,_,rfl,gR dd ?_⟩
   refine⟨_,rfl,rfl,_,rfl,gR dd ?_⟩
   refine⟨_,rfl,by show 5<=az;decide,λt ht=>⟨t,_,rfl,.inr (lu.of ao),rfl,rfl,_,rfl,gR dd ?_⟩⟩
   have Zi:=aw (o:=.tup [.int 3,.int 4,.int 5,.int 6,.int 7]) ht
   refine⟨_,rfl,rp,qd,_,rfl,Zi _ _ ui,d4 _ _ dd dd,rp,qd,c,_,1,bs,[],rfl,Zi _ _ ui,bE (gk rp Zi) Wc,by rw[cW];rfl,by omega,λb hb=>by have:=(hb2 b hb).1;omega,λH3 q t7 hq3=>?_⟩
   have pP:=nG (lP.trans Zi) wL t7
   have Zc:Dk CS CD (gr G H H3) p st:=hd.same (tR g pP)
   obtain⟨_,_,_,_,⟨dx3,FN⟩,_⟩:=Zc.same iD
   refine⟨_,rfl,rfl,_,rfl,Py dd ?_⟩
   exact⟨_,rfl,p,dx3,_,rfl,FN,jl _ _ dd dd,_,rfl,p,q,gr G H H3,st,bs,rfl,iD,Zc,aW gQ _ _ _ _ B0 hq3,hb1,λb hb=>(hb2 b hb).1,k.go pP⟩
  |fitting bs hb1 hb2=>
   refine⟨_,rfl,rfl,_,rfl,gR dd ?_⟩
   refine⟨_,rfl,rfl,_,rfl,gR dd ?_⟩
   refine⟨_,rfl,rfl,_,rfl,gR dd ?_⟩
   refine⟨_,rfl,by show 5<=az;decide,λt ht=>⟨t,_,rfl,.inr (lu.of ao),rfl,rfl,_,rfl,gR dd ?_⟩⟩
   have Zi:=aw (o:=.tup [.int 3,.int 4,.int 5,.int 6,.int 7]) ht
   refine⟨_,rfl,rp,qd,_,rfl,Zi _ _ ui,d4 _ _ dd dd,rp,qd,c,_,1,bs,[],rfl,Zi _ _ ui,bE (gk rp Zi) Wc,by rw[cW];rfl,by omega,λb hb=>by have:=(hb2 b hb).1;omega,λH3 q t7 hq3=>?_⟩
   have pP:=nG (lP.trans Zi) wL t7
   have Zc:Dk CS CD (gr G H H3) p st:=hd.same (tR g pP)
   obtain⟨_,_,_,_,⟨dx3,FN⟩,_⟩:=Zc.same iD
   refine⟨_,rfl,rfl,_,rfl,gR dd ?_⟩
   exact⟨_,rfl,p,dx3,_,rfl,FN,jl _ _ dd dd,_,rfl,p,q,gr G H H3,st,bs,rfl,iD,Zc,aW gQ _ _ _ _ B0 hq3,hb1,λb hb=>(hb2 b hb).1,k.go pP⟩
abbrev hd2(H:Hp)(D rp:aa):Hp:=hide (hide H D) rp
theorem LW:aP (hd2 H D rp) H:=λb o e=>iL _ _ _ _ (iL _ _ _ _ e)
theorem Wd(s:Sx [rp] H H'):aP (hd2 H D rp) (hd2 H' D rp):=λb o e=>by
 have h1:b≠rp:=λq=>by unfold hd2 hide at e;rw[ax q]at e;cases e
 rw[hd2,hide_ne h1]at e⊢
 have h2:b≠D:=λq=>by unfold hide at e;rw[ax q]at e;cases e
 rw[hide_ne h2]at e⊢
 exact s b o e (by simpa using h1)
theorem NU:hd2 (upd H D o) D rp=hd2 H D rp:=by unfold hd2;rw[j4]
theorem acF{u:HO}(hD:H D=some o)(hr:H rp=some u):aP (gr (hd2 H D rp) H H') (hd2 H' D rp):=λb v e=>by
 have h:=iD _ _ e
 have h1:b≠rp:=λq=>by
  rcases nF e with z|⟨x,z⟩
  ·rw[q,hr]at z;cases z
  ·unfold hd2 hide at z;rw[ax q]at z;cases z
 have h2:b≠D:=λq=>by
  rcases nF e with z|⟨x,z⟩
  ·rw[q,hD]at z;cases z
  ·rw[hd2,hide_ne h1]at z;unfold hide at z;rw[ax q]at z;cases z
 rw[hd2,hide_ne h1,hide_ne h2];exact h
theorem Fd(h:hd2 H D rp b=some o):b≠D/\b≠rp:=by
 have h1:b≠rp:=λq=>by unfold hd2 hide at h;rw[ax q]at h;cases h
 rw[hd2,hide_ne h1]at h
 exact⟨(λq=>by unfold hide at h;rw[ax q]at h;cases h),h1⟩
def xR(K:aL):Sp:=λvs H Q _=>∃(a:aa)(l:List Int),vs=[.ref a]/\a_ K H a (sZ l)/\HF l=true/\∀H' r,H' r=some (.lst (sZ (rn l)))->Q (.ref r) H'
def nAn:List ag:=["calls","desk","reader","given","answer"]
theorem We:a0 nAn ["calls"] (aB (top 71)):={}
theorem LX{CR:aa}(F:il K "answers" "answers" (top 71) f fd)(T:lB K mg)(MkD:Kp P w K mg base CD "Desk" ["self"] 3 (zm CS CD))(MkR:Kp P w K mg base CR "Reader" ["self","numbers"] 1 (wG K CR))(Mm:Mt P w K mg base CR "more_is_there" ["self"] 1 (LA K CR))(Mt':Mt P w K mg base CR "take" ["self"] 1 (uc K CR))(Ml:Mt P w K mg base CR "take_list" ["self"] 2 (s_ K CR))(Gc:Fn P w K mg base "answer_call" ["desk","call"] 8 (LV K CS CD)):cz P w K mg base hC 9 f fd ["calls"] (xR K):=by
 refine F.ok We (λfF A outer s H vs Q E hr h=>?_)
 ·obtain⟨a,l,rfl,ha,acG,k⟩:=h
  refine⟨_,ak (cH 1 We.nd (Yx MkD (hr.mono dd) rfl))<|ak (cH 2 We.nd (lC MkR (hr.mono dd) rfl (ae (pv 0) ai)))<|ak (cH 3 We.nd (bP ai))<|ak (F5 ee (jC (gD Mm (hr.mono dd) (pv 2)))<|ak (eQ (gD Mt' (hr.mono dd) (pv 2)))<|ak (cH 4 We.nd (c9 Gc hr rfl (ae (pv 1) (ae (gD Ml (hr.mono dd) (pv 2)) ai))))<|ak (eQ (gc dq kE kF gf (pv 3) (ae (bw aZ rfl T.len cP (ae (pv 4) ai)) ai)))<|aD (eQ (gc dq kz lg jr (pv 3) (ae (pv 4) ai))))<|aD (aX (pv 3)),?_⟩
  obtain⟨f0,cs0,aki,akj,sJ,_,hlen⟩:=OC acG
  dsimp only[f6]
  refine Pt λH1 p s1 hp0 Qi=>?_
  refine⟨_,rfl,?_⟩
  dsimp only[f6]
  refine yr λH2 rp qd s2 wL ui=>?_
  have lP:=s1.trans s2
  refine⟨bI _,λD hD=>?_⟩
  have acH:rp≠D:=aF ui hD
  generalize Ab:upd H2 D (.lst [])=H3 at*
  have s3:aP H2 H3:=by rw[<-Ab];exact aw hD
  have h3D:H3 D=some (.lst (sZ [])):=by rw[<-Ab];exact ao
  have s13:aP H1 (hd2 H3 D rp):=λb o e=>by
   have h1:b≠rp:=aF e wL
   have h2:b≠D:=aF (s2 _ _ e) hD
   rw[hd2,hide_ne h1,hide_ne h2];exact s3 _ _ (s2 _ _ e)
  refine⟨λm σ H'=>∃(i:Nat)(st:dB)(acc:List Int)(cs:List (List (List Int)))(f:Nat)(v4:Option V),σ=[some (.ref a),some (.ref p),some (.ref rp),some (.ref D),v4]/\FJ CR qd a H' rp i/\a_ K (hd2 H' D rp) a (sZ l)/\Dk CS CD (hd2 H' D rp) p st/\H' D=some (.lst (sZ acc))/\jU k7 f (l.drop i)=some cs/\(∀n r,[[n],r]∈cs->n=0->(Wf r).isSome=true)/\acc++Mj st cs=rn l/\m=l.length-i,⟨_,0,rA,[],cs0,f0,none,rfl,s3 _ _ ui,bE s13 (bE s1 ha),Qi.same s13,h3D,aki,sJ,by rw[akj];rfl,rfl⟩,?_⟩
  ·rintro m σ H4 ⟨i,st,acc,cs,f,v4,rfl,Zj,ha4,hd4,DW,hcs,aao,tF,rfl⟩
   have acI:a_ K (hide H4 rp) a (sZ l):=bE (λb o e=>by
    have:=Fd e
    rw[hd2,hide_ne this.2]at e
    rw[hide_ne this.2];exact iL _ _ _ _ e) ha4
   refine⟨_,rfl,rp,qd,_,rfl,Zj,d4 _ _ dd dd,rp,qd,a,l,i,rfl,Zj,acI,_,rfl,?_⟩
   refine kg rfl (λh1=>?_) (λh1=>?_)
   ·rw[bN]at h1
    rcases AQ hcs with⟨e,_⟩|⟨n,r,cs',e1,hn0,hnl,rfl,f',akk⟩
    ·have:=Wg.mp e;omega
    obtain⟨d1,d2⟩:=pT e1
    refine⟨λgT H'=>∃m',m'<l.length-i/\∃(i:Nat)(st:dB)(acc:List Int)(cs:List (List (List Int)))(f:Nat)(v4:Option V),gT=[some (.ref a),some (.ref p),some (.ref rp),some (.ref D),v4]/\FJ CR qd a H' rp i/\a_ K (hd2 H' D rp) a (sZ l)/\Dk CS CD (hd2 H' D rp) p st/\H' D=some (.lst (sZ acc))/\jU k7 f (l.drop i)=some cs/\(∀n r,[[n],r]∈cs->n=0->(Wf r).isSome=true)/\acc++Mj st cs=rn l/\m'=l.length-i,λgT H' h=>h,?_⟩
    refine⟨_,rfl,rp,qd,_,rfl,Zj,d4 _ _ dd dd,rp,qd,a,l,i,0,rfl,Zj,acI,d1,λH5 ER afO=>?_⟩
    have hxs:l.drop (i+1)=(((r.take n.toNat).length:Nat):Int)::(r.take n.toNat++r.drop n.toNat):=by
     rw[d2,oS,d8,oR hnl]
     congr 1
     omega
    refine⟨_,rfl,_,rfl,rp,qd,_,rfl,afO,d4 _ _ dd dd,rp,qd,a,l,i+1,r.take n.toNat,r.drop n.toNat,rfl,afO,bE (nE ER) acI,hxs,λH6 c Iv afP hc6=>?_⟩
    have acJ:=ER.trans Iv
    obtain⟨c0,c1⟩:=pS hc6
    have hD6:H6 D=some (.lst (sZ acc)):=acJ _ _ DW (by simp only[bA];exactλe=>acH e.symm)
    have hd6:Dk CS CD (hd2 H6 D rp) p st:=hd4.same (Wd acJ)
    have agL:=aao 0 (r.take n.toNat) bp rfl
    obtain⟨x,hx⟩:=Gq.mp agL
    refine⟨p,c,hd2 H6 D rp,st,r.take n.toNat,x,rfl,LW,hd6,a_.of c1,OA hx,λH7 t fr7 hd7 ZS ht7=>?_⟩
    obtain⟨_,_,_,_,⟨dx6,P8⟩,_⟩:=id hd6
    obtain⟨npD,npr⟩:=Fd P8
    have W':H7 D=some (.lst (sZ acc)):=fr7.keep _ _ hD6 (λe=>npD e.symm) (λ_ e=>by cases e)
    have akl:FJ CR qd a H7 rp (i+1+1+(r.take n.toNat).length):=fr7.keep _ _ afP (λe=>npr e.symm) (λ_ e=>by cases e)
    have ha6:a_ K (hd2 H6 D rp) a (sZ l):=bE (Wd acJ) ha4
    have ha7:a_ K (hd2 H7 D rp) a (sZ l):=by
     rcases ha6 with(h|⟨o,h⟩)|h
     ·have nn:=Fd h
      have hap:a≠p:=λq=>by rw[q,P8]at h;cases h
      exact .inl (.inl (by rw[hd2,hide_ne nn.2,hide_ne nn.1];exact fr7.keep _ _ (LW _ _ h) hap (λ_ e=>by cases e)))
     ·have nn:=Fd h
      have hap:a≠p:=λq=>by rw[q,P8]at h;cases h
      exact .inl (.inr ⟨o,by rw[hd2,hide_ne nn.2,hide_ne nn.1];exact fr7.keep _ _ (LW _ _ h) hap (λ_ e=>by cases e)⟩)
     ·exact .inr h
    have aci:Dk CS CD (hd2 H7 D rp) p (bD st x).1:=hd7.same (acF hD6 afP)
    have ntD:t≠D:=λe=>by rw[e,hD6]at ZS;cases ZS
    have hgo:=OB st (r.take n.toNat) cs' hx
    have amX:acc.length+(1+(ll (bD st x).2).length)<=1000040:=by
     have:=congrArg f_ tF
     rw[hgo]at this
     simp only[bZ,aS]at this
     omega
    refine⟨_,rfl,.inl ⟨rfl,_,a_.of W'⟩,_,rfl,t,_,rfl,.inl (a_.of ht7),D,_,_,rfl,rfl,W',by rw[aA,c7];omega,?_⟩
    refine⟨_,rfl,.inl ⟨rfl,_,a_.of ao⟩,_,rfl,D,t,_,_,rfl,rfl,ao,by rw[aN ntD];exact ht7,by rw[bZ,aA,aA,c7];simp only[aS,qR];omega,?_⟩
    have hil:i+1+1+(r.take n.toNat).length<=l.length:=by
     have:=congrArg f_ hxs
     simp only[gG,aS,bZ]at this
     omega
    refine⟨l.length-(i+1+1+(r.take n.toNat).length),by omega,i+1+1+(r.take n.toNat).length,(bD st x).1,acc++(((ll (bD st x).2).length:Int)::ll (bD st x).2),cs',f',some (.ref t),rfl,?_,?_,?_,?_,?_,λn' r' hm Zy=>aao n' r' (bg _ hm) Zy,?_,rfl⟩
    ·show upd (upd H7 D _) D _ rp=_
     rw[aN acH,aN acH];exact akl
    ·rw[NU,NU];exact ha7
    ·rw[NU,NU];exact aci
    ·rw[ao]
     simp only[sZ,eU,bb,aA,gz,i9,jM]
    ·have h0:=hxs
     obtain⟨_,e2⟩:=pT h0
     rw[lQ e2];exact akk
    ·rw[gz,<-hgo];exact tF
   ·rw[fz]at h1
    have e:l.drop i=[]:=Wg.mpr oo
    rw[e]at hcs
    rcases AQ hcs with⟨_,rfl⟩|⟨n,r,cs',e1,_⟩
    ·rw[SO,cW]at tF
     refine⟨_,rfl,k H4 D ?_⟩
     rw[<-tF];exact DW
    ·cases e1
end Bt
namespace L2
open PySem PySem.Spec PyProof.Rows
open PySem.W (WData Codec OpenSpec Well WellAll ReadsW ReadsAllW)
mutual
inductive Dw (K:aL) (H:Hp):V->WData->Prop
 |non:Dw K H .non .none
 |bl (b:Bool):Dw K H (.bl b) (.bool b)
 |int (i:Int):Dw K H (.int i) (.int i)
 |str (x:ag):Dw K H (.str x) (.str x)
 |Kh (b:Array UInt8):Dw K H (.Kh b) (.bytes b.toList)
 |lst {a:aa} {xs:List V} {ds:List WData}:a_ K H a xs->qe K H xs ds->Dw K H (.ref a) (.list ds)
 |tup {a:aa} {xs:List V} {ds:List WData}:lu K H a xs->qe K H xs ds->Dw K H (.ref a) (.tuple ds)
inductive qe (K:aL) (H:Hp):List V->List WData->Prop
 |nil:qe K H [] []
 |cons {v:V} {vs:List V} {d:WData} {ds:List WData}:Dw K H v d->qe K H vs ds->qe K H (v::vs) (d::ds)
end
theorem NV{K:aL}{H:Hp}:∀ns:List Int,qe K H (ns.map V.int) (ns.map Wh)
 |[]=>.nil
 |n::r=>.cons (.int n) (NV r)
theorem NW{K:aL}{H:Hp}:∀(ns:List Int)(xs:List V),qe K H xs (ns.map Wh)->xs=ns.map V.int
 |[],xs,h=>by
  cases h
  rfl
 |n::r,xs,h=>by
  cases h with
  |cons h1 h2=>
   cases h1
   rw[NW r _ h2]<;>rfl
variable{H:Hp}{K:aL}{P:cQ}{a:aa}{h:aH}{w:bC}{xs:List V}
section
variable{R:Wi}{cl:ag->Option aa}
theorem acK(hok:qv P w H h)(KX:K.In h)(q:a_ K H a xs):∃(its:List af)(o:aG)(n:Nat),Vals xs its/\h.get? a=some o/\o.cls=.type "list"/\o.data=.seq its.toArray n:=by
 rcases q with q|⟨o,its,n,e,hc,_,hd,_,hv⟩
 ·obtain⟨_,its,n,hv,e⟩:=(show fZ P w H h a (.lst xs)from q.ok hok)
  exact⟨its,_,n,hv,e,rfl,rfl⟩
 ·exact⟨its.toList,o,n,hv,KX _ _ e,hc,by simp[hd]⟩
theorem acL(hok:qv P w H h)(KX:K.In h)(q:lu K H a xs):∃(its:List af)(o:aG)(n:Nat),Vals xs its/\h.get? a=some o/\o.cls=.type "tuple"/\o.data=.seq its.toArray n:=by
 rcases q with q|⟨o,its,n,e,hc,hd,_,hv⟩
 ·obtain⟨_,its,hv,o,e,hc,n,hd⟩:=(show fZ P w H h a (.tup xs)from q.ok hok)
  exact⟨its,o,n,hv,e,hc,hd⟩
 ·exact⟨its.toList,o,n,hv,KX _ _ e,hc,by simp[hd]⟩
mutual
theorem Dw.reads(hok:qv P w H h)(KX:K.In h):∀(d:WData)(v:V)(u:af),Dw K H v d->RelV v u->∃as,ReadsW R cl h u d as
 | .none,_,_,x,r=>by
  cases x
  cases r
  exact⟨_,ReadsW.none⟩
 | .bool b,_,_,x,r=>by
  cases x
  cases r
  exact⟨_,ReadsW.bool b⟩
 | .int i,_,_,x,r=>by
  cases x
  obtain⟨t,rfl⟩:=r
  exact⟨_,ReadsW.int i t⟩
 | .str s,_,_,x,r=>by
  cases x
  obtain⟨t,rfl⟩:=r
  exact⟨_,ReadsW.str s t⟩
 | .bytes b,_,_,x,r=>by
  cases x
  obtain⟨t,rfl⟩:=r
  exact⟨_,ReadsW.bytes _ t⟩
 | .list ds,_,_,x,r=>by
  cases x with
  |lst hs ha=>
   cases r
   obtain⟨its,o,n,rv,ho,hc,hd⟩:=acK hok KX hs
   obtain⟨as,hr⟩:=Dw.readsAll hok KX ds _ its ha rv
   exact⟨_,ReadsW.list ho hc hd hr⟩
 | .tuple ds,_,_,x,r=>by
  cases x with
  |tup hs ha=>
   cases r
   obtain⟨its,o,n,rv,ho,hc,hd⟩:=acL hok KX hs
   obtain⟨as,hr⟩:=Dw.readsAll hok KX ds _ its ha rv
   exact⟨_,ReadsW.tuple ho hc hd hr⟩
 | .float _,_,_,x,_=>by cases x
 | .dict _,_,_,x,_=>by cases x
 | .bytearray _,_,_,x,_=>by cases x
 | .set _,_,_,x,_=>by cases x
 | .frozenset _,_,_,x,_=>by cases x
 | .obj _ _,_,_,x,_=>by cases x
theorem Dw.readsAll(hok:qv P w H h)(KX:K.In h):∀(ds:List WData)(vs:List V)(us:List af),qe K H vs ds->Vals vs us->∃as,JR R cl h us ds as
 |[],_,_,x,r=>by
  cases x
  cases r
  exact⟨_,JR.nil⟩
 |d::ds,_,_,x,r=>by
  cases x with
  |cons h1 h2=>
   cases r with
   |cons r1 r2=>
    obtain⟨as,q1⟩:=Dw.reads hok KX d _ _ h1 r1
    obtain⟨bs,q2⟩:=Dw.readsAll hok KX ds _ _ h2 r2
    exact⟨_,JR.cons q1 q2⟩
end
end
mutual
def NX:WData->Bool
 | .none=>true
 | .bool _=>true
 | .int _=>true
 | .str _=>true
 | .bytes _=>true
 | .list xs=>yE xs
 | .tuple xs=>yE xs
 |_=>false
def yE:List WData->Bool
 |[]=>true
 |x::r=>NX x&&yE r
end
theorem JS{α:Type}{f:α->WData}(h:∀a,NX (f a)=true):∀l:List α,yE (l.map f)=true
 |[]=>rfl
 |x::r=>by
  show(NX (f x)&&yE (r.map f))=true
  rw[h x,JS h r]<;>rfl
theorem sC:∀(c:Codec)(a:c.denote),NX (c.enc a)=true
 | .unit,_=>rfl
 | .bool,_=>rfl
 | .int _ _,_=>rfl
 | .nat _ _,_=>rfl
 | .u8,_=>rfl
 | .bytes _ _,_=>rfl
 | .text _ _ _ _,_=>rfl
 | .list _ _ c,a=>JS (λx=>sC c x) a
 | .pair c d,a=>by
  show(NX (c.enc a.1)&&(NX (d.enc a.2)&&true))=true
  rw[sC c a.1,sC d a.2]<;>rfl
 | .triple c d e,a=>by
  show(NX (c.enc a.1)&&(NX (d.enc a.2.1)&&(NX (e.enc a.2.2)&&true)))=true
  rw[sC c a.1,sC d a.2.1,sC e a.2.2]<;>rfl
 | .option c,none=>rfl
 | .option c,some x=>sC c x
theorem D_:∀(cs:List Codec)(a:Cd cs),yE (sE cs a)=true
 |[],_=>rfl
 |c::cs,a=>by
  show(NX (c.enc a.1)&&yE (sE cs a.2))=true
  rw[sC c a.1,D_ cs a.2]<;>rfl
theorem uj:∀{xs:List WData}{d:WData},d∈xs->d.weight<=Ce xs
 |[],d,h=>absurd h (by simp)
 |x::r,d,h=>by
  show d.weight<=x.weight+1+Ce r
  rcases aY.mp h with e|m
  ·rw[e]
   omega
  ·have z:=uj m
   omega
def toV:af->V
 | .none=>.non
 | .bool b=>.bl b
 | .int i _=>.int i
 | .str x _=>.str x
 | .bytes b _=>.Kh b
 | .ref a=>.ref a
 |_=>.non
def Pz(A:List aa):af->Prop
 | .none=>True
 | .bool _=>True
 | .int _ _=>True
 | .str _ _=>True
 | .bytes _ _=>True
 | .ref a=>a∈A
 |_=>False
theorem Pz.mono{A B:List aa}(h:∀a∈A,a∈B):∀{u:af},Pz A u->Pz B u:=λ{u}x=>by
 cases u with
 |ref a=>exact h a x
 |none=>trivial
 |bool b=>trivial
 |int i t=>trivial
 |str s t=>trivial
 |bytes b t=>trivial
 |_=>exact False.elim x
variable{CX:CXT}{b:aa}{ds:List WData}{fd:ox}{mg:ag->Option af}{n:Nat}{ps:List ag}{sp:Sp}{u v:af}{us vs:List af}
theorem Wj{A:List aa}(x:Pz A u):RelV (toV u) u:=by
 cases u with
 |ref a=>rfl
 |none=>rfl
 |bool b=>rfl
 |int i t=>exact⟨t,rfl⟩
 |str s t=>exact⟨t,rfl⟩
 |bytes b t=>exact⟨t,rfl⟩
 |_=>exact False.elim x
theorem px{A:List aa}:∀{vs:List af},(∀u∈vs,Pz A u)->Vals (vs.map toV) vs
 |[],_=>.nil
 |u::r,h=>.cons (Wj (h u (bp ..))) (px λx hx=>h x (bg _ hx))
def qf(h:aH)(A:List aa)(a:aa):Prop:=∃vs:List af,vs.length<=az/\(∀u∈vs,Pz A u)/\(h.get? a=some {cls:=.type "list",data:=.seq vs.toArray}\/h.get? a=some {cls:=.type "tuple",data:=.seq vs.toArray})
theorem qf.mono{h:aH}{A B:List aa}{a:aa}(k:∀a∈A,a∈B)(x:qf h A a):qf h B a:=by
 obtain⟨vs,h1,h2,h3⟩:=x
 exact⟨vs,h1,λu hu=>(h2 u hu).mono k,h3⟩
theorem nH{P:lp}{h:aH}:∀{vs:List af}{ds:List WData},WellAll P h vs ds->vs.length=ds.length
 |_,_,.nil=>rfl
 |_,_,.cons _ b=>by
  show _+1=_+1
  rw[nH b]
theorem Ea{P:lp}(x:Well P h v (.list ds)):∃(a:aa)(vs:List af),v=.ref a/\h.get? a=some {cls:=.type "list",data:=.seq vs.toArray}/\WellAll P h vs ds:=by
 cases x with
 |list ho sJ=>exact⟨_,_,rfl,ho,sJ⟩
theorem Cf{P:lp}(x:Well P h v (.tuple ds)):∃(a:aa)(vs:List af),v=.ref a/\h.get? a=some {cls:=.type "tuple",data:=.seq vs.toArray}/\WellAll P h vs ds:=by
 cases x with
 |tuple ho sJ=>exact⟨_,_,rfl,ho,sJ⟩
theorem Eb{P:lp}{d:WData}(x:WellAll P h us (d::ds)):∃(v:af)(vs:List af),us=v::vs/\Well P h v d/\WellAll P h vs ds:=by
 cases x with
 |cons a b=>exact⟨_,_,rfl,a,b⟩
theorem NY(h:n<=1048576):n<=az:=bV h dd
section
variable{P:lp}
mutual
theorem Wl:∀(d:WData)(v:af),Well P h v d->NX d=true->d.weight<=1048576->∃A:List aa,Pz A v/\∀a∈A,qf h A a
 | .none,_,x,_,_=>by
  cases x
  exact⟨[],trivial,λa m=>absurd m (by simp)⟩
 | .bool b,_,x,_,_=>by
  cases x
  exact⟨[],trivial,λa m=>absurd m (by simp)⟩
 | .int i,_,x,_,_=>by
  cases x
  exact⟨[],trivial,λa m=>absurd m (by simp)⟩
 | .str s,_,x,_,_=>by
  cases x
  exact⟨[],trivial,λa m=>absurd m (by simp)⟩
 | .bytes b,_,x,_,_=>by
  cases x
  exact⟨[],trivial,λa m=>absurd m (by simp)⟩
 | .list ds,_,x,p,z=>by
  obtain⟨a,vs,rfl,ho,sJ⟩:=Ea x
  have z2:Ce ds<=1048576:=z
  obtain⟨A,h1,h2⟩:=wM ds _ sJ p λd hd=>bV (uj hd) z2
  have k:∀b∈A,b∈a::A:=λb hb=>bg _ hb
  refine⟨a::A,bp ..,λb hb=>?_⟩
  rcases aY.mp hb with e|m
  ·rw[e]
   exact⟨vs,NY (by rw[nH sJ];exact bV (Wm ds) z2),λu hu=>(h1 u hu).mono k,.inl ho⟩
  ·exact(h2 b m).mono k
 | .tuple ds,_,x,p,z=>by
  obtain⟨a,vs,rfl,ho,sJ⟩:=Cf x
  have z2:Ce ds<=1048576:=z
  obtain⟨A,h1,h2⟩:=wM ds _ sJ p λd hd=>bV (uj hd) z2
  have k:∀b∈A,b∈a::A:=λb hb=>bg _ hb
  refine⟨a::A,bp ..,λb hb=>?_⟩
  rcases aY.mp hb with e|m
  ·rw[e]
   exact⟨vs,NY (by rw[nH sJ];exact bV (Wm ds) z2),λu hu=>(h1 u hu).mono k,.inr ho⟩
  ·exact(h2 b m).mono k
 | .float _,_,_,p,_=>gP (show false=true from p)
 | .dict _,_,_,p,_=>gP (show false=true from p)
 | .bytearray _,_,_,p,_=>gP (show false=true from p)
 | .set _,_,_,p,_=>gP (show false=true from p)
 | .frozenset _,_,_,p,_=>gP (show false=true from p)
 | .obj _ _,_,_,p,_=>gP (show false=true from p)
theorem wM:∀(ds:List WData)(vs:List af),WellAll P h vs ds->yE ds=true->(∀d∈ds,d.weight<=1048576)->∃A:List aa,(∀u∈vs,Pz A u)/\∀a∈A,qf h A a
 |[],_,x,_,_=>by
  cases x
  exact⟨[],λu m=>absurd m (by simp),λa m=>absurd m (by simp)⟩
 |d::ds,_,x,p,z=>by
  obtain⟨v,vs,rfl,x1,x2⟩:=Eb x
  have q:NX d=true/\yE ds=true:=Hc.mp p
  obtain⟨A,a1,a2⟩:=Wl d v x1 q.1 (z d (bp ..))
  obtain⟨B,b1,b2⟩:=wM ds vs x2 q.2 λe he=>z e (bg _ he)
  have kA:∀b∈A,b∈A++B:=λb hb=>d7.mpr (.inl hb)
  have kB:∀b∈B,b∈A++B:=λb hb=>d7.mpr (.inr hb)
  refine⟨A++B,λu hu=>?_,λb hb=>?_⟩
  ·rcases aY.mp hu with e|m
   ·rw[e]
    exact a1.mono kA
   ·exact(b1 u m).mono kB
  ·rcases d7.mp hb with m|m
   ·exact(a2 b m).mono kA
   ·exact(b2 b m).mono kB
end
end
def Zk(o:aG):Option HO:=match o.data with
 | .seq vs _=>if(o.cls==dI "list")=true then some (.yO o (.lst (vs.toList.map toV)))else some (.yO o (.tup (vs.toList.map toV)))
 |_=>none
def pV(K:aL)(h:aH)(A:List aa):Hp:=λb=>if b∈A then(if(K.lookup b).isNone=true then(h.get? b).bind Zk else none)else none
def JT(H:Hp):Prop:=∀b,H b=none\/∃o u,H b=some (.yO o u)
theorem JU(vs:List af):Zk {cls:=.type "list",data:=.seq vs.toArray}=some (.yO {cls:=.type "list",data:=.seq vs.toArray} (.lst (vs.map toV))):=by
 show(if(dI "list"==dI "list")=true then some (HO.yO {cls:=.type "list",data:=.seq vs.toArray} (.lst (vs.toArray.toList.map toV)))else some (HO.yO {cls:=.type "list",data:=.seq vs.toArray} (.tup (vs.toArray.toList.map toV))))=_
 rw[ax (f9 _)]
theorem JV(vs:List af):Zk {cls:=.type "tuple",data:=.seq vs.toArray}=some (.yO {cls:=.type "tuple",data:=.seq vs.toArray} (.tup (vs.map toV))):=by
 show(if(dI "tuple"==dI "list")=true then some (HO.yO {cls:=.type "tuple",data:=.seq vs.toArray} (.lst (vs.toArray.toList.map toV)))else some (HO.yO {cls:=.type "tuple",data:=.seq vs.toArray} (.tup (vs.toArray.toList.map toV))))=_
 rw[aq dd]
section
variable{A:List aa}
theorem zt{o:aG}(hb:b∈A)(hk:K.lookup b=none)(e:h.get? b=some o):pV K h A b=Zk o:=by
 unfold pV
 rw[ax hb,hk,ax (show(none:Option aG).isNone=true from rfl),e]<;>rfl
theorem Zl{u:HO}(q:pV K h A b=some u):b∈A/\K.lookup b=none:=by
 unfold pV at q
 by_cases hb:b∈A
 ·rw[ax hb]at q
  cases hk:K.lookup b with
  |none=>exact⟨hb,rfl⟩
  |some o=>
   rw[hk,aq (by simp)]at q
   cases q
 ·rw[aq hb]at q
  cases q
theorem zu(ar:∀a∈A,qf h A a){u:HO}(q:pV K h A b=some u):K.lookup b=none/\∃vs:List af,vs.length<=az/\(∀u∈vs,Pz A u)/\((h.get? b=some {cls:=.type "list",data:=.seq vs.toArray}/\u=.yO {cls:=.type "list",data:=.seq vs.toArray} (.lst (vs.map toV)))\/(h.get? b=some {cls:=.type "tuple",data:=.seq vs.toArray}/\u=.yO {cls:=.type "tuple",data:=.seq vs.toArray} (.tup (vs.map toV)))):=by
 obtain⟨hb,hk⟩:=Zl q
 obtain⟨vs,h1,h2,h3⟩:=ar b hb
 refine⟨hk,vs,h1,h2,?_⟩
 rcases h3 with e|e
 ·rw[zt hb hk e,JU]at q
  exact .inl ⟨e,(bO q).symm⟩
 ·rw[zt hb hk e,JV]at q
  exact .inr ⟨e,(bO q).symm⟩
theorem PB(ar:∀a∈A,qf h A a):JT (pV K h A):=λb=>by
 cases q:pV K h A b with
 |none=>exact .inl rfl
 |some u=>
  obtain⟨_,vs,_,_,⟨_,e⟩|⟨_,e⟩⟩:=zu ar q
  ·exact .inr ⟨_,_,by rw[e]⟩
  ·exact .inr ⟨_,_,by rw[e]⟩
theorem Zm(ar:∀a∈A,qf h A a):qv P w (pV K h A) h:=λb u q=>by
 obtain⟨_,vs,h1,h2,⟨e,rfl⟩|⟨e,rfl⟩⟩:=zu ar q
 ·exact⟨e,by rw[aA];exact h1,vs,_,px h2,e⟩
 ·exact⟨e,by rw[aA];exact h1,vs,px h2,_,e,rfl,_,rfl⟩
theorem zw{c c':af}(e:(some {cls:=c,data:=.seq vs.toArray}:Option aG)=some {cls:=c',data:=.seq us.toArray}):c=c'/\vs=us:=by
 have e1:=bO e
 have e2:c=c':=congrArg aG.cls e1
 have e3:Cg vs.toArray=Cg us.toArray:=congrArg aG.data e1
 injection e3 with e4
 refine⟨e2,?_⟩
 have e5:=congrArg QM e4
 simpa using e5
theorem akm(KX:K.In h)(ar:∀a∈A,qf h A a)(ha:a∈A)(e:h.get? a=some {cls:=.type "list",data:=.seq vs.toArray}):(∀u∈vs,Pz A u)/\a_ K (pV K h A) a (vs.map toV):=by
 obtain⟨us,h1,h2,h3⟩:=ar a ha
 have hu:us=vs:=by
  rcases h3 with q|q
  ·rw[e]at q
   exact(zw q).2.symm
  ·rw[e]at q
   exact absurd (Wn (zw q).1) dd
 subst hu
 refine⟨h2,?_⟩
 cases hk:K.lookup a with
 |none=>exact .inl (.inr ⟨_,by rw[zt ha hk e,JU]⟩)
 |some o=>
  have e2:=KX a o hk
  rw[e]at e2
  obtain rfl:=bO e2
  exact .inr ⟨_,us.toArray,_,hk,rfl,rfl,rfl,by rw[cw];exact h1,by simpa using px h2⟩
theorem akn(KX:K.In h)(ar:∀a∈A,qf h A a)(ha:a∈A)(e:h.get? a=some {cls:=.type "tuple",data:=.seq vs.toArray}):(∀u∈vs,Pz A u)/\lu K (pV K h A) a (vs.map toV):=by
 obtain⟨us,h1,h2,h3⟩:=ar a ha
 have hu:us=vs:=by
  rcases h3 with q|q
  ·rw[e]at q
   exact absurd (Wn (zw q).1) dd
  ·rw[e]at q
   exact(zw q).2.symm
 subst hu
 refine⟨h2,?_⟩
 cases hk:K.lookup a with
 |none=>exact .inl (.inr ⟨_,by rw[zt ha hk e,JV]⟩)
 |some o=>
  have e2:=KX a o hk
  rw[e]at e2
  obtain rfl:=bO e2
  exact .inr ⟨_,us.toArray,_,hk,rfl,rfl,by rw[cw];exact h1,by simpa using px h2⟩
mutual
theorem acM{Pm:lp}(KX:K.In h)(ar:∀a∈A,qf h A a):∀(d:WData)(v:af),Well Pm h v d->NX d=true->Pz A v->Dw K (pV K h A) (toV v) d
 | .none,_,x,_,_=>by
  cases x
  exact .non
 | .bool b,_,x,_,_=>by
  cases x
  exact .bl b
 | .int i,_,x,_,_=>by
  cases x
  exact .int i
 | .str s,_,x,_,_=>by
  cases x
  exact .str s
 | .bytes b,_,x,_,_=>by
  cases x
  have z:=Dw.Kh (K:=K) (H:=pV K h A) b.toArray
  exact z
 | .list ds,_,x,p,hu=>by
  obtain⟨a,vs,rfl,ho,sJ⟩:=Ea x
  obtain⟨h2,hs⟩:=akm KX ar hu ho
  exact .lst hs (Fe KX ar ds _ sJ p h2)
 | .tuple ds,_,x,p,hu=>by
  obtain⟨a,vs,rfl,ho,sJ⟩:=Cf x
  obtain⟨h2,hs⟩:=akn KX ar hu ho
  exact .tup hs (Fe KX ar ds _ sJ p h2)
 | .float _,_,_,p,_=>gP (show false=true from p)
 | .dict _,_,_,p,_=>gP (show false=true from p)
 | .bytearray _,_,_,p,_=>gP (show false=true from p)
 | .set _,_,_,p,_=>gP (show false=true from p)
 | .frozenset _,_,_,p,_=>gP (show false=true from p)
 | .obj _ _,_,_,p,_=>gP (show false=true from p)
theorem Fe{Pm:lp}(KX:K.In h)(ar:∀a∈A,qf h A a):∀(ds:List WData)(vs:List af),WellAll Pm h vs ds->yE ds=true->(∀u∈vs,Pz A u)->qe K (pV K h A) (vs.map toV) ds
 |[],_,x,_,_=>by
  cases x
  exact .nil
 |d::ds,_,x,p,hu=>by
  obtain⟨v,vs,rfl,x1,x2⟩:=Eb x
  have q:NX d=true/\yE ds=true:=Hc.mp p
  exact .cons (acM KX ar d v x1 q.1 (hu _ (bp ..))) (Fe KX ar ds vs x2 q.2 λu m=>hu u (bg _ m))
end
end
theorem PD{mb:ag->Option af}{k:Nat}{fa:aa}{s₁:aj}{vals:List af}{R:Wi}{cl:ag->Option aa}{d0:WData}(KX:K.In s₁.heap)(hns:s₁.heap.Ns cv mg)(hb:s₁.heap.Ns FY mb)(hbb:∀x:ag,x≠"__name__"->mb x=kK x)(alp:s₁.heap.NoLimit)(hg:s₁.gens=#[])(Xm:WellAll w.params s₁.heap vals ds)(mY:yE ds=true)(hwt:∀d∈ds,d.weight<=1048576)(hr:g9 k sF)(F:∀base:aH,K.In base->base.Ns cv mg->cz P w K mg base CX k fa fd ps sp)(agM:∀(s:aj)(us:List af),us.length=ps.length->qF s fd ⟨us,[]⟩ (ps.zip us))(hlen:ds.length=ps.length)(CF:∀(H:Hp)(xs:List V),JT H->qe K H xs ds->sp xs H (λv H'=>Dw K H' v d0) λ_ _ _=>False)(hCX:∀H e s',CX [] H s₁ (λ_ _ _=>False) e s'->False):
  codeAny (ay P w) sF (.call (.ref fa) ⟨vals,[]⟩) (λr s'=>∃u as,r=.ok (.ret u)/\ReadsW R cl s'.heap u d0 as/\OldK s₁.heap s'.heap/\s'.os=s₁.os/\n_ s'.gens) s₁:=by
 obtain⟨A,ho,ar⟩:=wM ds vals Xm mY hwt
 have hO:JT (pV K s₁.heap A):=PB ar
 have hok:qv P w (pV K s₁.heap A) s₁.heap:=Zm ar
 have hS:=Fe KX ar ds vals Xm mY ho
 have hV:=px ho
 have hK:∀b u,pV K s₁.heap A b=some u->K.lookup b=none:=λb u q=>(zu ar q).1
 have noA:∀{b:aa}{o:aG}{es:Array F6}{ep:Nat},s₁.heap.get? b=some o->o.data=.dict es ep->pV K s₁.heap A b=none:=λ{b o es ep}e d=>by
  cases q:pV K s₁.heap A b with
  |none=>rfl
  |some u=>
   obtain⟨_,vs,_,_,⟨e2,_⟩|⟨e2,_⟩⟩:=zu ar q
   ·rw[e2]at e
    cases e
    have d':Cg vs.toArray _=Data.dict es ep:=d
    cases d'
   ·rw[e2]at e
    cases e
    have d':Cg vs.toArray _=Data.dict es ep:=d
    cases d'
 generalize pV K s₁.heap A=H at hO hok hS hK noA
 have NZ:∀{b:aa}{o:aG},s₁.heap.get? b=some o->H b=none->(Ed s₁.heap H).get? b=some o:=λe n=>Qx e n
 have nsK:∀{b:aa}{m:ag->Option af},s₁.heap.Ns b m->(Ed s₁.heap H).Ns b m:=λ{b m}⟨o,es,ep,e,d,r⟩=>⟨o,es,ep,NZ e (noA e d),d,r⟩
 have nK:∀b o,K.lookup b=some o->H b=none:=λb o e=>by
  cases q:H b with
  |none=>rfl
  |some u=>
   rw[hK b u q]at e
   cases e
 have hKb:K.In (Ed s₁.heap H):=λb o e=>NZ (KX b o e) (nK b o e)
 have hM:Mod K mg (Ed s₁.heap H):=⟨hKb,nsK hns,⟨mb,nsK hb,hbb⟩,let⟨mc,h1,h2⟩:=alp;⟨mc,nsK h1,h2⟩⟩
 have e0:CG P w K mg (Ed s₁.heap H) sF [] s₁ H:=⟨rfl,hM,λb o e=>Xo e,kO (N_ _ _),trivial,λb hb=>absurd (show b∈([]:List aa)from hb) (by simp),hok,.of_eq hg⟩
 have hl:vals.length=ps.length:=by rw[nH Xm];exact hlen
 refine qG ((F _ hKb (nsK hns)).run sF [] s₁ H ⟨vals,[]⟩ vals (vals.map toV) _ _ hr e0 (agM s₁ vals hl) hV (CF H _ hO hS)) λr s' x=>?_
 cases r with
 |error e=>exact(hCX H e s' x).elim
 |ok fl=>
  cases fl with
  |next=>exact False.elim x
  |brk=>exact False.elim x
  |cont=>exact False.elim x
  |ret u=>
   obtain⟨v,H',os,bare,un,agN,r',q⟩:=x
   have kept:∀b o,s₁.heap.get? b=some o->s'.heap.get? b=some o:=λb o e=>by
    cases q2:H b with
    |none=>exact un.keep b o e q2 (by intro z;exact absurd (show b∈([]:List aa)from z) (by simp)) (by simp)
    |some u2=>
     rcases hO b with z|⟨ob,u3,z⟩
     ·rw[q2]at z
      cases z
     ·have z2:=un.xa b ob _ z
      obtain⟨e1,_⟩:=hok b _ z
      obtain⟨e2,_⟩:=agN b _ z2
      rw[e]at e1
      cases e1
      exact e2
   have KX':K.In s'.heap:=λb o e=>kept b o (KX b o e)
   obtain⟨as,hrd⟩:=Dw.reads (R:=R) (cl:=cl) agN KX' d0 v u q r'
   exact⟨u,as,rfl,hrd,OldK.of_keep kept,os,bare⟩
theorem Ci(h:WData.layableAll ds=true):∀d∈ds,d.weight<=1048576:=λd hd=>
 (PySem.W.layableW_iff.mp (c_.mp h d hd)).2.2
theorem Cj:∀(cs:List Codec)(a:Cd cs),(sE cs a).length=cs.length
 |[],_=>rfl
 |c::cs,a=>by
  show(sE cs a.2).length+1=cs.length+1
  rw[Cj cs a.2]
theorem PF{r:OpenSpec}{k:Nat}{q:cQ}{loose:List ag}{XP:(ag->Option af)->aH->Prop}{YP:bC->aH->Prop}{d:DefRec}{K:lp->aL}{CX:bC->CXT}{sp:bC->Sp}(Wo:r.wellSaid=true)(hdf:d.params.defaults=[])(hlen:r.args.length=ps.length)(hr:g9 k sF)(hY:∀(w:bC)(h:aH),YP w h->(K w.params).In h)(F:∀(w:bC)(mg:ag->Option af)(fa:aa)(h:aH),YP w h->(K w.params).In h->h.Ns cv mg->mg d.name=some (.ref fa)->∃fd:ox,(∀(s:aj)(us:List af),us.length=ps.length->qF s fd ⟨us,[]⟩ (ps.zip us))/\∀base:aH,(K w.params).In base->base.Ns cv mg->cz r.prog w (K w.params) mg base (CX w) k fa fd ps (sp w))(CF:∀(w:bC)(H:Hp)(xs:List V)(a:Cd r.args),JT H->Wq r.args a=true->wN r.args r.asked a=true->qe (K w.params) H xs (sE r.args a)->sp w xs H (λv H'=>Dw (K w.params) H' v (r.ret.enc (wN r.args r.f a))) λ_ _ _=>False)(hCX:∀(w:bC)(H:Hp)(s:aj)(e:af)(s':aj),CX w [] H s (λ_ _ _=>False) e s'->False):
  Wr q loose XP YP r d [] (λf vs=>Ws f vs):=by
 intro w s_0 s₁ mg mb G Y fa o pm cd doc dV kV ho hd PU hD hmg hg args vals as alr als hrd Xm hlo
 obtain⟨a,e1,e2⟩:=PySem.W.os_pre_some alr
 obtain⟨e3,hwi⟩:=Codec.encAll_of_decAll r.args args a e1
 subst e3
 have KX:=hY w _ Y
 obtain⟨fd,hb,hF⟩:=F w mg fa _ Y KX G.T.g hmg
 refine PySem.W.enter_call (qG (PD (R:=[]) (cl:=classAt s_0.heap) (d0:=r.ret.enc (wN r.args r.f a)) KX G.T.g G.T.b G.T.builtins G.T.nolimit hg Xm (D_ _ _) (Ci als) hr hF hb (by rw[Cj];exact hlen)
  (λH xs hO hS=>CF w H xs a hO hwi e2 hS) λH e s'=>hCX w H s₁ e s') λr' s' hq=>?_)
 obtain⟨u,as',rfl,h1,h2,h3,h4⟩:=hq
 exact⟨.inl ⟨u,_,as',rfl,λ_=>rfl,h1,(OpenSpec.post_iff Wo hwi _ _).mpr rfl,λz=>gP (show false=true from z)⟩,h2,h3,h4⟩
theorem LY{r:OpenSpec}{k:Nat}{q:cQ}{loose:List ag}{XP:(ag->Option af)->aH->Prop}{YP:bC->aH->Prop}{d:DefRec}{K:lp->aL}{sp:aL->Sp}(Wo:r.wellSaid=true)(hdf:d.params.defaults=[])(hlen:r.args.length=ps.length)(hr:g9 k sF)(hY:∀(w:bC)(h:aH),YP w h->(K w.params).In h)(F:∀(w:bC)(mg:ag->Option af)(fa:aa)(h:aH),YP w h->(K w.params).In h->h.Ns cv mg->mg d.name=some (.ref fa)->∃fd:ox,(∀(s:aj)(us:List af),us.length=ps.length->qF s fd ⟨us,[]⟩ (ps.zip us))/\∀base:aH,(K w.params).In base->base.Ns cv mg->cz r.prog w (K w.params) mg base CX k fa fd ps (sp (K w.params)))(CF:∀(K:aL)(H:Hp)(xs:List V)(a:Cd r.args),JT H->Wq r.args a=true->wN r.args r.asked a=true->qe K H xs (sE r.args a)->sp K xs H (λv H'=>Dw K H' v (r.ret.enc (wN r.args r.f a))) λ_ _ _=>False)(hCX:∀(H:Hp)(s:aj)(e:af)(s':aj),CX [] H s (λ_ _ _=>False) e s'->False):
  Wr q loose XP YP r d [] (λf vs=>Ws f vs):=
 PF (K:=K) (CX:=λ_=>CX) (sp:=λw=>sp (K w.params)) Wo hdf hlen hr hY F (λw H xs a h1 h2 h3 h4=>CF (K w.params) H xs a h1 h2 h3 h4) λ_ H s e s'=>hCX H s e s'
end L2
namespace Bt
open PySem PySem.Spec PyProof.Rows L2
def w9(K:aL)(x:ag)(st:bj):Prop:=∃f,dM K cv x=some (some (.ref f))/\∃fd,il K x x st f fd
variable{C CD CS CW a f:aa}{K:aL}{P:cQ}{an od:Option aa}{base h:aH}{ct oc pm:af}{mg:ag->Option af}{n:Nat}{ps:List ag}{qual x:ag}{sl:Array (Option af)}{sp:Sp}{st:bj}{w:bC}
theorem kfn{kV dc cd:af}(a:dM K cv x=some (some (.ref f)))(l:K.lookup f=some ⟨oc,od,.func (kP x x (pB st) (nr st) (aB st) .none kV dc pm an cd ct),sl⟩)(c:uS K cd x=true)(k:kM K (.ref f)=true):w9 K x st:=⟨f,a,_,R3 l c k⟩
def qg(K:aL)(C:aa)(x qual:ag)(st:bj):Prop:=∃f fd,iX K (.ref C) x=some (some (.ref f))/\uN K (.ref f)=true/\il K x qual st f fd
theorem kmt{kV dc cd:af}(a:iX K (.ref C) x=some (some (.ref f)))(i:uN K (.ref f)=true)(l:K.lookup f=some ⟨oc,od,.func (kP x qual (pB st) (nr st) (aB st) .none kV dc pm an cd ct),sl⟩)(c:uS K cd qual=true)(k:kM K (.ref f)=true):qg K C x qual st:=⟨f,_,a,i,R3 l c k⟩
structure KCl (K:aL) (x:ag) (C:aa):Prop where
 at_:dM K cv x=some (some (.ref C))
 cl:Cls K C
 makes:F' K C=true
 kp:kM K (.ref C)=true
def iN(K:aL)(x:ag)(i:Int):Prop:=∃t,dM K cv x=some (some (.int i t))
theorem ako{i j:Int}{t:dR}(e:dM K cv x=some (some (.int j t)))(v:j=i):iN K x i:=⟨t,by rw[<-v];exact e⟩
def W2(K:aL)(x:ag)(is:List Int):Prop:=∃(a:aa),dM K cv x=some (some (.ref a))/\∀H,lu K H a (is.map V.int)
theorem akp{i j k:Int}{t u v:dR}(e:dM K cv x=some (some (.ref a)))(l:K.lookup a=some ⟨.type "tuple",od,.seq #[.int i t,.int j u,.int k v] n,sl⟩):W2 K x [i,j,k]:=⟨a,e,λH=>.inr ⟨_,_,_,l,rfl,rfl,by show 3<=az;decide,.cons ⟨_,rfl⟩ (.cons ⟨_,rfl⟩ (.cons ⟨_,rfl⟩ .nil))⟩⟩
theorem cF{i:Int}(X:K.In h)(G:h.Ns cv mg)(k:iN K x i):sS mg x i:=by
 obtain⟨t,e⟩:=k
 exact⟨t,wO X G e⟩
theorem Ff{is:List Int}(X:K.In h)(G:h.Ns cv mg)(k:W2 K x is):IsT K mg x is:=by
 obtain⟨a,e,q⟩:=k
 exact⟨a,wO X G e,q⟩
def BA(x qual:ag)(st:bj)(ps:List ag):Prop:=∀(kV doc pm:af)(an:Option aa)(fF ct:af)(us:List af),us.length=ps.length->bindArgs (kP x qual (pB st) (nr st) (aB st) .none kV doc pm an fF ct) ⟨us,[]⟩=pure (ps.zip us)
section
variable(X:K.In h)(G:h.Ns cv mg){y:ag}{k:Nat}
include X G
theorem yF(a:w9 K x st)(o:∀{f fd},il K x x st f fd->cz P w K mg base hC k f fd ps sp)(b:BA x x st ps:=by unfold BA;first|(exactλ_ _ _ _ _ _ us hl=>match us,hl with|[_],_=>rfl)|(exactλ_ _ _ _ _ _ us hl=>match us,hl with|[_,_],_=>rfl)|(exactλ_ _ _ _ _ _ us hl=>match us,hl with|[_,_,_],_=>rfl)):Fn P w K mg base x ps k sp:=by
 obtain⟨f,h1,fd,F⟩:=a
 exact⟨f,fd,o F,wO X G h1,F.kp,F.binds b⟩
theorem uk(a:qg K C x qual st)(c:KCl K y C)(o:∀{f fd},il K x qual st f fd->cz P w K mg base hC k f fd ps sp)(b:BA x qual st ps:=by unfold BA;first|(exactλ_ _ _ _ _ _ us hl=>match us,hl with|[_],_=>rfl)|(exactλ_ _ _ _ _ _ us hl=>match us,hl with|[_,_],_=>rfl)|(exactλ_ _ _ _ _ _ us hl=>match us,hl with|[_,_,_],_=>rfl)):Mt P w K mg base C x ps k sp:=by
 obtain⟨f,fd,h1,h2,F⟩:=a
 exact⟨⟨f,fd,o F,⟨h1,h2,F.kp⟩,F.binds b⟩,c.cl⟩
theorem kNN(a:qg K C "__init__" qual st)(c:KCl K y C)(o:∀{f fd},il K "__init__" qual st f fd->cz P w K mg base hC k f fd ps sp)(b:BA "__init__" qual st ps:=by unfold BA;first|(exactλ_ _ _ _ _ _ us hl=>match us,hl with|[_],_=>rfl)|(exactλ_ _ _ _ _ _ us hl=>match us,hl with|[_,_],_=>rfl)|(exactλ_ _ _ _ _ _ us hl=>match us,hl with|[_,_,_],_=>rfl)):Kp P w K mg base C y ps k sp:=by
 obtain⟨f,fd,h1,h2,F⟩:=a
 exact⟨f,fd,o F,⟨c.makes,h1,h2,c.kp⟩,wO X G c.at_,F.binds b⟩
end
theorem all_mk{fa CR:aa}(X:K.In h)(G:h.Ns cv mg)(hfa:mg "answers"=some (.ref fa))(JW:iN K "CONSONANT" (0))(JX:iN K "LONG_VOWEL" (2))(PH:iN K "LOUDEST" (9))(Fg:iN K "MOST_SOUNDS" (10))(Fh:iN K "MOST_VOWELS" (5))(xS:iN K "MOST_CONSONANTS" (3))(LZ:iN K "IN_NO_FOOT" (0))(JY:iN K "FOOT_ALONE" (1))(JZ:iN K "HEAD_FIRST" (2))(Fi:iN K "REST_SECOND" (3))(J0:iN K "REST_FIRST" (4))(Fj:iN K "HEAD_SECOND" (5))(acN:iN K "MAIN" (10))(Zn:W2 K "HEADS" [1,2,5])(Zo:iN K "RULES" (16))(yG:iN K "FIRST_FOOT_RULE" (4))(Fl:W2 K "FOOT_BEGINS" [1,2,4])(L1:W2 K "FOOT_ENDS" [1,3,5])(Zp:iN K "DIGIT" (128))(Zq:iN K "SPARE" (64))(L3:iN K "NOT_TAKEN" (-1))(Zr:iN K "NO_WAY" (-3))(PJ:iN K "TOO_MANY_RULES" (-4))(PK:iN K "NO_RANKS" (-6))(L4:iN K "MOST_TOLD" (10))(Fm:iN K "MOST_RULES_FITTED" (5))(PL:iN K "BEGINS" (0))(Wt:iN K "CODAS" (1))(Wu:iN K "RULES_CALL" (2))(Zs:iN K "MANY" (3))(Zt:iN K "BEST" (4))(L5:iN K "PROFILE" (5))(J1:iN K "BOUNDING" (6))(C0:iN K "CONTENDERS" (7))(Wv:iN K "LEARN" (8))(afR:dM K cv "len"=some none)(J2:dM K cv "enumerate"=some none)(afS:dM K cv "zip"=some none)(Zu:dM K cv "range"=some none)(afT:dM K cv "all"=some none)(afU:dM K cv "sum"=some none)(afV:dM K cv "min"=some none)(afW:dM K cv "max"=some none)(Ww:dM K cv "sorted"=some none)(afX:dM K cv "set"=some none)(L6:dM K cv "reversed"=some none)(acO:dM K cv "list"=some none)(Zv:dM K cv "tuple"=some none)(acP:dM K cv "dict"=some none)(sG:KCl K "Ways" CW)(C1:dQ K CW "sounds")(xT:dQ K CW "syllables")(Fo:dQ K CW "marks")(kG:KCl K "Scale" CS)(C2:dQ K CS "rules")(Ck:dQ K CS "places")(C3:dQ K CS "spare")(Fp:dQ K CS "kept")(lq:KCl K "Reader" CR)(xU:dQ K CR "numbers")(Cm:dQ K CR "place")(ku:KCl K "Desk" CD)(Fq:dQ K CD "codas")(Fs:dQ K CD "scale")(Cn:w9 K "vowel_places" (top 6))(L7:w9 K "is_sound" (top 7))(PM:w9 K "is_word" (top 8))(xV:w9 K "parted_between" (top 19))(yH:w9 K "syllable_rows" (top 20))(L9:w9 K "footings" (top 21))(J3:w9 K "mark_rows" (top 22))(uo:w9 K "steps_not_louder" (top 29))(wQ:w9 K "loudness_breaks" (top 30))(wR:w9 K "syllable_counts" (top 31))(wU:w9 K "heavy_syllables" (top 32))(uq:w9 K "neighbours_alike" (top 33))(wV:w9 K "main_foot_sides" (top 34))(C4:w9 K "foot_counts" (top 35))(J4:qg K CW "__init__" "Ways.__init__" (inClass (top 23) 0))(yI:qg K CW "how_many" "Ways.how_many" (inClass (top 23) 1))(L_:qg K CW "row" "Ways.row" (inClass (top 23) 2))(wW:qg K CW "sizes_part" "Ways.sizes_part" (inClass (top 23) 3))(wX:qg K CW "marks_part" "Ways.marks_part" (inClass (top 23) 4))(Co:qg K CW "has_row" "Ways.has_row" (inClass (top 23) 5))(xW:qg K CW "number_of" "Ways.number_of" (inClass (top 23) 6))(Ft:qg K CS "__init__" "Scale.__init__" (inClass (top 48) 0))(J5:qg K CS "bit" "Scale.bit" (inClass (top 48) 1))(Fu:qg K CS "more" "Scale.more" (inClass (top 48) 2))(Cp:qg K CS "bounds" "Scale.bounds" (inClass (top 48) 3))(ur:qg K CS "score_from" "Scale.score_from" (inClass (top 48) 4))(tu:qg K CS "foot_scores" "Scale.foot_scores" (inClass (top 48) 5))(Cq:qg K CS "scores" "Scale.scores" (inClass (top 48) 6))(pW:qg K CS "bounded_by_any" "Scale.bounded_by_any" (inClass (top 48) 7))(wY:qg K CS "unbounded" "Scale.unbounded" (inClass (top 48) 8))(yJ:w9 K "pairs_against" (top 37))(C5:w9 K "all_against" (top 38))(Fv:w9 K "pairs_left" (top 39))(Fw:w9 K "find_ranks" (top 40))(Fx:w9 K "next_steps" (top 41))(C6:w9 K "find_orders" (top 42))(C7:qg K CR "__init__" "Reader.__init__" (inClass (top 44) 0))(pX:qg K CR "more_is_there" "Reader.more_is_there" (inClass (top 44) 1))(C8:qg K CR "take" "Reader.take" (inClass (top 44) 2))(uu:qg K CR "take_list" "Reader.take_list" (inClass (top 44) 3))(uv:qg K CR "take_word" "Reader.take_word" (inClass (top 44) 4))(uw:qg K CR "take_told" "Reader.take_told" (inClass (top 44) 5))(pY:qg K CR "take_all_told" "Reader.take_all_told" (inClass (top 44) 6))(J6:w9 K "are_rules" (top 65))(Wx:w9 K "listed" (top 66))(Cr:w9 K "told_refusal" (top 67))(J7:qg K CD "__init__" "Desk.__init__" (inClass (top 68) 0))(Fy:qg K CD "begin" "Desk.begin" (inClass (top 68) 1))(xX:qg K CD "set_codas" "Desk.set_codas" (inClass (top 68) 2))(xY:qg K CD "use_rules" "Desk.use_rules" (inClass (top 68) 3))(J8:qg K CD "many" "Desk.many" (inClass (top 68) 4))(J9:qg K CD "best" "Desk.best" (inClass (top 68) 5))(wZ:qg K CD "contenders" "Desk.contenders" (inClass (top 68) 6))(Cs:qg K CD "profile" "Desk.profile" (inClass (top 68) 7))(yK:qg K CD "bounding" "Desk.bounding" (inClass (top 68) 8))(Fz:qg K CD "pairs" "Desk.pairs" (inClass (top 68) 9))(FA:qg K CD "learn" "Desk.learn" (inClass (top 68) 10))(Ct:qg K CD "fitting" "Desk.fitting" (inClass (top 68) 11))(tw:w9 K "answer_about_word" (top 69))(C9:w9 K "answer_call" (top 70))(PN:w9 K "answers" (top 71)):
  ∃fd:ox,(∀(s:aj)(us:List af),us.length=(["calls"]:List ag).length->qF s fd ⟨us,[]⟩ ((["calls"]:List ag).zip us))/\∀base:aH,K.In base->base.Ns cv mg->cz P w K mg base hC 9 fa fd ["calls"] (xR K):=by
 have T:lB K mg:=⟨cF X G JW,cF X G JX,cF X G PH,cF X G Fg,cF X G Fh,cF X G xS,cF X G LZ,cF X G JY,cF X G JZ,cF X G Fi,cF X G J0,cF X G Fj,cF X G acN,Ff X G Zn,cF X G Zo,cF X G yG,Ff X G Fl,Ff X G L1,cF X G Zp,cF X G Zq,cF X G L3,cF X G Zr,cF X G PJ,cF X G PK,cF X G L4,cF X G Fm,cF X G PL,cF X G Wt,cF X G Wu,cF X G Zs,cF X G Zt,cF X G L5,cF X G J1,cF X G C0,cF X G Wv,iO X G afR,iO X G J2,iO X G afS,iO X G Zu,iO X G afT,iO X G afU,iO X G afV,iO X G afW,iO X G Ww,iO X G afX,iO X G L6,iO X G acO,iO X G Zv,iO X G acP⟩
 obtain⟨f,h1,fd,F⟩:=PN
 have e:=hfa.symm.trans (wO X G h1)
 cases e
 refine⟨fd,λs us hu=>?_,λbase _ _=>?_⟩
 ·obtain⟨oc,od,kV,doc,pm,an,fF,ct,ZC,rfl,lk,PU⟩:=F.ex
  match us,hu with
  |[_],_=>exact .of_eq rfl
 have vow:=yF (P:=P) (w:=w) (base:=base) (sp:=vS) X G Cn (abC · T)
 have Zw:=yF (P:=P) (w:=w) (base:=base) (sp:=sT) X G L7 (K_ · T)
 have isWord:=yF (P:=P) (w:=w) (base:=base) (sp:=mI) X G PM (OO · T Zw vow)
 have between:=yF (P:=P) (w:=w) (base:=base) (sp:=xu) X G xV (Lc · T)
 have syl:=yF (P:=P) (w:=w) (base:=base) (sp:=TQ) X G yH (abD · T vow between)
 have dC:=yF (P:=P) (w:=w) (base:=base) (sp:=t8) X G L9 (Iz · T)
 have marks:=yF (P:=P) (w:=w) (base:=base) (sp:=EO) X G J3 (U7 · T dC)
 have steps:=yF (P:=P) (w:=w) (base:=base) (sp:=ET K) X G uo (Vg · T)
 have loud:=yF (P:=P) (w:=w) (base:=base) (sp:=Lx K) X G wQ (YG · T vow steps)
 have afY:=yF (P:=P) (w:=w) (base:=base) (sp:=EU K) X G wR (YH · T loud)
 have heavy:=yF (P:=P) (w:=w) (base:=base) (sp:=zb K) X G wU (Vo · T vow)
 have alike:=yF (P:=P) (w:=w) (base:=base) (sp:=EV K) X G uq (Vr · T)
 have sides:=yF (P:=P) (w:=w) (base:=base) (sp:=EW K) X G wV (Vs · T)
 have aap:=yF (P:=P) (w:=w) (base:=base) (sp:=wD K) X G C4 (Vu · T sides alike)
 have WW:WT K CW:=⟨sG.cl,C1,xT,Fo⟩
 have Cu:=kNN (P:=P) (w:=w) (base:=base) (sp:=j9 CW) X G J4 sG (U9 · T WW syl marks vow)
 have afZ:=uk (P:=P) (w:=w) (base:=base) (sp:=Lv CW) X G yI sG (Yz · T WW)
 have acR:=uk (P:=P) (w:=w) (base:=base) (sp:=yq CW) X G L_ sG (abT · T WW)
 have Mc:=uk (P:=P) (w:=w) (base:=base) (sp:=wx K CW) X G wW sG (Ve · T WW vow)
 have Md:=uk (P:=P) (w:=w) (base:=base) (sp:=sg K CW) X G wX sG (O5 · T WW vow)
 have akq:=uk (P:=P) (w:=w) (base:=base) (sp:=ND K CW) X G Co sG (abX · T WW Mc Md)
 have N0:=uk (P:=P) (w:=w) (base:=base) (sp:=wz K CW) X G xW sG (O6 · T WW Mc Md)
 have WS:ST K CS:=⟨kG.cl,C2,Ck,C3,Fp⟩
 have Wy:=kNN (P:=P) (w:=w) (base:=base) (sp:=tf K CS) X G Ft kG (VD · T WS)
 have af0:=uk (P:=P) (w:=w) (base:=base) (sp:=DY CS) X G J5 kG (ab9 · T WS)
 have aaq:=uk (P:=P) (w:=w) (base:=base) (sp:=zg CS) X G Fu kG (VI · WS)
 have Zx:=uk (P:=P) (w:=w) (base:=base) (sp:=wH CS) X G Cp kG (Pd · WS aaq)
 have aar:=uk (P:=P) (w:=w) (base:=base) (sp:=sh K CS) X G ur kG (Pe · T WS)
 have af1:=uk (P:=P) (w:=w) (base:=base) (sp:=zh K CS) X G tu kG (VJ · T WS aap aar)
 have zx:=uk (P:=P) (w:=w) (base:=base) (sp:=pf K CW CS) X G Cq kG (Ph · T WS WW afY heavy aar af1)
 have af2:=uk (P:=P) (w:=w) (base:=base) (sp:=LK K CS) X G pW kG (Y3 · WS)
 have akr:=uk (P:=P) (w:=w) (base:=base) (sp:=VM K CS) X G wY kG (ace · T WS af2)
 have against:=yF (P:=P) (w:=w) (base:=base) (sp:=xK K CS) X G yJ (LM · T WS aaq)
 have dG:=yF (P:=P) (w:=w) (base:=base) (sp:=zi K) X G C5 (VN ·)
 have left:=yF (P:=P) (w:=w) (base:=base) (sp:=E5 K) X G Fv (Y9 ·)
 have ranks:=yF (P:=P) (w:=w) (base:=base) (sp:=E6 K CS) X G Fw (VO · T WS af0 dG left)
 have next:=yF (P:=P) (w:=w) (base:=base) (sp:=LQ K CS) X G Fx (Zb · T WS af0 dG left)
 have orders:=yF (P:=P) (w:=w) (base:=base) (sp:=B7 K CS) X G C6 (Po · T WS next)
 have WR:RT K CR:=⟨lq.cl,xU,Cm⟩
 have aas:=kNN (P:=P) (w:=w) (base:=base) (sp:=wG K CR) X G C7 lq (Vw · WR)
 have af3:=uk (P:=P) (w:=w) (base:=base) (sp:=LA K CR) X G pX lq (YM · T WR)
 have J':=uk (P:=P) (w:=w) (base:=base) (sp:=uc K CR) X G C8 lq (YN · WR)
 have FC:=uk (P:=P) (w:=w) (base:=base) (sp:=s_ K CR) X G uu lq (Vx · WR J')
 have Wz:=uk (P:=P) (w:=w) (base:=base) (sp:=zc K CR) X G uv lq (Vy · T WR J')
 have acS:=uk (P:=P) (w:=w) (base:=base) (sp:=EY K CR) X G uw lq (Vz · WR Wz FC)
 have acT:=uk (P:=P) (w:=w) (base:=base) (sp:=EZ K CR) X G pY lq (VA · T WR J' acS)
 have are:=yF (P:=P) (w:=w) (base:=base) (sp:=VQ K) X G J6 (acm · T)
 have listed:=yF (P:=P) (w:=w) (base:=base) (sp:=mS K) X G Wx (Pq · T)
 have refuse:=yF (P:=P) (w:=w) (base:=base) (sp:=ph K) X G Cr (Pr · T isWord Cu akq)
 have WD:DT K CD:=⟨ku.cl,Fq,Fs⟩
 have af4:=kNN (P:=P) (w:=w) (base:=base) (sp:=zm CS CD) X G J7 ku (VV · WD Wy)
 have acU:=uk (P:=P) (w:=w) (base:=base) (sp:=E7 CS CD) X G Fy ku (VW · WD Wy)
 have acV:=uk (P:=P) (w:=w) (base:=base) (sp:=E8 CS CD) X G xX ku (VY · T WD)
 have aks:=uk (P:=P) (w:=w) (base:=base) (sp:=VZ CS CD) X G xY ku (acp · T WD are Wy)
 have af5:=uk (P:=P) (w:=w) (base:=base) (sp:=E9 CS CD) X G J8 ku (V1 · T WD isWord Cu afZ)
 have af6:=uk (P:=P) (w:=w) (base:=base) (sp:=E_ CS CD) X G J9 ku (V2 · T WD isWord Cu zx acR listed)
 have af7:=uk (P:=P) (w:=w) (base:=base) (sp:=Fb CS CD) X G wZ ku (V5 · T WD isWord Cu zx akr acR listed)
 have af8:=uk (P:=P) (w:=w) (base:=base) (sp:=Pw CS CD K .profile) X G Cs ku (V6 · T WD WS refuse Cu Mc Md heavy afY aap)
 have af9:=uk (P:=P) (w:=w) (base:=base) (sp:=Pw CS CD K .bounding) X G yK ku (V7 · T WD refuse Cu zx N0 Zx acR listed)
 have WA:=uk (P:=P) (w:=w) (base:=base) (sp:=zq CS CD) X G Fz ku (V8 · T WD Cu zx N0 against)
 have acW:=uk (P:=P) (w:=w) (base:=base) (sp:=xQ CS CD K .learn) X G FA ku (V' · T WD refuse WA ranks listed)
 have akt:=uk (P:=P) (w:=w) (base:=base) (sp:=xQ CS CD K .fitting) X G Ct ku (Zf · T WD WS refuse WA orders listed)
 have about:=yF (P:=P) (w:=w) (base:=base) (sp:=zr K CR CS CD) X G tw (Wa · T Wz FC af5 af6 af7 af8 af9)
 have af':=yF (P:=P) (w:=w) (base:=base) (sp:=LV K CS CD) X G C9 (Zh · T aas J' FC acT acU acV aks about acW akt)
 exact LX F T af4 aas af3 J' FC af'
end Bt
open PySem PySem.W PyProof.Rows
set_option maxRecDepth 100000 in
set_option maxHeartbeats 0 in
theorem PySem.Challenge.cw_beatranks_s01_answers_holds : PySem.Challenge.rw_beatranks_s01_answers.Holds := by
 w_on;k_headS;(case hw=>exact⟨[.list [.int 0,.int 1,.int 0]],by decide+kernel,by decide+kernel⟩)
 k_fillS
 refine L2.LY (r:=PySem.Challenge.rw_beatranks_s01_answers) (k:=9) (CX:=L2.hC) (ps:=["calls"]) (sp:=Bt.xR) (by decide+kernel) rfl rfl ⟨rfl,by decide,by decide⟩ (λw h Y=>PySem.W.kIn_of Y) ?F ?S (λ_ _ _ _ z=>z)
 case F=>
  intro w mg fa h Y KX G hmg
  refine' Bt.all_mk KX G hmg ?_ ?_ ?_ ?_ ?_ ?_ ?_ ?_ ?_ ?_ ?_ ?_ ?_ ?_ ?_ ?_ ?_ ?_ ?_ ?_ ?_ ?_ ?_ ?_ ?_ ?_ ?_ ?_ ?_ ?_ ?_ ?_ ?_ ?_ ?_ ?_ ?_ ?_ ?_ ?_ ?_ ?_ ?_ ?_ ?_ ?_ ?_ ?_ ?_ ?_ ?_ ?_ ?_ ?_ ?_ ?_ ?_ ?_ ?_ ?_ ?_ ?_ ?_ ?_ ?_ ?_ ?_ ?_ ?_ ?_ ?_ ?_ ?_ ?_ ?_ ?_ ?_ ?_ ?_ ?_ ?_ ?_ ?_ ?_ ?_ ?_ ?_ ?_ ?_ ?_ ?_ ?_ ?_ ?_ ?_ ?_ ?_ ?_ ?_ ?_ ?_ ?_ ?_ ?_ ?_ ?_ ?_ ?_ ?_ ?_ ?_ ?_ ?_ ?_ ?_ ?_ ?_ ?_ ?_ ?_ ?_ ?_ ?_ ?_ ?_
  any_goals first|(refine' Bt.ako ?e ?v;(case e=>k_is);(case v=>rfl))|(refine' Bt.akp ?a ?l;(case a=>k_is);(case l=>k_is))|(refine' Bt.kfn ?a ?l ?c ?k;(case a=>k_is);(case l=>k_is);(case c=>k_is);(case k=>k_is))|(refine' Bt.kmt ?a ?i ?l ?c ?k;(case a=>k_is);(case i=>k_is);(case l=>k_is);(case c=>k_is);(case k=>k_is))|(refine'⟨?a,⟨?pg,?hd,?po,?sa⟩,?mk,?kp⟩;(case a=>k_is);(case pg=>k_is);(case hd=>k_is);(case po=>k_is);(case sa=>k_is);(case mk=>k_is);(case kp=>k_is))|(unfold L2.dQ;k_is)|k_is
 case S=>
  intro K H xs a hO hwi acG hx
  cases hx with
  |cons h1 h2=>
   cases h2
   cases h1 with
   |lst hs ha=>
    have e:=L2.NW a.1 _ ha
    subst e
    exact⟨_,a.1,rfl,hs,acG,λH' p hp=>.lst (L2.a_.of hp) (L2.NV _)⟩
