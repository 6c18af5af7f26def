import PyProof.Rows.All
import Wide.All
import OpenK.AllK
import Wide.FinOn
import PyProof.EqAt
import PyProof.EqKinds
import PyProof.TupleCall
import KE.BitLaws
import PyProof.DictRoadsH
import PyProof.DictUpdate
import KE.KDictLaws
import PyProof.DictItems
import KE.KRevIter
import PyProof.Rows.Tup
import PyProof.Rows.Range3
import PyProof.MinMaxWalk
import PyProof.WalkInts
import KE.KMinKey
import PyProof.CollectIter
import KE.KSortTupG
import PyProof.Rows.SortShellAny
import PyProof.Rows.TupDisplay
import Open.SpecLaws
import KE.OsHead
import KE.OsGo
import PySem.Challenge.RW_movetables_s01_answers
set_option Elab.async false
set_option linter.all false
set_option maxRecDepth 100000
set_option maxHeartbeats 0
set_option compiler.extract_closed false
set_option bootstrap.genMatcherCode false
set_option genSizeOf false
open Array renaming forIn_toList->pL,getElem?_eq_getElem->lA,getElem?_eq_none->J5,getElem?_eq_some_iff->pN,getElem?_toList->nI,isEmpty_iff->QW,length_toList->cY,toList->J8
open Bool renaming and_eq_true->bg,and_false->EW,eq_iff_iff->eu,false_and->EU,false_eq_true->cB,false_ne_true->bn,not_eq_true'->rh,not_false->ZD,not_true->ko,or_eq_false_iff->ox,or_eq_true->gj,or_false->ac1,true_and->Hv,true_or->aei
open Classical renaming byContradiction->kR
open False renaming elim->fM
open ForInStep renaming yield->jE
open Iff renaming rfl->VG
open Int renaming one_mul->QF,toNat_natCast->i5,toNat_of_nonneg->jv,zero_add->Ms
open Int.ofNat renaming inj->m9
open LawfulBEq renaming eq_of_beq->iL
open List renaming all_cons->l5,all_eq_true->ik,all_map->aeh,any_cons->kx,any_eq_false->z_,any_eq_true->n6,append_assoc->fg,append_nil->cz,concat_eq_append->Mr,cons_append->VR,drop_drop->js,drop_eq_getElem_cons->lH,drop_eq_nil_of_le->jW,drop_length->A6,drop_zero->qj,eq_nil_of_length_eq_zero->CT,eq_nil_or_concat->Mq,exists_cons_of_ne_nil->lq,ext_getElem?->Ae,filter->CN,filterMap->ZA,filterMap_append->gw,filterMap_cons->bI,filter_append->eU,filter_congr->U9,filter_cons->eB,filter_eq_nil_iff->m7,filter_map->X6,find?->Q7,find?_cons->dR,find?_eq_none->gC,findIdx?->adi,findIdx?_append->Oe,findIdx?_cons->mw,findIdx?_eq_some_iff_getElem->iM,flatMap->aen,flatMap_append->pp,flatMap_cons->Ad,flatMap_def->n8,flatten_cons->ga,foldl->Q2,foldl_append->rc,foldl_cons->dm,forIn_cons->X',forIn_nil->EX,getD_eq_getElem?_getD->aT,getElem?_append_left->cW,getElem?_append_right->eW,getElem?_cons_succ->gU,getElem?_cons_zero->J2,getElem?_eq_getElem->ay,getElem?_eq_none->dy,getElem?_eq_none_iff->iR,getElem?_eq_some_iff->ao,getElem?_map->aM,getElem?_of_mem->fS,getElem?_range->g_,getElem?_replicate->jq,getElem?_set->U8,getElem?_set_ne->vE,getElem?_set_self->tH,getElem?_take_of_lt->fH,getElem?_zip_eq_some->qK,getElem_inj->VL,getElem_mem->sT,length->i0,length_append->aw,length_cons->aZ,length_drop->eC,length_eq_zero_iff->sV,length_filterMap_le->bL,length_filter_le->cp,length_map->aq,length_nil->g0,length_range->fh,length_replicate->nZ,length_reverse->jm,length_set->C4,length_singleton->bp,length_take->a4,length_zip->CZ,lookup->jO,lookup_cons->ju,map->ZC,map_append->aK,map_congr_left->cZ,map_cons->aS,map_drop->Hu,map_eq_nil_iff->jh,map_map->bS,map_nil->i3,map_replicate->yk,map_set->ael,map_take->oq,mem_append->bC,mem_append_left->dj,mem_append_right->cG,mem_cons->aU,mem_cons_of_mem->az,mem_cons_self->aC,mem_filter->dE,mem_filterMap->b3,mem_iff_getElem?->fB,mem_map->aQ,mem_of_getElem?->aG,mem_of_mem_take->eX,mem_range->eV,mem_range'_1->m6,mem_singleton->my,nil_append->C1,nodup_append->f_,nodup_cons->oU,nodup_nil->jr,of_mem_zip->C3,pairwise_and_iff->uY,pairwise_append->N',pairwise_cons->dJ,pairwise_iff_getElem->iQ,pairwise_map->dF,range->bE,range'->d4,range'_append_1->N_,range'_succ->sS,range_eq_range'->vC,range_succ->gY,range_succ_eq_map->Kj,replicate->bz,replicate_succ->jl,reverse_cons->iZ,set_cons_succ->QT,size_toArray->a9,sum_append->X5,sum_cons->Hh,take_add_one->bQ,take_append_drop->uZ,take_left'->C8,take_length->a8,take_of_length_le->e8,take_zero->qm,zip_cons_cons->mx
open List.Pairwise renaming filter->ah2,nil->ahH
open List.cons renaming inj->da
open MonadExcept renaming tryCatch->u9
open Nat renaming add_assoc->J3,add_comm->AE,add_le_add_left->Q4,add_sub_cancel->zj,add_zero->Mg,le_of_eq->AJ,le_of_lt->j6,le_of_succ_le->rD,le_refl->aB,le_trans->aW,lt_irrefl->fI,lt_of_le_of_lt->d8,lt_of_lt_of_le->bX,lt_or_ge->Mf,lt_succ_of_lt->gZ,lt_succ_self->iu,lt_trans->pI,lt_trichotomy->AD,min_le_right->iy,ne_of_gt->pO,ne_of_lt->b4,not_lt_zero->Zz,or_lt_two_pow->rn,pos_of_ne_zero->j5,pow_le_pow_right->oO,pow_pos->wm,sub_self->lG,sub_zero->pK,succ_mul->Mp,testBit_lt_two_pow->Mu,testBit_or->qD,zero_add->pJ,zero_le->bj,zero_testBit->X4
open Ne renaming symm->iN
open Option renaming getD_none->Q1,isSome_iff_exists->EV,isSome_map->qH,isSome_some->Oc,map->sR,map_eq_none_iff->fZ,map_eq_some_iff->Hs,map_map->VQ,map_some->A3,none->uX,or->Q6,toList_some->l9
open Option.some renaming inj->ax,injEq->Hi
open Or renaming inl->l8,inr->mU
open PUnit renaming unit->DX
open Prod.mk renaming inj->hJ
open Pure renaming pure->i4
open PyFlat renaming call->Kn,calls->sW,played->Yd,row->Of,rows->mj,told->AM
open PyProof.Rows renaming AllBare->D5,IntsAre->rf,Subscript_->ac9,boot_range->ac8,callWith_builtin1->ajF,callWith_type1->fC,dflt->J4,envOfC->CS,kindOf->qG,seqObj->sG,slot_tuple_getitem->CQ,subscriptTail->QD,subscriptTail_builtinR->Vh,wpAny_notIn_heap->ahZ
open PyProof.Rows.G renaming tupKeyC->adg
open PySem renaming Addr->ah,Around->cT,BindsTo->Kg,CmpOp->QY,DictEntry->fP,Env->Mj,FuncData->fR,Heap->cX,HeapKind->X7,IsItemIter->pj,IsItemIterOut->QA,IsRangeIter->Hm,KeyKind->ZK,Keyword->Aa,MeetsIn->U_,NameKind->jk,Obj->gS,Params->CU,Pos->mZ,Program->a7,Result->Vb,Scope->mY,Sem->QV,Shared->aA,Stmt->dZ,Str->bT,Value->aj,Within->J7,World->bP,argBest->jV,argsOk->G0,assign->Ml,assignEach->pk,atKey->j3,atKey_none_of_get->ad3,attributeBase->lp,backTo->jd,backToKw->sF,beq_builtin_none->ahI,binaryOp->lV,bindArgs->Mn,bindC->Q0,bindL->QZ,bootBuiltins->mi,boot_len->bB,builtinLookup_eq_fast->oW,builtinsNs->ac5,cLine->iw,call->ah1,callWith->Mm,call_meets->wo,call_meetsIn->iA,callerA->Kl,cellsFrom->fm,codeAny->pB,codeAny_builtin->gE,codeAny_mono->wn,compEnvC->lY,compareOp->fj,dictSetDefault->oh,dictSetHashed->Qy,entryOfKey->ij,eqIsQuiet->QU,eval->fL,evalArgs_none->Ob,firstArgMember->ol,getD_mem->Yc,getItem->Ki,getMethod->G1,hashInt->Vc,holding->re,intItems->lX,intItems_at->Ht,isInstance->Mh,isSubtype_dict_dict->ZI,isSubtype_stop->Mi,isSubtype_tuple_tuple->yc,isSubtype_type->zp,keywordEach->lW,letOwnedTupleGo->wE,mainGlobals->cb,meetsH_dict_get_default->Q3,meets_dict_get_default->Vk,mem_of_lookup->cI,model->bA,newExc->Va,not_mem_keys_of_get->ZF,notedBy->Kk,numAt->Q5,numAt_eq->Yb,nums_intItems->QE,old_kept->Ya,pairTrees_cons_walk->ZM,pairTrees_nil_walk->adf,plainId_quiet->gX,pushCells->rC,pushCells_keeps->wF,pyIter->zk,pyNext->jF,rawInt->pi,reduceHash->CO,seqIndex_neg->Vg,seqIndex_of->X_,seqItems?->z8,setField->zo,sizeLine->al,sizeLine_eq->bR,size_of_entries->m8,sliceBounds->pQ,slot_list_getitem->aef,standAt->D7,starEach->cn,storedH->pA,storedH_new->ze,subscripted->Hr,swapsWith->rB,sysModules->db,tupleKeyHash->gn,tupleKind->iO,tupleKind_room_in1->e_,typeIs_int->ada,typeLookup->ac4,typeLookup_type->wC,updateSeq->u_,valueAt->on,wpAny->aX,wpAny_Assign_Subscript->Vj,wpAny_Call_Name_kw->iX,wpAny_Call_method->tI,wpAny_Dict_empty->ah0,wpAny_Name->ac6,wpAny_assign_Name->aeb,wpAny_attempt->mX,wpAny_bind->ae,wpAny_callSpecial?_slot->h_,wpAny_call_entry->eG,wpAny_dictEntries->dL,wpAny_dictEpoch->jf,wpAny_dictFind_heap->ZE,wpAny_execs_cons->ahL,wpAny_execs_nil->wD,wpAny_field->lT,wpAny_fieldsOf->oi,wpAny_getItem_heap->adc,wpAny_handled->QB,wpAny_holding->dP,wpAny_isInstance->gO,wpAny_isOneOf_itemiter->oj,wpAny_isOneOf_keyiter->VO,wpAny_isTrue_Compare1->VM,wpAny_letGo->lU,wpAny_mono->gp,wpAny_newObj_type->dz,wpAny_notOrdered_dict->lz,wpAny_of_eq->ji,wpAny_passesOwn->k_,wpAny_pure->au,wpAny_pyIter_enum->aek,wpAny_pyIter_list->aed,wpAny_pyIter_range->ac7,wpAny_pyIter_rangeiter->Ve,wpAny_pyIter_slot->DZ,wpAny_pyNext_range_end->Vd,wpAny_rule->iW,wpAny_seqItems->j2,wpAny_setField->sD,wpAny_setField_rec->kM,wpAny_setItem_heap->ade,wpAny_specialOf->fT,wpAny_standAt->A5,wpAny_throw->X9,wpAny_truthy_bool->cR,wpAny_tryCatch->g7,wpAny_tupleItemsOf->CP,wpAny_typeNameOfWhole_itemiter->j4,wpAny_typeNameOfWhole_keyiter->ky,wpAny_typeNameOf_itemiter->mz,wpAny_typeNameOf_keyiter->m3,wpAny_typeOf->U',wpAny_updateDictKeys->zf,wpAny_updateSeq->gF
open PySem.Around renaming under->Hq,under_plainId->d3
open PySem.Builtin renaming bitAnd->Vf,bitOr->D8
open PySem.Builtin.Builtins renaming bindParams->jc
open PySem.Builtin.Dict renaming addKeywords->ajo,dictSlotNone->ajI,entriesForEmpty->wB,keyAndDefault->yj,merge->ajm,mergeDict->A4,noArgs->ajp,readDirectly->ajn,selfAndRest->ajl,showsAll->jt,updateFrom->AF
open PySem.Builtin.Dict_items renaming dictOf->VH,newIterator->VI,ownedTupleFields->qE,ownedTupleIsFree->qF,ownsTuple->gg,pairFromOwner->rA
open PySem.Builtin.List renaming listExtendWith->yg,listFitsIndex->ajG,listLengthHint->yf,listSameRef->Ab,listTooLong->gh,listTouch->ajJ
open PySem.Builtin.Range renaming rangeSize->ln,small->C7
open PySem.Builtin.SmallTypes renaming newRecord->VJ
open PySem.Builtin.Tuple renaming tupleHashOf->eP,tupleItemsOf->ahJ
open PySem.Calls renaming Name_function_global->D6,callWith_builtin->jQ,evalArgs_plain->om,spliced_cons->jP,spliced_nil->qL
open PySem.Challenge renaming pw_movetables_s01_answers->adh,rw_movetables_s01_answers->bD
open PySem.Code renaming frames->ahX,isFrame->Kf
open PySem.Data renaming seq->Od
open PySem.EqMixed renaming eq_bool_str->ahM,eq_int_str->ahN,eq_str_bool->ahO,eq_str_int->ahP,ne_bool_str->ahQ,ne_int_str->ahR,ne_str_bool->ahS,ne_str_int->ahT
open PySem.EqNone renaming eq_bool_none->aju,eq_int_none->ajv,eq_none_bool->ajr,eq_none_int->ajs,eq_none_none->ajq,eq_none_str->ajt,eq_str_none->ajw,ne_bool_none->ajB,ne_int_none->ajC,ne_none_bool->ajy,ne_none_int->ajz,ne_none_none->ajx,ne_none_str->ajA,ne_str_none->ajD
open PySem.F renaming args_dict_get_2->l6,args_dict_get_3->l7,args_dict_itemiterator_next_1->C2,args_dict_keyiterator_next_1->D_,args_dict_setdefault_3->zq,args_list_extend_2->Vi,entry_dict_get->e6,entry_dict_itemiterator_next->D0,entry_dict_keyiterator_next->EY,entry_dict_setdefault->Ac,entry_extend_loop->VP,entry_list_extend->VN,entry_max_loop->D1,entry_min_loop->D4,plainAttrs_dict->fX,plainAttrs_list->bf,plain_extend_loop->ql,plain_list_iadd->ZN,plain_max_loop->jM,plain_min_loop->jN,slot_dict_get->du,slot_dict_getitem->C6,slot_dict_itemiterator_next->gW,slot_dict_items->ZO,slot_dict_items_iter->Qz,slot_dict_iter->DY,slot_dict_keyiterator_next->hZ,slot_dict_setdefault->jR,slot_dict_update->D',slot_int_rmul->aeg,slot_list_append->bv,slot_list_extend->j7,slot_list_pop->wq,slot_tuple_eq->pM,slot_tuple_hash->sU,type_dict_get->tF,type_dict_setdefault->AK,type_list_append->bx,type_list_extend->qI,type_list_pop->Hw
open PySem.Heap renaming ExtBut->Oa,SameBut->df,get?_push_of_some->aI,get?_push_size->ba,get?_update_other->bF,get?_update_self->cu,lt_size->bw,size_push->dU
open PySem.Heap.ExtBut renaming push->J6
open PySem.Heap.IsSliceOf renaming new->aee
open PySem.Heap.SameBut renaming refl->GZ,update->cy
open PySem.IsRange renaming new->ZL
open PySem.NameKind renaming cell->C5,free->nA
open PySem.Obj renaming data_mapDict->X8,data_mapDictKeys->fU,data_mapFields->Vl,isFreed_of_dict->lS,mapFields->aej,mapSeq->mR
open PySem.Paired renaming length->fw,snoc->adb
open PySem.PassesOwn renaming never->bi
open PySem.SeqAt renaming EqAt->ahY
open PySem.SeqAt.EqAt renaming int_none->G5,int_str->Hk,none_int->G3,none_str->G4,str_int->Hl,str_none->G6
open PySem.Shared renaming TypeIs->ET
open PySem.Str renaming ofString->eJ
open PySem.Value renaming bool->n0,builtin->wA,bytes->ad8,float->ad9,int->vD,isInt->ad7,isInt_shape->QX,isStrOf->ZJ,none->dI,ref->aY,str->Hj,type->pP
open PySem.W renaming Frag->ak,callWith_K->Mo,callWith_K0->Kh,cellsFrom_some->G2,codeIn->je,emptyDict->fW,findIn->eQ,fnOf->eZ,handedIn->QC,hasDictIn->qk,instObj->iE,isFn->sE,keepIn->fk,lookIn->uF,makesIn->AI,methodCall_KW->Hn,methodObj->yd,mg_none_of->dG,mg_of->vF,nsIn->dM,plainGet->nz,plainGet_of->va,plainOver->ye,takerIn->AH
open PySem.W.Looks renaming here->ahW
open PySem.Walks renaming list->D9,range->aec
open PySem.Within renaming cons->ajE
open PyVaglrd renaming answers->Og,answers_asked->EZ,calls->Q8,shape->eN,whole->ib
open Std.Legacy.Range renaming forIn_eq_forIn_range'->ZG,size->ZH
open Sum renaming inl->bJ,inr->AG
open Sum.inl renaming inj->z9
open ToString renaming toString->k9
open True renaming intro->g1
open Vaglrb renaming END->gR,Sets->kO,afterIn->kP,allIn->Hg,deriveRound->il,firstOf->im,firstRound->mS,followOf->bO,followRound->io,followStart->ip,noSets->ES,nonsIn->ER,nullable->gQ,productive->yi,productiveRules->bu,reachRound->eF,reachable->QS,rounds->X3,useful->fu,usefulRules->cU
open Vaglrc renaming Grammar->aL,NONS->ac3,RULES->ZB,Rule->eA,SYMS->ac2,Sym->mq,has->wz,numbered->tE,put->gP,readGrammar->gu,readRules->cC,readSyms->bm,union->lj
open Vaglrc.Sym renaming non->jp,range->qi
open Vaglrd renaming Act->aem,Call->kS,MOST->AL,Move->gf,Row->C0,STATES->gB,State->dw,Table->cK,actsAt->cH,along->fG,build->mT,bytes->Hx,classAt->cf,classesOf->ag,close->aV,closeRound->iP,completeAt->cA,conflictsOf->dH,cutsOf->bH,flatAct->pC,flatItem->jX,flatMove->dC,freshOf->cr,goAnswer->oy,goes->kQ,inRange->iq,item->hX,itemsAt->cD,lastRule->fF,loading->mV,mayFollow->rp,moveOf->bK,movesAt->fY,movesFrom->rm,nextSym->bq,onState->jg,overClass->di,overNon->bh,parse->oX,parseAnswer->l_,partsOf->eR,place->cj,rangesIn->br,ruleAt->aO,run->nH,start->jG,startGrammar->oP,step->fb,tableOf->gL,toInts->dA,toNats->dW
open Vaglrd.Act renaming shift->Km
open Vaglrd.Ending renaming stopped->ah3
open Vaglrd.Ending.read renaming inj->VS
open VaglrdNeutral renaming asked->ah5,callOf->ah4,step->i6
namespace Mt
open Vaglrc (Sym Rule Grammar)
variable{x n i b c a j W m:Nat}{l s t k first:List Nat}{y:mq}{α β:Type}{p q:Nat×Nat}{g:aL}{S:Nat->Nat->Prop}{r:eA}{N:Nat->Prop}{rs oz:List eA}{cl:List (Nat×Nat)}{ks:List (List Nat)}{hol:List Bool}
abbrev pq(l:List Nat):Prop:=l.Pairwise (· < ·)
theorem kT:wz x l=true↔x∈l:=by
 unfold wz;rw[n6];constructor
 ·rintro⟨y,hy,e⟩;rw[<-iL e];exact hy
 ·intro h;exact⟨x,h,by simp⟩
theorem pR{x y:Nat}:∀{l:List Nat},y∈gP x l↔y=x\/y∈l
 | []=>by simp[gP]|z::r=>by
  unfold gP;split
  ·simp
  ·split
   ·rename_i h;have e:x=z:=iL h;subst e;simp
   ·rw[aU,pR (l:=r),aU];constructor
    ·rintro(h|h|h)
     ·exact .inr (.inl h)
     ·exact .inl h
     ·exact .inr (.inr h)
    ·rintro(h|h|h)
     ·exact .inr (.inl h)
     ·exact .inl h
     ·exact .inr (.inr h)
theorem AN{x:Nat}:∀{l:List Nat},pq l->pq (gP x l)
 | [],_=>by simp[gP,pq]|z::r,h=>by
  have hc:=dJ.mp h;unfold gP;split
  ·rename_i hx;refine dJ.mpr ⟨λa ha=>?_,h⟩;rcases aU.mp ha with e|ha
   ·rw[e];exact hx
   ·exact pI hx (hc.1 a ha)
  ·rename_i hx;split
   ·exact h
   ·rename_i j8;have aph:x≠z:= λe=>j8 (by rw[e];simp);refine dJ.mpr ⟨λa ha=>?_,AN hc.2⟩;rcases pR.mp ha with e|ha
    ·omega
    ·exact hc.1 a ha
theorem jS{y:Nat}:∀{a b:List Nat},y∈lj a b↔y∈a\/y∈b
 | [],b=>by simp[lj]|x::a,b=>by
  have e:lj (x::a) b=lj a (gP x b):=rfl;rw[e,jS (a:=a),pR,aU];constructor
  ·rintro(h|h|h)
   ·exact .inl (.inr h)
   ·exact .inl (.inl h)
   ·exact .inr h
  ·rintro((h|h)|h)
   ·exact .inr (.inl h)
   ·exact .inl h
   ·exact .inr (.inr h)
theorem Ea:∀{a b:List Nat},pq b->pq (lj a b)
 | [],b,h=>h|x::a,b,h=>Ea (a:=a) (AN h)
theorem wG:∀{l m:List Nat},pq l->pq m->(∀x,x∈l↔x∈m)->l=m
 | [],[],_,_,_=>rfl| [],y::m,_,_,h=>absurd ((h y).mpr (aC ..)) (by simp)|x::l,[],_,_,h=>absurd ((h x).mp (aC ..)) (by simp)|x::l,y::m,hl,hm,h=>by
  have cl:=dJ.mp hl;have cm:=dJ.mp hm;have e:x=y:=by
   rcases aU.mp ((h x).mp (aC ..))with e|e
   ·exact e
   ·rcases aU.mp ((h y).mpr (aC ..))with e'|e'
    ·exact e'.symm
    ·have:=cm.1 x e;have:=cl.1 y e';omega
  subst e;have:=wG cl.2 cm.2 λz=>by
   constructor
   ·intro hz;rcases aU.mp ((h z).mp (az _ hz))with e|e
    ·have:=cl.1 z hz;omega
    ·exact e
   ·intro hz;rcases aU.mp ((h z).mpr (az _ hz))with e|e
    ·have:=cm.1 z hz;omega
    ·exact e
  rw[this]
def it{α:Type}(f:α->α):Nat->α->α
 |0,s=>s|k+1,s=>it f k (f s)
theorem E2{α:Type}(f:α->α):∀(k:Nat)(s:α),it f (k+1) s=f (it f k s)
 |0,_=>rfl|k+1,s=>E2 f k (f s)
theorem m_(f:List Nat->List Nat):∀(k:Nat)(s:List Nat),X3 f k s=it f k s
 |0,_=>rfl|k+1,s=>m_ f k (f s)
theorem oA(f:kO->kO):∀(k:Nat)(s:kO),Vaglrb.setRounds f k s=it f k s
 |0,_=>rfl|k+1,s=>oA f k (f s)
theorem A7{α:Type}{f:α->α}{I:α->Prop}(h:∀s,I s->I (f s)):∀(k:Nat)(s:α),I s->I (it f k s)
 |0,_,i=>i|k+1,s,i=>A7 h k (f s) (h s i)
open Classical in
noncomputable def cnt(p:Nat->Prop)(n:Nat):Nat:=((bE n).filter (λb=>decide (p b))).length
theorem ZP(p:Nat->Prop)(n:Nat):cnt p n<=n:=by unfold cnt;exact aW (cp _ _) (by simp)
theorem Hy{p q:Nat->Prop}(h:∀b,p b->q b):∀n,cnt p n<=cnt q n
 |0=>by simp[cnt]|n+1=>by
  have ih:=Hy h n;unfold cnt at ih ⊢;rw[gY,eU,eU,aw,aw];by_cases hp:p n
  ·have hq:=h n hp;simp[hp,hq];exact ih
  ·by_cases hq:q n
   ·simp[hp,hq];omega
   ·simp[hp,hq];exact ih
theorem Ko{p q:Nat->Prop}(h:∀b,p b->q b):∀(n b:Nat),b<n->¬p b->q b->cnt p n<cnt q n
 |0,b,hb,_,_=>absurd hb (Zz _)|n+1,b,hb,hp,hq=>by
  by_cases e:b=n
  ·subst e;have ih:=Hy h b;unfold cnt at ih ⊢;rw[gY,eU,eU,aw,aw];simp[hp,hq];omega
  ·have ih:=Ko h n b (by omega) hp hq;unfold cnt at ih ⊢;rw[gY,eU,eU,aw,aw];by_cases VT:p n
   ·have wu:=h n VT;simp[VT,wu];exact ih
   ·by_cases wu:q n
    ·simp[VT,wu];omega
    ·simp[VT,wu];exact ih
theorem yl{α:Type}{f:α->α}{I:α->Prop}{P:α->Nat->Prop}{n:Nat}(hI:∀s,I s->I (f s))(bnd:∀s B,I s->P s B->B<n)(kg:∀s B,I s->P s B->P (f s) B)(ZQ:∀s t,I s->I t->(∀B,P s B↔P t B)->∀B,P (f s) B↔P (f t) B):∀(k:Nat)(s:α),I s->n<=k+cnt (P s) n->∀B,P (f (it f k s)) B↔P (it f k s) B
 |0,s,i,h,B=>by
  constructor
  ·intro hB;have hb:=bnd _ _ (hI s i) hB;by_cases hp:P s B
   ·exact hp
   ·have h1:=Ko (p:=P s) (q:= λ_=>True) (λ_ _=>trivial) n B hb hp trivial;have h2:=ZP (λ_=>True) n;omega
  ·intro hB;exact kg s B i hB
 |k+1,s,i,h,B=>by
  show P (f (it f k (f s))) B↔P (it f k (f s)) B;by_cases hs:∀B,P (f s) B↔P s B
  ·
   have dB:∀(k:Nat)(s:α),I s->(∀B,P (f s) B↔P s B)->∀B,P (f (it f k s)) B↔P (it f k s) B:=by
    intro k;induction k with|zero=>intro s _ h;exact h|succ k ih=>intro s i h;exact ih (f s) (hI s i) (ZQ (f s) s (hI s i) i h)
   exact dB k (f s) (hI s i) (ZQ (f s) s (hI s i) i hs) B
  ·have⟨C,hC⟩:∃C,¬(P (f s) C↔P s C):=Classical.not_forall.mp hs;have hC1:P (f s) C/\¬P s C:=by
    by_cases h1:P (f s) C
    ·exact⟨h1,λh2=>hC ⟨λ_=>h2,λ_=>h1⟩⟩
    ·exact absurd ⟨λh=>absurd h h1,λh2=>kg s C i h2⟩ hC
   have f8:=Ko (p:=P s) (q:=P (f s)) (λb=>kg s b i) n C (bnd _ _ (hI s i) hC1.1) hC1.2 hC1.1;exact yl hI bnd kg ZQ k (f s) (hI s i) (by omega) B
def Hz(n:Nat):mq->Prop
 | .non k=>k<n| .range lo hi=>lo<=hi/\hi<256
structure Q9(n:Nat)(r:eA):Prop where
 lhs:r.lhs<n
 fD:r.rhs.length<=8
 Oh:∀y∈r.rhs,Hz n y
structure Good(g:aL):Prop where
 pos:1<=g.nons
 tJ:g.nons<=20
 fD:g.rules.length<=60
 rule:∀r∈g.rules,Q9 g.nons r
theorem pS{n:Nat}:∀{k:Nat}{x:List Nat}{y:List mq×List Nat},bm n k x=some y->y.1.length=k/\∀s∈y.1,Hz n s
 |0,x,y,h=>by have e:some (([]:List mq),x)=some y:=h;cases e;exact⟨rfl,λs hs=>by simp at hs⟩|k+1,0::a::r,y,h=>by
  rw[bm]at h;split at h
  ·rename_i ha;cases e:bm n k r with
   |none=>rw[e]at h;cases h|some z=>
    rw[e]at h;have h':=ax h;subst h';obtain⟨h1,h2⟩:=pS e;refine⟨by simp[h1],λs hs=>?_⟩;rcases aU.mp hs with q|q
    ·rw[q];exact ha
    ·exact h2 s q
  ·cases h
 |k+1,1::lo::hi::r,y,h=>by
  rw[bm]at h;split at h
  ·rename_i h1;split at h
   ·rename_i h2;cases e:bm n k r with
    |none=>rw[e]at h;cases h|some z=>
     rw[e]at h;have h':=ax h;subst h';obtain⟨q1,q2⟩:=pS e;refine⟨by simp[q1],λs hs=>?_⟩;rcases aU.mp hs with q|q
     ·rw[q];exact⟨h1,h2⟩
     ·exact q2 s q
   ·cases h
  ·cases h
 |k+1,[],y,h=>by simp[bm]at h|k+1,[a],y,h=>by
  match a,h with|0,h=>simp[bm]at h|1,h=>simp[bm]at h|a+2,h=>simp[bm]at h
 |k+1,[1,b],y,h=>by simp[bm]at h|k+1,(a+2)::b::r,y,h=>by simp[bm]at h
theorem wH{n:Nat}:∀{k:Nat}{x:List Nat}{y:List eA×List Nat},cC n k x=some y->y.1.length=k/\∀r∈y.1,Q9 n r
 |0,x,y,h=>by have e:some (([]:List eA),x)=some y:=h;cases e;exact⟨rfl,λs hs=>by simp at hs⟩|k+1,[],y,h=>by simp[cC]at h|k+1,[a],y,h=>by simp[cC]at h|k+1,a::m::r,y,h=>by
  rw[cC]at h;split at h
  ·rename_i ha;split at h
   ·rename_i hm;cases e:bm n m r with
    |none=>rw[e]at h;cases h|some z=>
     rw[e]at h;simp only at h;cases e2:cC n k z.2 with
     |none=>rw[e2]at h;cases h|some u=>
      rw[e2]at h;have h':=ax h;subst h';obtain⟨q1,q2⟩:=wH e2;obtain⟨p1,p2⟩:=pS e;refine⟨by simp[q1],λs hs=>?_⟩;rcases aU.mp hs with q|q
      ·rw[q];exact⟨ha,by rw[p1];exact hm,p2⟩
      ·exact q2 s q
   ·cases h
  ·cases h
theorem qM{x:List Nat}(h:gu x=some g):Good g:=by
 unfold gu at h;split at h
 ·split at h
  ·split at h
   ·split at h
    ·split at h
     ·rename_i h1 h2 h3 _ _ e;have h':=ax h;subst h';obtain⟨q1,q2⟩:=wH e;exact⟨h1,h2,by simp only;rw[q1];exact h3,q2⟩
     ·cases h
    ·cases h
   ·cases h
  ·cases h
 ·cases h
def pT(g:aL)(s:List Nat)(b:Nat):Prop:=∃c∈s,bq g c=some (.non b)
theorem tK{g:aL}{x:Nat}:∀{s l:List Nat},x∈s.foldl (λl c=>match bq g c with
 |some (.non b)=>lj (cr g b) l|_=>l) l↔x∈l\/∃b,pT g s b/\x∈cr g b
 | [],l=>by
  simp only[List.foldl_nil];constructor
  ·exact .inl
  ·rintro(h|⟨b,⟨c,hc,_⟩,_⟩)
   ·exact h
   ·simp at hc
 |c::s,l=>by
  rw[dm,tK (s:=s)];constructor
  ·rintro(h|⟨b,⟨d,hd,e⟩,hx⟩)
   ·split at h
    ·rename_i b e;rcases jS.mp h with h|h
     ·exact .inr ⟨b,⟨c,aC ..,e⟩,h⟩
     ·exact .inl h
    ·exact .inl h
   ·exact .inr ⟨b,⟨d,az _ hd,e⟩,hx⟩
  ·rintro(h|⟨b,⟨d,hd,e⟩,hx⟩)
   ·left;split
    ·exact jS.mpr (.inr h)
    ·exact h
   ·rcases aU.mp hd with q|q
    ·left;subst q;rw[e];exact jS.mpr (.inl hx)
    ·exact .inr ⟨b,⟨d,q,e⟩,hx⟩
theorem ic:x∈iP g s↔x∈s\/∃b,pT g s b/\x∈cr g b:=tK
theorem tL{g:aL}:∀{s l:List Nat},pq l->pq (s.foldl (λl c=>match bq g c with
 |some (.non b)=>lj (cr g b) l|_=>l) l)
 | [],l,h=>h|c::s,l,h=>by
  rw[dm];refine tL (s:=s) ?_;split
  ·exact Ea h
  ·exact h
theorem A8(h:pq s):pq (iP g s):=tL h
theorem Eb(h:pq s):pq (aV g s):=by unfold aV;rw[m_];exact A7 (I:=pq) (λs=>A8) _ _ h
theorem Q_{g:aL}{x:Nat}:∀(k:Nat)(s:List Nat),x∈s->x∈it (iP g) k s
 |0,_,h=>h|k+1,s,h=>Q_ k _ (ic.mpr (.inl h))
theorem uG(h:x∈s):x∈aV g s:=by unfold aV;rw[m_];exact Q_ _ _ h
def ym(g:aL)(S:Nat->Prop):Prop:=∀c b,S c->bq g c=some (.non b)->∀d∈cr g b,S d
theorem HA{g:aL}{S:Nat->Prop}(hS:ym g S):∀(k:Nat)(s:List Nat),(∀c∈s,S c)->∀c∈it (iP g) k s,S c
 |0,_,h=>h|k+1,s,h=>HA hS k _ λc hc=>by
  rcases ic.mp hc with q|⟨b,⟨d,hd,e⟩,q⟩
  ·exact h c q
  ·exact hS d b (h d hd) e c q
theorem tM{S:Nat->Prop}(hS:ym g S)(h:∀c∈s,S c):∀c∈aV g s,S c:=by unfold aV;rw[m_];exact HA hS _ _ h
theorem wI:(i,r)∈tE g↔g.rules[i]? =some r:=by
 unfold tE;rw[fB];constructor
 ·rintro⟨n,h⟩;rw[qK]at h;obtain⟨h1,h2⟩:=h;rw[g_ (by have:=ao.mp h1;obtain⟨q,_⟩:=this;simpa using q)]at h1
  simp at h1;subst h1;exact h2
 ·intro h;refine⟨i,?_⟩;rw[qK];refine⟨?_,h⟩;have:=(ao.mp h).1;rw[g_ this]
theorem zr:c∈cr g b↔∃i r,g.rules[i]? =some r/\r.lhs=b/\c=i*16:=by
 unfold cr;rw[b3];constructor
 ·rintro⟨⟨i,r⟩,hm,h⟩;simp only at h;split at h
  ·rename_i e;have h':=ax h;exact⟨i,r,wI.mp hm,iL e,by rw[<-h'];rfl⟩
  ·cases h
 ·rintro⟨i,r,hr,e,rfl⟩;refine⟨(i,r),wI.mpr hr,?_⟩;simp only;rw[if_pos (by rw[e];simp)];rfl
theorem uH(h:g.rules[i]? =some r):aO g i=r:=by
 unfold aO;have f8:=(ao.mp h).1;rw[if_neg (by intro e;have:=iL e;unfold fF at this;omega)]
 rw[aT,h];rfl
theorem pU:aO g g.rules.length={lhs:=g.nons,rhs:=[.non 0]}:=by unfold aO;rw[if_pos (by unfold fF;simp)]
theorem ng(G:Good g)(h:bq g c=some y):Hz g.nons y:=by
 unfold bq at h;have hm:=aG h;unfold aO at hm;split at hm
 ·have e:y= .non 0:=by simpa using hm
  rw[e];exact G.pos
 ·rw[aT]at hm;cases e:g.rules[c/16]? with|none=>rw[e]at hm;simp at hm|some r=>rw[e]at hm;exact(G.rule r (aG e)).Oh y hm
theorem vc:pT g (iP g s) b↔pT g s b\/∃b',pT g s b'/\pT g (cr g b') b:=by
 constructor
 ·rintro⟨c,hc,e⟩;rcases ic.mp hc with q|⟨b',h1,h2⟩
  ·exact .inl ⟨c,q,e⟩
  ·exact .inr ⟨b',h1,c,h2,e⟩
 ·rintro(⟨c,hc,e⟩|⟨b',h1,c,h2,e⟩)
  ·exact⟨c,ic.mpr (.inl hc),e⟩
  ·exact⟨c,ic.mpr (.inr ⟨b',h1,h2⟩),e⟩
theorem E3(G:Good g)(s:List Nat):ym g (· ∈aV g s):=by
 intro c b hc e d hd;unfold aV at hc ⊢;rw[m_]at hc ⊢;rw[E2]at hc ⊢;have E4:=yl (f:=iP g) (I:= λ_=>True) (P:=pT g) (n:=g.nons) (λ_ _=>trivial)
  (λs B _ ⟨c,_,e⟩=>ng G e) (λs B _ ⟨c,hc,e⟩=>⟨c,ic.mpr (.inl hc),e⟩)
  (λs t _ _ h B=>by
   rw[vc,vc,h B];constructor
   ·rintro(q|⟨b',h1,h2⟩)
    ·exact .inl q
    ·exact .inr ⟨b',(h b').mp h1,h2⟩
   ·rintro(q|⟨b',h1,h2⟩)
    ·exact .inl q
    ·exact .inr ⟨b',(h b').mpr h1,h2⟩)
  g.nons s trivial (by omega)
 have he:pT g (it (iP g) g.nons s) b:=(E4 b).mp ⟨c,hc,e⟩;exact ic.mpr (.inr ⟨b,he,hd⟩)
def pV(bytes:Bool)(S:Nat->Prop):mq->Prop
 | .non k=>S k| .range _ _=>bytes=true
theorem uI{bytes:Bool}{l:List mq}:Hg bytes s l=true↔∀y∈l,pV bytes (· ∈s) y:=by
 unfold Hg;rw[ik];constructor
 ·intro h y hy;have:=h y hy;cases y with|non k=>exact kT.mp this|range lo hi=>exact this
 ·intro h y hy;have:=h y hy;cases y with|non k=>exact kT.mpr this|range lo hi=>exact this
theorem lJ{bytes:Bool}{s:List Nat}{x:Nat}:∀{rs:List eA}{l:List Nat},x∈rs.foldl (λl r=>if Hg bytes s r.rhs then gP r.lhs l else l) l↔x∈l\/∃r∈rs,r.lhs=x/\∀y∈r.rhs,pV bytes (· ∈s) y
 | [],l=>by simp|r::rs,l=>by
  rw[dm,lJ (rs:=rs)];constructor
  ·rintro(h|⟨q,hq,h⟩)
   ·split at h
    ·rename_i ha;rcases pR.mp h with e|h
     ·exact .inr ⟨r,aC ..,e.symm,uI.mp ha⟩
     ·exact .inl h
    ·exact .inl h
   ·exact .inr ⟨q,az _ hq,h⟩
  ·rintro(h|⟨q,hq,e,h⟩)
   ·left;split
    ·exact pR.mpr (.inr h)
    ·exact h
   ·rcases aU.mp hq with z|z
    ·left;subst z;rw[if_pos (uI.mpr h)];exact pR.mpr (.inl e.symm)
    ·exact .inr ⟨q,z,e,h⟩
def Mw(g:aL)(bytes:Bool)(S:Nat->Prop):Prop:=∀r∈g.rules,(∀y∈r.rhs,pV bytes S y)->S r.lhs
def c9(g:aL)(bytes:Bool)(a:Nat):Prop:=∀S:Nat->Prop,Mw g bytes S->S a
theorem rE{bytes:Bool}{S T:Nat->Prop}(h:∀a,S a->T a)(q:pV bytes S y):pV bytes T y:=by
 cases y with|non k=>exact h k q|range lo hi=>exact q
theorem oY(g:aL)(bytes:Bool):Mw g bytes (c9 g bytes):=by intro r hr h S hS;exact hS r hr λy hy=>rE (λa ha=>ha S hS) (h y hy)
theorem qN(G:Good g)(bytes:Bool)(a:Nat):a∈X3 (il g bytes) g.nons []↔c9 g bytes a:=by
 rw[m_];constructor
 ·intro h S hS;have:∀(k:Nat)(s:List Nat),(∀x∈s,S x)->∀x∈it (il g bytes) k s,S x:=by
   intro k;induction k with
   |zero=>intro s h;exact h|succ k ih=>
    intro s h;refine ih _ λx hx=>?_;rcases lJ.mp hx with q|⟨r,hr,e,q⟩
    ·exact h x q
    ·rw[<-e];exact hS r hr λy hy=>rE h (q y hy)
  exact this _ _ (λx hx=>by simp at hx) a h
 ·intro h;refine h (· ∈it (il g bytes) g.nons []) λr hr q=>?_;have E4:=yl (f:=il g bytes) (I:= λs=>∀x∈s,x<g.nons) (P:= λs B=>B∈s) (n:=g.nons)
   (λs h x hx=>by
    rcases lJ.mp hx with q|⟨r,hr,e,_⟩
    ·exact h x q
    ·rw[<-e];exact(G.rule r hr).lhs)
   (λs B h hB=>h B hB) (λs B _ hB=>lJ.mpr (.inl hB))
   (λs t _ _ h B=>by show B∈il g bytes s↔B∈il g bytes t;unfold il;rw[lJ,lJ];have e:(λx=>x∈s)= λx=>x∈t:=funext λx=>propext (h x);rw[h B,e])
   g.nons [] (λx hx=>by simp at hx) (by omega)
  exact(E4 r.lhs).mp (lJ.mpr (.inr ⟨r,hr,rfl,q⟩))
theorem wJ(G:Good g):a∈gQ g↔c9 g false a:=qN G false a
theorem oZ(G:Good g):a∈yi g↔c9 g true a:=qN G true a
def Prd(g:aL)(r:eA):Prop:=∀y∈r.rhs,pV true (c9 g true) y
theorem e9(G:Good g):r∈bu g↔r∈g.rules/\Prd g r:=by unfold bu;simp only;rw[dE,uI];have e:(λx=>x∈yi g)=c9 g true:=funext λx=>propext (oZ G);rw[e];rfl
theorem A9{l:List mq}:b∈ER l↔jp b∈l:=by
 unfold ER;rw[b3];constructor
 ·rintro⟨y,hy,e⟩;cases y with|non k=>have:=ax e;subst this;exact hy|range lo hi=>cases e
 ·intro h;exact⟨_,h,rfl⟩
def wK(rs:List eA)(S:Nat->Prop):Prop:=∀r∈rs,S r.lhs->∀b,jp b∈r.rhs->S b
def jw(rs:List eA)(a:Nat):Prop:=∀S:Nat->Prop,S 0->wK rs S->S a
theorem wL(rs:List eA):jw rs 0:= λS h _=>h
theorem tN(rs:List eA):wK rs (jw rs):= λr hr h b hb S h0 hS=>hS r hr (h S h0 hS) b hb
theorem jH(r:eA)(rs:List eA)(l:List Nat):eF (r::rs) l=eF rs (if wz r.lhs l then lj (ER r.rhs) l else l):=rfl
theorem mB{x:Nat}:∀{rs:List eA}{l:List Nat},x∈l->x∈eF rs l
 | [],l,h=>h|r::rs,l,h=>by
  rw[jH];refine mB (rs:=rs) ?_;split
  ·exact jS.mpr (.inr h)
  ·exact h
theorem sI{b:Nat}:∀{rs:List eA}{l:List Nat}{r:eA},r∈rs->r.lhs∈l->jp b∈r.rhs->b∈eF rs l
 |q::rs,l,r,hr,hl,hb=>by
  rw[jH];rcases aU.mp hr with e|e
  ·subst e;refine mB ?_;rw[if_pos (kT.mpr hl)];exact jS.mpr (.inl (A9.mpr hb))
  ·refine sI (rs:=rs) e ?_ hb;split
   ·exact jS.mpr (.inr hl)
   ·exact hl
theorem nh{S:Nat->Prop}:∀{rs:List eA}{l:List Nat},wK rs S->(∀x∈l,S x)->∀x∈eF rs l,S x
 | [],l,_,h=>h|r::rs,l,hS,h=>by
  rw[jH];refine nh (rs:=rs) (λq hq=>hS q (az _ hq)) λx hx=>?_;split at hx
  ·rename_i hh;rcases jS.mp hx with q|q
   ·exact hS r (aC ..) (h _ (kT.mp hh)) x (A9.mp q)
   ·exact h x q
  ·exact h x hx
theorem sJ{x:Nat}:∀{rs:List eA}{l m:List Nat},(∀x,x∈l↔x∈m)->(x∈eF rs l↔x∈eF rs m)
 | [],l,m,h=>h x|r::rs,l,m,h=>by
  rw[jH,jH];refine sJ (rs:=rs) λy=>?_;have e:wz r.lhs l=wz r.lhs m:=by rw[eu,kT,kT];exact h r.lhs
  rw[e];split
  ·rw[jS,jS,h y]
  ·exact h y
theorem C9(G:Good g):a∈QS g↔jw (bu g) a:=by
 unfold QS;rw[m_];constructor
 ·intro h S h0 hS;have:∀(k:Nat)(s:List Nat),(∀x∈s,S x)->∀x∈it (eF (bu g)) k s,S x:=by
   intro k;induction k with
   |zero=>intro s h;exact h|succ k ih=>intro s h;exact ih _ λx hx=>nh hS h x hx
  exact this _ _ (λx hx=>by
   have:x=0:=by simpa using hx
   rw[this];exact h0) a h
 ·intro h;have sub:∀(k:Nat)(s:List Nat),0∈s->0∈it (eF (bu g)) k s:=by
   intro k;induction k with|zero=>intro s h;exact h|succ k ih=>intro s h;exact ih _ (mB h)
  refine h (· ∈it (eF (bu g)) g.nons [0]) (sub _ _ (by simp)) λr hr hl b hb=>?_;have E4:=yl (f:=eF (bu g)) (I:= λs=>∀x∈s,x<g.nons) (P:= λs B=>B∈s) (n:=g.nons)
   (λs h=>nh (S:= λx=>x<g.nons) (λr hr _ b hb=>(G.rule r ((e9 G).mp hr).1).Oh _ hb) h)
   (λs B h hB=>h B hB) (λs B _ hB=>mB hB) (λs t _ _ h B=>sJ h)
   g.nons [0] (λx hx=>by
    have:x=0:=by simpa using hx
    have:=G.pos;omega) (by omega)
  exact(E4 b).mp (sI hr hl hb)
def Use(g:aL)(r:eA):Prop:=Prd g r/\jw (bu g) r.lhs
theorem rF(G:Good g):a∈fu g↔jw (bu g) a/\c9 g true a:=by unfold fu;simp only;rw[dE,C9 G,kT,oZ G]
theorem iB(G:Good g):r∈cU g↔r∈g.rules/\Use g r:=by
 unfold cU;simp only;rw[dE,e9 G,kT,rF G];constructor
 ·rintro⟨⟨h1,h2⟩,h3,_⟩;exact⟨h1,h2,h3⟩
 ·rintro⟨h1,h2,h3⟩;exact⟨⟨h1,h2⟩,h3,oY g true r h1 h2⟩
inductive SS where
 |non (k:Nat)
 |Ra (h:Bool)
def dN(jx:Nat->Nat->Bool):mq->SS
 | .non k=> .non k| .range lo hi=> .Ra (jx lo hi)
def tO(N S:Nat->Prop):List SS->Prop
 | []=>False| .Ra h::_=>h=true| .non k::r=>S k\/(N k/\tO N S r)
def zu(N:Nat->Prop):List SS->Prop
 | []=>True| .Ra _::_=>False| .non k::r=>N k/\zu N r
abbrev zv:=Nat×List SS
def jY(jx:Nat->Nat->Bool)(rs:List eA):List zv:=rs.map λr=>(r.lhs,r.rhs.map (dN jx))
def HB(N:Nat->Prop)(rs:List zv)(S:Nat->Prop):Prop:=∀r∈rs,tO N S r.2->S r.1
def rG(N:Nat->Prop)(rs:List zv)(a:Nat):Prop:=∀S:Nat->Prop,HB N rs S->S a
def iY(N F:Nat->Prop)(O:Prop)(B:Nat):List SS->Prop
 | []=>False| .Ra _::r=>iY N F O B r| .non k::r=>(k=B/\(tO N F r\/(zu N r/\O)))\/iY N F O B r
structure HD(N F:Nat->Prop)(yn:Prop)(rs:List zv)(S:Nat->Prop):Prop where
 start:yn->S 0
 step:∀r∈rs,∀B,iY N F (S r.1) B r.2->S B
def uJ(N F:Nat->Prop)(yn:Prop)(rs:List zv)(a:Nat):Prop:=∀S:Nat->Prop,HD N F yn rs S->S a
theorem tO.kg{S T:Nat->Prop}(h:∀a,S a->T a):∀{l:List SS},tO N S l->tO N T l
 | .Ra _::_,q=>q| .non k::r,.inl q=> .inl (h k q)| .non k::r,.inr ⟨q,q'⟩=> .inr ⟨q,tO.kg h (l:=r) q'⟩
theorem C_{rs:List zv}:HB N rs (rG N rs):= λr hr h S hS=>hS r hr (h.kg λa ha=>ha S hS)
theorem iY.kg{F:Nat->Prop}{O O':Prop}{B:Nat}(h:O->O'):∀{l:List SS},iY N F O B l->iY N F O' B l
 | .Ra _::r,q=>iY.kg h (l:=r) q| .non k::r,.inl ⟨e,.inl q⟩=> .inl ⟨e,.inl q⟩| .non k::r,.inl ⟨e,.inr ⟨q,o⟩⟩=> .inl ⟨e,.inr ⟨q,h o⟩⟩| .non k::r,.inr q=> .inr (iY.kg h (l:=r) q)
theorem tP{F:Nat->Prop}{yn:Prop}{rs:List zv}:HD N F yn rs (uJ N F yn rs):=⟨λh S hS=>hS.start h,λr hr B q S hS=>hS.step r hr B (q.kg λo=>o S hS)⟩
open Vaglrb (Mask Sets noBytes theEnd either bytesOf setOf symFirst symNull rowFirst)
def CV(m:Mask)(b:Nat):Bool:=m.getD b false
theorem kz(b:Nat):CV noBytes b=false:=by unfold CV noBytes;rw[aT,jq];split<;>rfl
theorem kD:noBytes.length=257:=nZ ..
theorem HE(lo hi:Nat):(bytesOf lo hi).length=257:=by simp[bytesOf]
theorem Kq:theEnd.length=257:=by unfold theEnd;rw[aw,nZ];rfl
theorem ni{a b:Mask}(ha:a.length=257)(hb:b.length=257):(either a b).length=257:=by simp[either,ha,hb]
def kU(b:Nat)(lo hi:Nat):Bool:=decide (lo<=b)&&decide (b<=hi)
theorem HF{lo hi:Nat}(h:b<257):CV (bytesOf lo hi) b=kU b lo hi:=by unfold CV bytesOf kU;rw[aT,aM,g_ h];rfl
theorem o0{a b:Mask}(e:a.length=b.length)(i:Nat):CV (either a b) i=(CV a i||CV b i):=by
 unfold CV either;rw[aT,aT,aT,aM];by_cases h:i<a.length
 ·have h':i<b.length:=by omega
  have hz:(a.zip b)[i]? =some (a[i],b[i]):=by rw[qK];exact⟨ay h,ay h'⟩
  rw[hz,ay h,ay h'];rfl
 ·have h':¬i<b.length:=by omega
  rw[dy (l:=a) (by omega),dy (l:=b) (by omega),dy (l:=a.zip b) (by rw[CZ];omega)];rfl
theorem A_(b:Nat):CV theEnd b=decide (b=256):=by
 unfold CV theEnd;rw[aT,List.getElem?_append];simp only[nZ];by_cases h:b<256
 ·rw[if_pos h,jq,if_pos h,decide_eq_false (by omega)];rfl
 ·rw[if_neg h];by_cases e:b=256
  ·subst e;rfl
  ·rw[dy (by simp;omega),decide_eq_false e];rfl
structure gb(n:Nat)(t:Sets):Prop where
 fD:t.length=n
 wM:∀m∈t,m.length=257
theorem kW{t:Sets}(h:gb n t)(a:Nat):(setOf t a).length=257:=by
 unfold setOf;rw[aT];cases e:t[a]? with|none=>exact kD|some m=>exact h.wM m (aG e)
theorem d9{t:Sets}(h:gb n t)(q:CV (setOf t a) b=true):a<n:=by
 by_cases ha:a<n
 ·exact ha
 ·unfold setOf at q;rw[aT,dy (by rw[h.fD];omega)]at q;rw[show(uX (α:=Mask)).getD noBytes=noBytes from rfl,kz]at q;cases q
theorem qO{f:Nat->Mask}(h:a<n):setOf ((bE n).map f) a=f a:=by unfold setOf;rw[aT,aM,g_ h];rfl
theorem rH{f:Nat->Mask}(h:∀a,a<n->(f a).length=257):gb n ((bE n).map f):=⟨by simp,λm hm=>by obtain⟨a,ha,e⟩:=aQ.mp hm;rw[<-e];exact h a (eV.mp ha)⟩
def Bt(t:Sets)(b:Nat)(a:Nat):Prop:=CV (setOf t a) b=true
section
variable{n:Nat}{jI:List Nat}{t:Sets}
theorem tQ:symNull jI y=true↔∃k,y= .non k/\k∈jI:=by
 cases y with
 |non k=>
  constructor
  ·intro h;exact⟨k,rfl,kT.mp h⟩
  ·rintro⟨k',e,h⟩;cases e;exact kT.mpr h
 |range lo hi=>
  constructor
  ·intro h;cases h
  ·rintro⟨k',e,h⟩;cases e
theorem rJ(h:gb n t)(y:mq):(symFirst t y).length=257:=by
 cases y with|non k=>exact kW h k|range lo hi=>exact HE lo hi
theorem jy(h:gb n t):∀l:List mq,(rowFirst jI t l).length=257
 | []=>kD|y::l=>by
  rw[rowFirst];split
  ·exact ni (rJ h y) (jy h l)
  ·exact rJ h y
theorem oB(h:gb n t){b:Nat}(hb:b<257):∀l:List mq,CV (rowFirst jI t l) b=true↔tO (· ∈jI) (Bt t b) (l.map (dN (kU b)))
 | []=>by
  rw[rowFirst,kz];constructor
  ·intro h;cases h
  ·intro h;exact h.elim
 | .range lo hi::l=>by rw[rowFirst,if_neg (by intro q;cases q)];show CV (bytesOf lo hi) b=true↔kU b lo hi=true;rw[HF hb]| .non k::l=>by
  rw[rowFirst];show _↔Bt t b k\/(k∈jI/\tO (· ∈jI) (Bt t b) (l.map (dN (kU b))));by_cases hk:k∈jI
  ·rw[if_pos (tQ.mpr ⟨k,rfl,hk⟩),o0 (by rw[rJ h,jy h]),gj,oB h hb l];constructor
   ·rintro(q|q)
    ·exact .inl q
    ·exact .inr ⟨hk,q⟩
   ·rintro(q|⟨_,q⟩)
    ·exact .inl q
    ·exact .inr q
  ·rw[if_neg (by intro q;obtain⟨k',e,q⟩:=tQ.mp q;cases e;exact hk q)]
   constructor
   ·exact .inl
   ·rintro(q|⟨q,_⟩)
    ·exact q
    ·exact absurd q hk
theorem A'{f:eA->Mask->Mask}(hf:∀r m,m.length=257->(f r m).length=257):∀(rs:List eA)(m:Mask),m.length=257->(rs.foldl (λl r=>f r l) m).length=257
 | [],m,h=>h|r::rs,m,h=>A' hf rs (f r m) (hf r m h)
theorem Ba{b:Nat}{f:eA->Mask->Mask}{p:eA->Prop}(hl:∀r m,m.length=257->(f r m).length=257)(hf:∀r m,m.length=257->(CV (f r m) b=true↔p r\/CV m b=true)):∀(rs:List eA)(m:Mask),m.length=257->(CV (rs.foldl (λl r=>f r l) m) b=true↔CV m b=true\/∃r∈rs,p r)
 | [],m,h=>by simp|r::rs,m,h=>by
  rw[dm,Ba hl hf rs (f r m) (hl r m h),hf r m h];constructor
  ·rintro((q|q)|⟨r',h1,h2⟩)
   ·exact .inr ⟨r,aC ..,q⟩
   ·exact .inl q
   ·exact .inr ⟨r',az _ h1,h2⟩
  ·rintro(q|⟨r',h1,h2⟩)
   ·exact .inl (.inr q)
   ·rcases aU.mp h1 with e|e
    ·subst e;exact .inl (.inl h2)
    ·exact .inr ⟨r',e,h2⟩
theorem vd(h:gb n t)(a:Nat):∀(r:eA)(m:Mask),m.length=257->(if r.lhs==a then either (rowFirst jI t r.rhs) m else m).length=257:= λr m hm=>by
 split
 ·exact ni (jy h _) hm
 ·exact hm
theorem iS(h:gb g.nons t):gb g.nons (mS g jI rs t):=rH λa _=>A' (f:= λr l=>if r.lhs==a then either (rowFirst jI t r.rhs) l else l) (vd h a) rs _ (kW h a)
theorem kE(h:gb g.nons t)(hb:b<257)(ha:a<g.nons):Bt (mS g jI rs t) b a↔Bt t b a\/∃r∈rs,r.lhs=a/\tO (· ∈jI) (Bt t b) (r.rhs.map (dN (kU b))):=by
 unfold Bt mS;rw[qO ha];exact Ba (f:= λr l=>if r.lhs==a then either (rowFirst jI t r.rhs) l else l) (vd h a) (λr m hm=>by
  by_cases e:r.lhs=a
  ·rw[if_pos (by rw[e];simp),o0 (by rw[jy h,hm]),gj,oB h hb];constructor
   ·rintro(q|q)
    ·exact .inl ⟨e,q⟩
    ·exact .inr q
   ·rintro(⟨_,q⟩|q)
    ·exact .inl q
    ·exact .inr q
  ·rw[if_neg (by intro q;exact e (iL q))];constructor
   ·exact .inr
   ·rintro(⟨q,_⟩|q)
    ·exact absurd q e
    ·exact q) rs _ (kW h a)
end
theorem qP(g:aL):gb g.nons (ES g):=rH λ_ _=>kD
theorem gM(g:aL):gb g.nons (im g):=by unfold im;rw[oA];exact A7 (I:=gb g.nons) (λs h=>iS h) _ _ (qP g)
theorem iT{jx:Nat->Nat->Bool}{r:zv}:r∈jY jx rs↔∃q∈rs,r=(q.lhs,q.rhs.map (dN jx)):=by
 unfold jY;rw[aQ];constructor
 ·rintro⟨q,h,e⟩;exact⟨q,h,e.symm⟩
 ·rintro⟨q,h,e⟩;exact⟨q,h,e.symm⟩
theorem HG(G:Good g)(hb:b<257):Bt (im g) b a↔rG (c9 g false) (jY (kU b) (bu g)) a:=by
 have en:(λx=>x∈gQ g)=c9 g false:=funext λx=>propext (wJ G);have lhs:∀r∈bu g,r.lhs<g.nons:= λr hr=>(G.rule r ((e9 G).mp hr).1).lhs;unfold im;rw[oA];constructor
 ·intro h S hS;have key:∀(k:Nat)(t:kO),gb g.nons t->(∀x,Bt t b x->S x)->∀x,Bt (it (mS g (gQ g) (bu g)) k t) b x->S x:=by
   intro k;induction k with
   |zero=>intro t _ h;exact h|succ k ih=>
    intro t ok h;refine ih _ (iS ok) λx hx=>?_;have f8:=d9 (iS ok) hx;rcases(kE ok hb f8).mp hx with q|⟨r,hr,e,q⟩
    ·exact h x q
    ·rw[en]at q;rw[<-e];exact hS (r.lhs,r.rhs.map (dN (kU b))) (iT.mpr ⟨r,hr,rfl⟩) (q.kg h)
  refine key _ _ (qP g) (λx hx=>?_) a h;unfold Bt at hx;have f8:=d9 (qP g) hx;unfold ES at hx;rw[qO f8,kz]at hx;cases hx
 ·intro h;refine h _ λr hr q=>?_;obtain⟨r',Bb,rfl⟩:=iT.mp hr;have E4:=yl (f:=mS g (gQ g) (bu g)) (I:=gb g.nons) (P:= λt a=>Bt t b a) (n:=g.nons)
   (λs h=>iS h) (λs B h q=>d9 h q) (λs B h q=>(kE h hb (d9 h q)).mpr (.inl q))
   (λs t hs ht h B=>by
    have e:(λa=>Bt s b a)= λa=>Bt t b a:=funext λa=>propext (h a);by_cases hB:B<g.nons
    ·rw[kE hs hb hB,kE ht hb hB];have e':Bt s b=Bt t b:=e;rw[e']
    ·constructor
     ·intro q;exact absurd (d9 (iS hs) q) hB
     ·intro q;exact absurd (d9 (iS ht) q) hB)
   g.nons (ES g) (qP g) (by omega)
  rw[<-en]at q;exact(E4 r'.lhs).mp ((kE (A7 (I:=gb g.nons) (λs h=>iS h) _ _ (qP g)) hb (lhs r' Bb)).mpr (.inr ⟨r',Bb,rfl,q⟩))
section
variable{n:Nat}{jI:List Nat}{first:kO}
theorem Bd{b:Nat}:∀{l:List mq},l.all (symNull jI)=true↔zu (· ∈jI) (l.map (dN (kU b)))
 | []=>by simp[zu]| .range lo hi::l=>by
  simp only[l5,aS,bg];constructor
  ·rintro⟨q,_⟩;cases q
  ·intro q;exact q.elim
 | .non k::l=>by
  simp only[l5,aS,bg];rw[Bd (l:=l)];show _↔(k∈jI/\_);rw[tQ];constructor
  ·rintro⟨⟨k',e,h⟩,q⟩;cases e;exact⟨h,q⟩
  ·rintro⟨h,q⟩;exact⟨⟨k,rfl,h⟩,q⟩
theorem HH(h:gb n first){bN:Mask}(ho:bN.length=257)(B:Nat)(s:mq)(r:List mq):(match s with
 | .non k=>if k==B then(if r.all (symNull jI)then either (rowFirst jI first r) bN else rowFirst jI first r)else noBytes| .range _ _=>noBytes).length=257:=by
 cases s with
 |non k=>
  simp only;split
  ·split
   ·exact ni (jy h r) ho
   ·exact jy h r
  ·exact kD
 |range lo hi=>exact kD
theorem nJ(h:gb n first){bN:Mask}(ho:bN.length=257)(B:Nat):∀l:List mq,(kP jI first B bN l).length=257
 | []=>kD|s::r=>ni (HH h ho B s r) (nJ h ho B r)
theorem zw(h:gb n first){bN:Mask}(ho:bN.length=257){b:Nat}(hb:b<257)(B:Nat):∀l:List mq,CV (kP jI first B bN l) b=true↔iY (· ∈jI) (Bt first b) (CV bN b=true) B (l.map (dN (kU b)))
 | []=>by
  rw[kP,kz];constructor
  ·intro h;cases h
  ·intro h;exact h.elim
 |s::r=>by
  have e:kP jI first B bN (s::r)=either (match s with
   | .non k=>if k==B then(if r.all (symNull jI)then either (rowFirst jI first r) bN else rowFirst jI first r)else noBytes| .range _ _=>noBytes) (kP jI first B bN r):=rfl
  rw[e,o0 (by rw[HH h ho,nJ h ho]),gj,zw h ho hb B r];cases s with
  |range lo hi=>
   simp only[kz];constructor
   ·rintro(q|q)
    ·cases q
    ·exact q
   ·exact .inr
  |non k=>
   simp only;show _↔(k=B/\(tO (· ∈jI) (Bt first b) (r.map (dN (kU b)))\/(zu (· ∈jI) (r.map (dN (kU b)))/\CV bN b=true)))\/_;refine or_congr ?_ VG;by_cases hk:k=B
   ·rw[if_pos (by rw[hk];simp)];by_cases ha:r.all (symNull jI)=true
    ·rw[if_pos ha,o0 (by rw[jy h,ho]),gj,oB h hb];constructor
     ·rintro(q|q)
      ·exact⟨hk,.inl q⟩
      ·exact⟨hk,.inr ⟨Bd.mp ha,q⟩⟩
     ·rintro⟨_,q|⟨_,q⟩⟩
      ·exact .inl q
      ·exact .inr q
    ·rw[if_neg ha,oB h hb];constructor
     ·intro q;exact⟨hk,.inl q⟩
     ·rintro⟨_,q|⟨q,_⟩⟩
      ·exact q
      ·exact absurd (Bd.mpr q) ha
   ·rw[if_neg (by intro q;exact hk (iL q)),kz];constructor
    ·intro q;cases q
    ·rintro⟨q,_⟩;exact absurd q hk
end
section
variable{jI:List Nat}{first t:kO}{g:aL}{rs:List eA}
theorem i8(hF:gb g.nons first)(h:gb g.nons t):gb g.nons (io g jI first rs t):=rH λb _=>A' (f:= λr l=>either (kP jI first b (setOf t r.lhs) r.rhs) l) (λr m hm=>ni (nJ hF (kW h _) b _) hm) rs _ (kW h b)
theorem iC(hF:gb g.nons first)(h:gb g.nons t)(hb:b<257)(ha:a<g.nons):Bt (io g jI first rs t) b a↔Bt t b a\/∃r∈rs,iY (· ∈jI) (Bt first b) (Bt t b r.lhs) a (r.rhs.map (dN (kU b))):=by unfold io;show CV (setOf _ a) b=true↔_;rw[qO ha];exact Ba (f:= λr l=>either (kP jI first a (setOf t r.lhs) r.rhs) l) (λr m hm=>ni (nJ hF (kW h _) a _) hm) (λr m hm=>by rw[o0 (by rw[nJ hF (kW h _),hm]),gj,zw hF (kW h _) hb];rfl) rs _ (kW h a)
end
theorem mC(g:aL):gb g.nons (ip g):=rH λa _=>by
 split
 ·exact Kq
 ·exact kD
theorem iY.lt{F:Nat->Prop}{O:Prop}{B:Nat}:∀{l:List mq},(∀y∈l,Hz n y)->iY N F O B (l.map (dN (kU b)))->B<n
 | .range lo hi::l,h,q=>iY.lt (l:=l) (λy hy=>h y (az _ hy)) q| .non k::l,h,.inl ⟨e,_⟩=>by rw[<-e];exact h (.non k) (aC ..)| .non k::l,h,.inr q=>iY.lt (l:=l) (λy hy=>h y (az _ hy)) q
theorem sK(G:Good g):Bt (ip g) b a↔a=0/\b=256/\0∈fu g:=by
 constructor
 ·intro h;have ha:=d9 (mC g) h;unfold Bt ip at h;rw[qO ha]at h;split at h
  ·rename_i q;rw[bg]at q;rw[A_]at h;exact⟨iL q.1,of_decide_eq_true h,kT.mp q.2⟩
  ·rw[kz]at h;cases h
 ·rintro⟨rfl,rfl,h⟩;unfold Bt ip;rw[qO G.pos,if_pos (by rw[bg];exact⟨rfl,kT.mpr h⟩),A_];rfl
theorem wN(G:Good g)(hb:b<257):Bt (bO g) b a↔uJ (c9 g false) (rG (c9 g false) (jY (kU b) (bu g))) (b=256/\0∈fu g) (jY (kU b) (cU g)) a:=by
 have en:(λx=>x∈gQ g)=c9 g false:=funext λx=>propext (wJ G);have ef:Bt (im g) b=rG (c9 g false) (jY (kU b) (bu g)):=funext λx=>propext (HG G hb);have Oh:∀r∈cU g,∀y∈r.rhs,Hz g.nons y:= λr hr=>(G.rule r ((iB G).mp hr).1).Oh;rw[<-en,<-ef,<-en]at*;unfold bO;rw[oA];constructor
 ·intro h S hS;have key:∀(k:Nat)(t:kO),gb g.nons t->(∀x,Bt t b x->S x)->∀x,Bt (it (io g (gQ g) (im g) (cU g)) k t) b x->S x:=by
   intro k;induction k with
   |zero=>intro t _ h;exact h|succ k ih=>
    intro t ok h;refine ih _ (i8 (gM g) ok) λx hx=>?_;have f8:=d9 (i8 (gM g) ok) hx;rcases(iC (gM g) ok hb f8).mp hx with q|⟨r,hr,q⟩
    ·exact h x q
    ·exact hS.step (r.lhs,r.rhs.map (dN (kU b))) (iT.mpr ⟨r,hr,rfl⟩) x (q.kg (h _))
  refine key _ _ (mC g) (λx hx=>?_) a h;obtain⟨rfl,h1,h2⟩:=(sK G).mp hx;exact hS.start ⟨h1,h2⟩
 ·intro h;have okk:= λk=>A7 (f:=io g (gQ g) (im g) (cU g)) (I:=gb g.nons) (λs h=>i8 (gM g) h) k _ (mC g);have E4:=yl (f:=io g (gQ g) (im g) (cU g)) (I:=gb g.nons) (P:= λt a=>Bt t b a) (n:=g.nons)
   (λs h=>i8 (gM g) h) (λs B h q=>d9 h q) (λs B h q=>(iC (gM g) h hb (d9 h q)).mpr (.inl q))
   (λs t hs ht h B=>by
    have e:Bt s b=Bt t b:=funext λa=>propext (h a);by_cases hB:B<g.nons
    ·rw[iC (gM g) hs hb hB,iC (gM g) ht hb hB,e]
    ·constructor
     ·intro q;exact absurd (d9 (i8 (gM g) hs) q) hB
     ·intro q;exact absurd (d9 (i8 (gM g) ht) q) hB)
   (g.nons+1) (ip g) (mC g) (by omega)
  have ZR:∀k x,Bt (ip g) b x->Bt (it (io g (gQ g) (im g) (cU g)) k (ip g)) b x:=by
   intro k;induction k with|zero=>intro x h;exact h|succ k ih=>intro x h;rw[E2];exact(iC (gM g) (okk k) hb (d9 (okk k) (ih x h))).mpr (.inl (ih x h))
  refine h _ ⟨λ⟨h1,h2⟩=>ZR _ 0 ((sK G).mpr ⟨rfl,h1,h2⟩),λr hr B q=>?_⟩;obtain⟨r',Bb,rfl⟩:=iT.mp hr;exact(E4 B).mp ((iC (gM g) (okk _) hb (iY.lt (Oh r' Bb) q)).mpr (.inr ⟨r',Bb,q⟩))
theorem oC{cs:List Nat}(h:pq cs)(hi:cs[i]? =some a)(hj:cs[j]? =some b)(hij:i<j):a<b:=by obtain⟨h1,e1⟩:=ao.mp hi;obtain⟨h2,e2⟩:=ao.mp hj;rw[<-e1,<-e2];exact iQ.mp h i j h1 h2 hij
theorem Rb{cs:List Nat}(h:pq cs)(hi:cs[i]? =some a)(hj:cs[j]? =some b):a<b↔i<j:=by
 constructor
 ·intro q;by_cases e:i<j
  ·exact e
  ·by_cases e':i=j
   ·subst e';rw[hi]at hj;cases hj;omega
   ·have:=oC h hj hi (by omega);omega
 ·exact oC h hi hj
theorem Be{cs:List Nat}(h:pq cs)(hi:cs[i]? =some a)(hj:cs[j]? =some b):a<=b↔i<=j:=by have:=Rb h hj hi;omega
theorem kF{cs:List Nat}(h:pq cs)(hi:cs[i]? =some a)(hj:cs[i+1]? =some b)(hx:x∈cs):x<=a\/b<=x:=by
 obtain⟨k,hk⟩:=fB.mp hx;by_cases e:k<=i
 ·exact .inl ((Be h hk hi).mpr e)
 ·exact .inr ((Be h hj hk).mpr (by omega))
theorem Bf:∀{cs:List Nat},pq cs->∀{x u v:Nat},u∈cs->v∈cs->u<=x->x<v->∃i a b,cs[i]? =some a/\cs[i+1]? =some b/\a<=x/\x<b
 | [],_,_,_,_,hu,_,_,_=>by simp at hu| [c],_,x,u,v,hu,hv,h1,h2=>by
  have e1:u=c:=by simpa using hu
  have e2:v=c:=by simpa using hv
  omega
 |c::d::cs,h,x,u,v,hu,hv,h1,h2=>by
  have hc:=dJ.mp h;by_cases hx:x<d
  ·refine⟨0,c,d,rfl,rfl,?_,hx⟩;rcases aU.mp hu with e|e
   ·omega
   ·rcases aU.mp e with e|e
    ·omega
    ·have:=(dJ.mp hc.2).1 u e;omega
  ·have Vm:v∈d::cs:=by
    rcases aU.mp hv with e|e
    ·have:=hc.1 d (aC ..);omega
    ·exact e
   obtain⟨i,a,b,q1,q2,q3,q4⟩:=Bf (cs:=d::cs) hc.2 (x:=x) (u:=d) (v:=v) (aC ..) Vm (by omega) h2;exact⟨i+1,a,b,by simpa using q1,by simpa using q2,q3,q4⟩
theorem nj:∀{cs:List Nat}{i:Nat}{p:Nat×Nat},(eR cs)[i]? =some p↔∃a b,cs[i]? =some a/\cs[i+1]? =some b/\p=(a,b-1)
 | [],i,p=>by simp[eR]| [c],i,p=>by
  simp only[eR];constructor
  ·intro h;simp at h
  ·rintro⟨a,b,_,h,_⟩;simp at h
 |c::d::cs,0,p=>by
  simp only[eR];constructor
  ·intro h;have e:(c,d-1)=p:=by simpa using h
   exact⟨c,d,rfl,rfl,e.symm⟩
  ·rintro⟨a,b,h1,h2,e⟩;have e1:c=a:=by simpa using h1
   have e2:d=b:=by simpa using h2
   subst e1 e2 e;rfl
 |c::d::cs,i+1,p=>by have ih:=nj (cs:=d::cs) (i:=i) (p:=p);have e:eR (c::d::cs)=(c,d-1)::eR (d::cs):=rfl;rw[e,gU,ih];simp only[gU]
theorem oE:∀{cs:List Nat},(eR cs).length=cs.length-1
 | []=>rfl| [c]=>rfl|c::d::cs=>by have e:eR (c::d::cs)=(c,d-1)::eR (d::cs):=rfl;rw[e,aZ,oE (cs:=d::cs)];simp
theorem yo:∀{rs:List (Nat×Nat)}{l:List Nat},(pq l->pq (rs.foldl (λl p=>gP p.1 (gP (p.2+1) l)) l))/\∀x,x∈rs.foldl (λl p=>gP p.1 (gP (p.2+1) l)) l↔x∈l\/∃p∈rs,x=p.1\/x=p.2+1
 | [],l=>⟨λh=>h,λx=>by simp⟩|p::rs,l=>by
  obtain⟨h1,h2⟩:=yo (rs:=rs) (l:=gP p.1 (gP (p.2+1) l));refine⟨λh=>h1 (AN (AN h)),λx=>?_⟩;rw[dm,h2 x,pR,pR];constructor
  ·rintro((e|e|e)|⟨q,hq,e⟩)
   ·exact .inr ⟨p,aC ..,.inl e⟩
   ·exact .inr ⟨p,aC ..,.inr e⟩
   ·exact .inl e
   ·exact .inr ⟨q,az _ hq,e⟩
  ·rintro(e|⟨q,hq,e⟩)
   ·exact .inl (.inr (.inr e))
   ·rcases aU.mp hq with z|z
    ·subst z;rcases e with e|e
     ·exact .inl (.inl e)
     ·exact .inl (.inr (.inl e))
    ·exact .inr ⟨q,z,e⟩
theorem gG(g:aL):pq (bH g):=(yo (rs:=br g) (l:=[])).1 ahH
theorem tR:x∈bH g↔∃p∈br g,x=p.1\/x=p.2+1:=by have h:=(yo (rs:=br g) (l:=[])).2 x;unfold bH;rw[h];simp
theorem iF{lo hi:Nat}:(lo,hi)∈br g↔∃r∈g.rules,qi lo hi∈r.rhs:=by
 unfold br;rw[List.mem_flatMap];constructor
 ·rintro⟨r,hr,h⟩;obtain⟨y,hy,e⟩:=b3.mp h;refine⟨r,hr,?_⟩;cases y with|non k=>cases e|range a b=>have e':=ax e;cases e';exact hy
 ·rintro⟨r,hr,h⟩;exact⟨r,hr,b3.mpr ⟨_,h,rfl⟩⟩
theorem nL(G:Good g)(h:p∈br g):p.1<=p.2/\p.2<256:=by obtain⟨r,hr,q⟩:=iF (lo:=p.1) (hi:=p.2)|>.mp h;exact(G.rule r hr).Oh _ q
theorem jn:iq p q=true↔q.1<=p.1/\p.2<=q.2:=by unfold iq;rw[bg,decide_eq_true_iff,decide_eq_true_iff]
structure Oi(cl:List (Nat×Nat)):Prop where
 wM:∀p∈cl,p.1<=p.2
 apart:cl.Pairwise λp q=>p.2<q.1
theorem Oj{cs:List Nat}(h:pq cs):Oi (eR cs):=by
 constructor
 ·intro p hp;obtain⟨i,hi⟩:=fB.mp hp;obtain⟨a,b,h1,h2,rfl⟩:=nj.mp hi;have:=oC h h1 h2 (by omega);simp only;omega
 ·rw[iQ];intro i j hi hj hij;obtain⟨a,b,h1,h2,e1⟩:=nj.mp (ay hi);obtain⟨a',b',h1',h2',e2⟩:=nj.mp (ay hj);rw[e1,e2];have:=oC h h1 h2 (by omega);have:=(Be h h2 h1').mpr (by omega);simp only;omega
theorem f9(g:aL):Oi (ag g):=by have h:=Oj (gG g);exact⟨λp hp=>h.wM p (dE.mp hp).1,h.apart.filter _⟩
theorem tS:p∈ag g↔∃i a b,(bH g)[i]? =some a/\(bH g)[i+1]? =some b/\p=(a,b-1)/\∃q∈br g,q.1<=a/\b-1<=q.2:=by
 unfold ag;rw[dE,fB,n6];constructor
 ·rintro⟨⟨i,hi⟩,q,hq,hr⟩;obtain⟨a,b,h1,h2,rfl⟩:=nj.mp hi;exact⟨i,a,b,h1,h2,rfl,q,hq,jn.mp hr⟩
 ·rintro⟨i,a,b,h1,h2,rfl,q,hq,hr⟩;exact⟨⟨i,nj.mpr ⟨a,b,h1,h2,rfl⟩⟩,q,hq,jn.mpr hr⟩
theorem Bg(h:p∈br g):p.1∈bH g:=tR.mpr ⟨p,h,.inl rfl⟩
theorem yp(h:p∈br g):p.2+1∈bH g:=tR.mpr ⟨p,h,.inr rfl⟩
theorem yq(hp:p∈ag g)(h1:p.1<=b)(h2:b<=p.2)(hq:q∈br g):(q.1<=b/\b<=q.2)↔iq p q=true:=by
 rw[jn];constructor
 ·rintro⟨l1,l2⟩;obtain⟨i,a,c,e1,e2,rfl,_⟩:=tS.mp hp;simp only at*;have f8:=oC (gG g) e1 e2 (by omega);have d1:=kF (gG g) e1 e2 (Bg hq);have d2:=kF (gG g) e1 e2 (yp hq);omega
 ·rintro⟨l1,l2⟩;omega
theorem yr(hq:q∈br g)(h1:q.1<=b)(h2:b<=q.2):∃p∈ag g,p.1<=b/\b<=p.2:=by obtain⟨i,a,c,e1,e2,l1,l2⟩:=Bf (gG g) (x:=b) (Bg hq) (yp hq) h1 (by omega);have d1:=kF (gG g) e1 e2 (Bg hq);have d2:=kF (gG g) e1 e2 (yp hq);exact⟨(a,c-1),tS.mpr ⟨i,a,c,e1,e2,rfl,q,hq,by omega,by omega⟩,l1,by simp only;omega⟩
theorem tT(G:Good g)(hq:q∈br g):∃(c:Nat)(p:Nat×Nat),(ag g)[c]? =some p/\p.1=q.1:=by obtain⟨l,_⟩:=nL G hq;obtain⟨p,hp,h1,h2⟩:=yr hq (b:=q.1) (by omega) l;have:=(yq hp h1 h2 hq).mp ⟨by omega,l⟩;rw[jn]at this;obtain⟨c,hc⟩:=fB.mp hp;exact⟨c,p,hc,by omega⟩
theorem vG(G:Good g)(hq:q∈br g):∃(c:Nat)(p:Nat×Nat),(ag g)[c]? =some p/\p.2=q.2:=by obtain⟨l,_⟩:=nL G hq;obtain⟨p,hp,h1,h2⟩:=yr hq (b:=q.2) (by omega) (by omega);have:=(yq hp h1 h2 hq).mp ⟨by omega,by omega⟩;rw[jn]at this;obtain⟨c,hc⟩:=fB.mp hp;exact⟨c,p,hc,by omega⟩
theorem vH(h:Oi cl)(hi:cl[i]? =some p)(hj:cl[j]? =some q)(hij:i<j):p.2<q.1:=by obtain⟨h1,e1⟩:=ao.mp hi;obtain⟨h2,e2⟩:=ao.mp hj;rw[<-e1,<-e2];exact iQ.mp h.apart i j h1 h2 hij
theorem E5(h:Oi cl)(hi:cl[i]? =some p)(hj:cl[j]? =some q):p.1<=q.1↔i<=j:=by
 have hp:=h.wM p (aG hi);have hq:=h.wM q (aG hj);rcases AD i j with e|e|e
 ·have:=vH h hi hj e;omega
 ·subst e;rw[hi]at hj;cases hj;omega
 ·have:=vH h hj hi e;omega
theorem E6(h:Oi cl)(hi:cl[i]? =some p)(hj:cl[j]? =some q):p.2<=q.2↔i<=j:=by
 have hp:=h.wM p (aG hi);have hq:=h.wM q (aG hj);rcases AD i j with e|e|e
 ·have:=vH h hi hj e;omega
 ·subst e;rw[hi]at hj;cases hj;omega
 ·have:=vH h hj hi e;omega
theorem HI(h:Oi cl)(hi:cl[i]? =some p)(hj:cl[j]? =some q)(h1:p.1<=b)(h2:b<=p.2)(h3:q.1<=b)(h4:b<=q.2):i=j:=by
 rcases AD i j with e|e|e
 ·have:=vH h hi hj e;omega
 ·exact e
 ·have:=vH h hj hi e;omega
theorem nM:cf g b=some c↔∃p,(ag g)[c]? =some p/\p.1<=b/\b<=p.2:=by
 unfold cf;rw[iM];constructor
 ·rintro⟨h,q,_⟩;rw[bg,decide_eq_true_iff,decide_eq_true_iff]at q;exact⟨_,ay h,q⟩
 ·rintro⟨p,hp,h1,h2⟩;obtain⟨h,e⟩:=ao.mp hp;refine⟨h,by rw[e,bg,decide_eq_true_iff,decide_eq_true_iff];exact⟨h1,h2⟩,λj hj q=>?_⟩;rw[bg,decide_eq_true_iff,decide_eq_true_iff]at q;have:=HI (f9 g) (ay (pI hj h)) hp q.1 q.2 h1 h2;omega
def pD(g:aL)(lo:Nat):Nat:=((ag g).findIdx? (λp=>p.1==lo)).getD 0
def pE(g:aL)(hi:Nat):Nat:=((ag g).findIdx? (λp=>p.2==hi)).getD 0
theorem E7(h:(ag g)[c]? =some p):pD g p.1=c:=by
 unfold pD;have:(ag g).findIdx? (λq=>q.1==p.1)=some c:=by rw[iM];obtain⟨hl,e⟩:=ao.mp h;refine⟨hl,by rw[e];simp,λj hj q=>?_⟩;have q':=iL q;have:=(E5 (f9 g) h (ay (pI hj hl))).mp (by omega);omega
 rw[this];rfl
theorem E8(h:(ag g)[c]? =some p):pE g p.2=c:=by
 unfold pE;have:(ag g).findIdx? (λq=>q.2==p.2)=some c:=by rw[iM];obtain⟨hl,e⟩:=ao.mp h;refine⟨hl,by rw[e];simp,λj hj q=>?_⟩;have q':=iL q;have:=(E6 (f9 g) h (ay (pI hj hl))).mp (by omega);omega
 rw[this];rfl
theorem sL(G:Good g)(hp:(ag g)[c]? =some p)(hq:q∈br g):iq p q=true↔pD g q.1<=c/\c<=pE g q.2:=by obtain⟨i,u,hu,e1⟩:=tT G hq;obtain⟨j,v,hv,e2⟩:=vG G hq;rw[jn,<-e1,<-e2,E7 hu,E8 hv,E5 (f9 g) hu hp,E6 (f9 g) hp hv]
theorem Mx(G:Good g)(hq:q∈br g):pD g q.1<=pE g q.2/\pE g q.2<(ag g).length:=by
 obtain⟨i,u,hu,e1⟩:=tT G hq;obtain⟨j,v,hv,e2⟩:=vG G hq;have:=nL G hq;rw[<-e1,<-e2,E7 hu,E8 hv];refine⟨?_,(ao.mp hv).1⟩;rcases Mf j i with e|e
 ·have:=vH (f9 g) hv hu e;have:=(f9 g).wM u (aG hu);have:=(f9 g).wM v (aG hv);omega
 ·exact e
def jJ(c lo hi:Nat):Bool:=decide (lo<=c)&&decide (c<=hi)
def o1(g:aL):mq->mq
 | .non k=> .non k| .range lo hi=> .range (pD g lo) (pE g hi)
def iz(g:aL)(r:eA):eA:={lhs:=r.lhs,rhs:=r.rhs.map (o1 g)}
theorem HJ(G:Good g)(hp:(ag g)[c]? =some p)(h1:p.1<=b)(h2:b<=p.2)(hr:r∈g.rules)(hy:y∈r.rhs):dN (kU b) y=dN (jJ c) (o1 g y):=by
 cases y with|non k=>rfl|range lo hi=>have hq:(lo,hi)∈br g:=iF.mpr ⟨r,hr,hy⟩;have e1:=yq (aG hp) h1 h2 hq;rw[sL G hp hq]at e1;show SS.Ra (kU b lo hi)=SS.Ra (jJ c (pD g lo) (pE g hi));congr 1;rw[eu];unfold kU jJ;rw[bg,bg,decide_eq_true_iff,decide_eq_true_iff,decide_eq_true_iff,decide_eq_true_iff];exact e1
theorem Kr(G:Good g)(hc:(ag g).length<=c)(hb:∀q∈br g,¬(q.1<=b/\b<=q.2))(hr:r∈g.rules)(hy:y∈r.rhs):dN (kU b) y=dN (jJ c) (o1 g y):=by
 cases y with
 |non k=>rfl|range lo hi=>
  have hq:(lo,hi)∈br g:=iF.mpr ⟨r,hr,hy⟩;have e1:=hb _ hq;have e2:=(Mx G hq).2;show SS.Ra (kU b lo hi)=SS.Ra (jJ c (pD g lo) (pE g hi));congr 1;rw[eu];unfold kU jJ;rw[bg,bg,decide_eq_true_iff,decide_eq_true_iff,decide_eq_true_iff,decide_eq_true_iff];simp only at e1 e2;constructor
  ·intro h;exact absurd h e1
  ·intro h;omega
theorem Bh{jx Db:Nat->Nat->Bool}(h:∀r∈rs,∀y∈r.rhs,dN jx y=dN Db (o1 g y)):jY jx rs=jY Db (rs.map (iz g)):=by unfold jY;rw[bS];refine cZ λr hr=>?_;show(r.lhs,r.rhs.map (dN jx))=(r.lhs,(r.rhs.map (o1 g)).map (dN Db));rw[bS];congr 1;exact cZ λy hy=>h r hr y hy
end Mt
namespace Mt
open Vaglrc (Sym Rule Grammar)
open Vaglrd (Move Row Table)
variable{x n i b c a j W m:Nat}{l s t k first:List Nat}{y:mq}{α β:Type}{p q:Nat×Nat}{g:aL}{S:Nat->Nat->Prop}{r:eA}{N:Nat->Prop}{rs oz:List eA}{cl:List (Nat×Nat)}{ks:List (List Nat)}{hol:List Bool}
structure lK(g:aL)(c:Nat):Prop where
 rule:c/16<=g.rules.length
 place:c%16<=(aO g (c/16)).rhs.length
theorem Bi(G:Good g)(i:Nat):(aO g i).rhs.length<=8:=by
 unfold aO;split
 ·simp
 ·rw[aT];cases e:g.rules[i]? with|none=>simp|some r=>exact(G.rule r (aG e)).fD
theorem AO(h:bq g c=some y):c%16<(aO g (c/16)).rhs.length:=by unfold bq at h;exact(ao.mp h).1
theorem uK(G:Good g)(h:bq g c=some y):(c+1)/16=c/16/\(c+1)%16=c%16+1:=by have h1:=AO h;have h2:=Bi G (c/16);omega
theorem zx(G:Good g)(I:lK g c)(h:bq g c=some y):lK g (c+1):=by obtain⟨e1,e2⟩:=uK G h;refine⟨by rw[e1];exact I.rule,?_⟩;rw[e1,e2];exact AO h
theorem E9{d:Nat}(h:d∈cr g b):lK g d:=by obtain⟨i,r,hr,_,rfl⟩:=zr.mp h;have:=(ao.mp hr).1;exact⟨by omega,by omega⟩
theorem E'(g:aL):lK g (hX (fF g) 0):=by unfold hX fF;exact⟨by omega,by omega⟩
theorem rK(h:∀c∈s,lK g c):∀c∈aV g s,lK g c:=tM (S:=lK g) (λc b _ _ d hd=>E9 hd) h
theorem oF(G:Good g)(I:lK g c):c<976:=by have:=I.rule;have:=G.fD;omega
theorem jz:∀{l:List Nat}{n:Nat},pq l->(∀x∈l,x<n)->l.length<=n:=by
 have key:∀(l:List Nat)(m n:Nat),pq l->(∀x∈l,m<=x/\x<n)->l.length<=n-m:=by
  intro l;induction l with
  |nil=>intro m n _ _;simp|cons a l ih=>intro m n h hb;have hc:=dJ.mp h;have h1:=hb a (aC ..);have:=ih (a+1) n hc.2 λx hx=>⟨hc.1 x hx,(hb x (az _ hx)).2⟩;rw[aZ];omega
 intro l n h hb;have:=key l 0 n h λx hx=>⟨bj _,hb x hx⟩;omega
theorem nN:x∈bh g s b↔∃c∈s,bq g c=some (.non b)/\x=c+1:=by
 unfold bh;rw[b3];constructor
 ·rintro⟨c,hc,h⟩;split at h
  ·rename_i k e;split at h
   ·rename_i ek;have h':=ax h;rw[iL ek]at e;exact⟨c,hc,e,h'.symm⟩
   ·cases h
  ·cases h
 ·rintro⟨c,hc,e,rfl⟩;refine⟨c,hc,?_⟩;rw[e];simp
theorem vg:x∈di g s p↔∃c∈s,∃lo hi,bq g c=some (.range lo hi)/\iq p (lo,hi)=true/\x=c+1:=by
 unfold di;rw[b3];constructor
 ·rintro⟨c,hc,h⟩;split at h
  ·rename_i lo hi e;split at h
   ·rename_i q;have h':=ax h;exact⟨c,hc,lo,hi,e,q,h'.symm⟩
   ·cases h
  ·cases h
 ·rintro⟨c,hc,lo,hi,e,q,rfl⟩;refine⟨c,hc,?_⟩;rw[e];simp[q]
theorem lL{f:Nat->Option Nat}(hf:∀c x,f c=some x->x=c+1):∀{s:List Nat},pq s->pq (s.filterMap f)
 | [],_=>by simp[pq]|c::s,h=>by
  have hc:=dJ.mp h;have ih:=lL hf hc.2;rw[bI];cases e:f c with
  |none=>exact ih|some x=>refine dJ.mpr ⟨λy hy=>?_,ih⟩;obtain⟨d,hd,e2⟩:=b3.mp hy;have:=hc.1 d hd;rw[hf c x e,hf d y e2];omega
theorem HK(b:Nat)(h:pq s):pq (bh g s b):=lL (λc x e=>by
 split at e
 ·split at e
  ·exact(ax e).symm
  ·cases e
 ·cases e) h
theorem Dc(p:Nat×Nat)(h:pq s):pq (di g s p):=lL (λc x e=>by
 split at e
 ·split at e
  ·exact(ax e).symm
  ·cases e
 ·cases e) h
structure ZS(g:aL)(s:List Nat):Prop where
 J9:pq s
 ok:∀c∈s,lK g c
 ne:s≠[]
 pl:∀c∈s,c%16≠0
def dO(g:aL):List Nat:=[hX (fF g) 0]
def qo(g:aL)(s:List Nat):Prop:=s=dO g\/ZS g s
structure sX(g:aL)(s:List Nat):Prop where
 J9:pq s
 ok:∀c∈s,lK g c
theorem qo.ok(h:qo g s):sX g s:=by
 rcases h with rfl|h
 ·refine⟨by simp[dO,pq],λc hc=>?_⟩;have e:c=hX (fF g) 0:=by simpa[dO]using hc
  rw[e];exact E' g
 ·exact⟨h.J9,h.ok⟩
theorem sX.close(h:sX g s):sX g (aV g s):=⟨Eb h.J9,rK h.ok⟩
theorem HL(G:Good g)(h:sX g s)(ne:bh g s b≠[]):ZS g (bh g s b):=by
 refine⟨HK b h.J9,λx hx=>?_,ne,λx hx=>?_⟩
 ·obtain⟨c,hc,e,rfl⟩:=nN.mp hx;exact zx G (h.ok c hc) e
 ·obtain⟨c,hc,e,rfl⟩:=nN.mp hx;have:=uK G e;omega
theorem Dd(G:Good g)(h:sX g s)(ne:di g s p≠[]):ZS g (di g s p):=by
 refine⟨Dc p h.J9,λx hx=>?_,ne,λx hx=>?_⟩
 ·obtain⟨c,hc,lo,hi,e,_,rfl⟩:=vg.mp hx;exact zx G (h.ok c hc) e
 ·obtain⟨c,hc,lo,hi,e,_,rfl⟩:=vg.mp hx;have:=uK G e;omega
theorem mD(h:c∈aV g s)(hp:c%16≠0):c∈s:=by
 have:=tM (g:=g) (S:= λc=>c∈s\/c%16=0) (λc b _ _ d hd=>by obtain⟨i,r,_,_,rfl⟩:=zr.mp hd;exact .inr (by omega)) (s:=s) (λc hc=> .inl hc) c h
 rcases this with q|q
 ·exact q
 ·exact absurd q hp
theorem Ol(hs:qo g s)(ht:qo g t)(e:aV g s=aV g t):s=t:=by
 have zero:∀c∈dO g,c%16=0:= λc hc=>by
  have e:c=hX (fF g) 0:=by simpa[dO]using hc
  rw[e];unfold hX;omega
 have Ye:∀{u:List Nat},ZS g u->aV g (dO g)=aV g u->False:= λ{u} hu e=>by
  cases ma:u with
  |nil=>exact hu.ne ma|cons c r=>
   have hc:c∈u:=by rw[ma];exact aC ..
   have h1:c∈aV g (dO g):=by rw[e];exact uG hc
   exact hu.pl c hc (zero c (mD h1 (hu.pl c hc)))
 rcases hs with rfl|hs
 ·rcases ht with rfl|ht
  ·rfl
  ·exact(Ye ht e).elim
 ·rcases ht with rfl|ht
  ·exact(Ye hs e.symm).elim
  ·refine wG hs.J9 ht.J9 λx=>⟨λhx=>?_,λhx=>?_⟩
   ·exact mD (by rw[<-e];exact uG hx) (hs.pl x hx)
   ·exact mD (by rw[e];exact uG hx) (ht.pl x hx)
theorem zy{g:aL}{s:List Nat}(hs:qo g s):∀{ks:List (List Nat)},(∀k∈ks,qo g k)->(ks.map (aV g)).findIdx? (λt=>t==aV g s)=ks.findIdx? (λt=>t==s)
 | [],_=>rfl|k::ks,h=>by
  rw[aS,mw,mw,zy hs (ks:=ks) λk hk=>h k (az _ hk)];have e:(aV g k==aV g s)=(k==s):=by rw[eu,beq_iff_eq,beq_iff_eq];exact⟨λe=>Ol (h k (aC ..)) hs e,λe=>by rw[e]⟩
  rw[e]
theorem Om(hs:qo g s)(h:∀k∈ks,qo g k):cj (ks.map (aV g)) (aV g s)=((cj ks s).1.map (aV g),(cj ks s).2):=by
 unfold cj;rw[zy hs h];cases ks.findIdx? (λt=>t==s)with|some i=>rfl|none=>simp
structure gH where
 kind:Nat
 over:Nat
 jT:List Nat
def mE(g:aL)(s:List Nat):List gH:=(bE g.nons).filterMap λb=>if(bh g s b).isEmpty then none else some ⟨0,b,bh g s b⟩
def mF(g:aL)(cl:List (Nat×Nat))(s:List Nat):List gH:=((bE cl.length).zip cl).filterMap λp=>if(di g s p.2).isEmpty then none else some ⟨1,p.1,di g s p.2⟩
def cP(g:aL)(cl:List (Nat×Nat))(s:List Nat):List gH:=mE g s++mF g cl s
def g2(a:List (List Nat)×List Move)(k:gH):List (List Nat)×List Move:=((cj a.1 k.jT).1,a.2++[{kind:=k.kind,over:=k.over,to:=(cj a.1 k.jT).2}])
def jA(g:aL)(cl:List (Nat×Nat))(ks:List (List Nat))(s:List Nat):List (List Nat)×List Move:=(cP g cl s).foldl g2 (ks,[])
theorem o3{α β γ:Type}(f:α->Option β)(h:γ->β->γ)(h':γ->α->γ)(e:∀a x,h' a x=match f x with|some y=>h a y|none=>a):∀(l:List α)(a:γ),l.foldl h' a=(l.filterMap f).foldl h a
 | [],a=>rfl|x::l,a=>by rw[dm,o3 f h h' e l,e,bI];cases f x<;>rfl
theorem tU(g:aL)(cl:List (Nat×Nat))(yt:List (List Nat))(s:List Nat):rm g cl yt s=(cP g cl s).foldl (λa k=>fG g k.kind k.over k.jT a) (yt,[]):=by
 unfold rm cP;rw[rc];have e1:=o3 (γ:=List (List Nat)×List Move) (λb=>if(bh g s b).isEmpty then none else some (gH.mk 0 b (bh g s b))) (λa k=>fG g k.kind k.over k.jT a)
  (λa b=>fG g 0 b (bh g s b) a) (λa x=>by
   by_cases q:(bh g s x).isEmpty=true
   ·simp only[q,if_true];unfold fG;rw[if_pos q]
   ·simp only[q];rfl) (bE g.nons) (yt,[])
 have e2:= λa=>o3 (γ:=List (List Nat)×List Move) (λp:Nat×(Nat×Nat)=>if(di g s p.2).isEmpty then none else some (gH.mk 1 p.1 (di g s p.2))) (λa k=>fG g k.kind k.over k.jT a)
  (λa p=>fG g 1 p.1 (di g s p.2) a) (λa x=>by
   by_cases q:(di g s x.2).isEmpty=true
   ·simp only[q,if_true];unfold fG;rw[if_pos q]
   ·simp only[q];rfl) ((bE cl.length).zip cl) a
 simp only;rw[e1,e2];rfl
theorem zA(G:Good g)(h:sX g s):∀k∈cP g cl s,ZS g k.jT:=by
 intro k hk;rcases bC.mp hk with hk|hk
 ·obtain⟨b,_,e⟩:=b3.mp hk;split at e
  ·cases e
  ·rename_i q;have e':=ax e;rw[<-e'];exact HL G h λz=>q (by rw[z];rfl)
 ·obtain⟨p,_,e⟩:=b3.mp hk;split at e
  ·cases e
  ·rename_i q;have e':=ax e;rw[<-e'];exact Dd G h λz=>q (by rw[z];rfl)
theorem Ks(h:∀k∈ks,qo g k)(hs:qo g s):∀k∈(cj ks s).1,qo g k:=by
 unfold cj;cases ks.findIdx? (λt=>t==s)with
 |some i=>exact h|none=>
  intro k hk;rcases bC.mp hk with q|q
  ·exact h k q
  ·have:k=s:=by simpa using q
   rw[this];exact hs
theorem VU{k:gH}(hk:ZS g k.jT)(h:∀k∈ks,qo g k)(mv:List Move):fG g k.kind k.over k.jT (ks.map (aV g),mv)=((g2 (ks,mv) k).1.map (aV g),(g2 (ks,mv) k).2):=by
 unfold fG g2;rw[if_neg (by intro q;exact hk.ne (List.isEmpty_iff.mp q))]
 simp only;rw[Om (.inr hk) h]
theorem Rc{g:aL}:∀{l:List gH}{ks:List (List Nat)}{mv:List Move},(∀k∈l,ZS g k.jT)->(∀k∈ks,qo g k)->l.foldl (λa k=>fG g k.kind k.over k.jT a) (ks.map (aV g),mv)=((l.foldl g2 (ks,mv)).1.map (aV g),(l.foldl g2 (ks,mv)).2)/\∀k∈(l.foldl g2 (ks,mv)).1,qo g k
 | [],ks,mv,_,h=>⟨rfl,h⟩|k::l,ks,mv,hl,h=>by rw[dm,dm,VU (hl k (aC ..)) h mv];exact Rc (l:=l) (λx hx=>hl x (az _ hx)) (Ks h (.inr (hl k (aC ..))))
theorem HM(G:Good g)(hs:sX g s)(h:∀k∈ks,qo g k):rm g cl (ks.map (aV g)) s=((jA g cl ks s).1.map (aV g),(jA g cl ks s).2)/\∀k∈(jA g cl ks s).1,qo g k:=by rw[tU];exact Rc (zA G hs) h
theorem zB(ks:List (List Nat))(s:List Nat):∃m,(cj ks s).1=ks++m/\m.length<=1:=by
 unfold cj;cases ks.findIdx? (λt=>t==s)with|some i=>exact⟨[],by simp,by simp⟩|none=>exact⟨[s],rfl,by simp⟩
theorem HN(g:aL)(kd ov:Nat)(s:List Nat)(a:List (List Nat)×List Move):∃m,(fG g kd ov s a).1=a.1++m:=by
 unfold fG;split
 ·exact⟨[],by simp⟩
 ·obtain⟨m,e,_⟩:=zB a.1 (aV g s);exact⟨m,e⟩
theorem nO:∀(l:List gH)(a:List (List Nat)×List Move),∃m,(l.foldl g2 a).1=a.1++m/\m.length<=l.length
 | [],a=>⟨[],by simp,by simp⟩|k::l,a=>by
  obtain⟨m,e,hm⟩:=nO l (g2 a k);obtain⟨m',e',HP⟩:=zB a.1 k.jT;refine⟨m'++m,?_,?_⟩
  ·rw[dm,e];show(cj a.1 k.jT).1++m=_;rw[e',fg]
  ·rw[aw,aZ];omega
theorem Af(g:aL)(cl:List (Nat×Nat))(yt:List (List Nat))(s:List Nat):∃m,(rm g cl yt s).1=yt++m:=by
 rw[tU];have:∀(l:List gH)(a:List (List Nat)×List Move),∃m,(l.foldl (λa k=>fG g k.kind k.over k.jT a) a).1=a.1++m:=by
  intro l;induction l with
  |nil=>intro a;exact⟨[],by simp⟩|cons k l ih=>intro a;obtain⟨m,e⟩:=ih (fG g k.kind k.over k.jT a);obtain⟨m',e'⟩:=HN g k.kind k.over k.jT a;exact⟨m'++m,by rw[dm,e,e',fg]⟩
 exact this _ _
theorem wO{g:aL}{cl:List (Nat×Nat)}:∀{k i:Nat}{yt:List (List Nat)}{rows t:Table},mT g cl k i yt rows=some t->rows.length=i->i<=yt.length->yt.length<=t.length
 |0,_,_,_,_,h,_,_=>by cases h|k+1,i,yt,rows,t,h,hr,hi=>by
  rw[mT]at h;cases e:yt[i]? with
  |none=>rw[e]at h;have h':=ax h;have:=iR.mp e;rw[<-h',hr];exact this|some s=>rw[e]at h;simp only at h;obtain⟨m,em⟩:=Af g cl yt s;have f8:=(ao.mp e).1;have:=wO h (by simp[hr]) (by rw[em,aw];omega);rw[em,aw]at this;omega
structure Blt(g:aL)(i:Nat)(ks:List (List Nat))(rows:Table):Prop where
 eq:mT g (ag g) (gB+2) 0 [aV g [hX (fF g) 0]] []=mT g (ag g) (gB+2-i) i (ks.map (aV g)) rows
 jT:∀k∈ks,qo g k
 fD:rows.length=i
 le:i<=ks.length
 De:i<=gB+1
theorem Oo(g:aL):Blt g 0 [dO g] []:=⟨rfl,λk hk=>by
 have e:k=dO g:=by simpa using hk
 exact .inl e,rfl,by simp,by simp⟩
theorem Rf(G:Good g){rows:Table}(B:Blt g i ks rows)(hk:ks[i]? =some k)(hs:ks.length<=gB):Blt g (i+1) (jA g (ag g) ks (aV g k)).1 (rows++[{items:=aV g k,moves:=(jA g (ag g) ks (aV g k)).2}]):=by
 have Fa:=aG hk;have f8:=(ao.mp hk).1;obtain⟨e1,e2⟩:=HM G (cl:=ag g) (ks:=ks) (s:=aV g k) (B.jT k Fa).ok.close B.jT;obtain⟨m,em,_⟩:=nO (cP g (ag g) (aV g k)) (ks,[]);refine⟨?_,e2,by simp[B.fD],by unfold jA;rw[em];simp only[aw];omega,by omega⟩;rw[B.eq];have ek:gB+2-i=(gB+2-(i+1))+1:=by omega
 rw[ek,mT,aM,hk];simp only[A3];rw[e1]
theorem Rg{rows:Table}(B:Blt g i ks rows)(h:ks.length=i)(hs:ks.length<=gB):gL g=some rows:=by
 unfold gL;rw[B.eq];have ek:gB+2-i=(gB+2-(i+1))+1:=by omega
 rw[ek,mT,aM,dy (by omega)];simp only[Option.map_none];rw[if_pos (by rw[B.fD];omega)]
theorem Rh{rows:Table}(B:Blt g i ks rows)(hs:gB<ks.length):gL g=none:=by
 unfold gL;rw[B.eq];cases e:mT g (ag g) (gB+2-i) i (ks.map (aV g)) rows with|none=>rfl|some t=>have:=wO e B.fD (by rw[aq];exact B.le);rw[aq]at this;simp only;rw[if_neg (by omega)]
def jZ(b:Bool)(cov:List Bool)(l:List mq):Bool:=l.all λy=>match y with| .range _ _=>b| .non k=>cov.getD k false
def gx(b:Bool)(st:List Bool×Bool)(r:eA):List Bool×Bool:=if st.1.getD r.lhs false=false/\jZ b st.1 r.rhs=true then(st.1.set r.lhs true,true)else st
def n9(cov:List Bool):Nat:=(cov.filter (λx=> !x)).length
theorem tV{l:List α}{x d:α}:(l.set i x).getD j d=if i=j/\j<l.length then x else l.getD j d:=by
 rw[aT,U8,aT];by_cases e:i=j
 ·subst e;by_cases h:i<l.length
  ·simp[h]
  ·simp[h]
 ·simp[e]
theorem vI{b:Bool}{cov:List Bool}{l:List mq}:jZ b cov l=true↔∀y∈l,pV b (λa=>cov.getD a false=true) y:=by
 unfold jZ;rw[ik];constructor
 ·intro h y hy;have q:=h y hy;cases y with|non k=>exact q|range lo hi=>exact q
 ·intro h y hy;have q:=h y hy;cases y with|non k=>exact q|range lo hi=>exact q
theorem Bj:∀{cov:List Bool}{i:Nat},cov.getD i false=false->i<cov.length->n9 (cov.set i true)+1=n9 cov
 | [],i,_,h=>by simp at h|x::l,0,h,_=>by have e:x=false:=h;subst e;simp[n9]|x::l,i+1,h,hl=>by have ih:=Bj (cov:=l) (i:=i) (by simpa using h) (by simpa using hl);unfold n9 at ih ⊢;rw[QT,eB,eB];cases x<;>simp at ih ⊢<;>omega
structure vh(n:Nat)(D:Nat->Prop)(cov:List Bool):Prop where
 fD:cov.length=n
 lZ:∀a,cov.getD a false=true->D a
section
variable{b:Bool}{n:Nat}{D:Nat->Prop}
theorem Bk{st:List Bool×Bool}(hD:(∀y∈r.rhs,pV b D y)->D r.lhs)(h:vh n D st.1):vh n D (gx b st r).1:=by
 unfold gx;split
 ·rename_i q;refine⟨by simp[h.fD],λa ha=>?_⟩;rw[tV]at ha;split at ha
  ·rename_i e;rw[<-e.1];exact hD λy hy=>rE h.lZ (vI.mp q.2 y hy)
  ·exact h.lZ a ha
 ·exact h
theorem vJ:∀{rs:List eA}{st:List Bool×Bool},(∀r∈rs,(∀y∈r.rhs,pV b D y)->D r.lhs)->vh n D st.1->vh n D (rs.foldl (gx b) st).1
 | [],st,_,h=>h|r::rs,st,hD,h=>vJ (rs:=rs) (λq hq=>hD q (az _ hq)) (Bk (hD r (aC ..)) h)
def wP(b:Bool)(rs:List eA)(cov:List Bool)(st:List Bool×Bool):Prop:=(st.2=false->st.1=cov/\∀r∈rs,jZ b cov r.rhs=true->cov.getD r.lhs false=true)/\(st.2=true->n9 st.1<n9 cov)/\n9 st.1<=n9 cov
theorem Fb{cov:List Bool}{st:List Bool×Bool}(hl:r.lhs<st.1.length)(h:wP b rs cov st):wP b (rs++[r]) cov (gx b st r):=by
 obtain⟨h1,h2,h3⟩:=h;unfold gx;split
 ·rename_i q;have e:=Bj q.1 hl;refine⟨λz=>(by cases z),λ_=>?_,?_⟩
  ·show n9 (st.1.set r.lhs true)<_;omega
  ·show n9 (st.1.set r.lhs true)<=_;omega
 ·rename_i q;refine⟨λz=>?_,h2,h3⟩;obtain⟨e,h1⟩:=h1 z;refine⟨e,λr' Bb hc=>?_⟩;rcases bC.mp Bb with m|m
  ·exact h1 r' m hc
  ·have:r'=r:=by simpa using m
   subst this;rw[e]at q;cases e2:cov.getD r'.lhs false with|true=>rfl|false=>exact absurd ⟨e2,hc⟩ q
theorem Df{cov:List Bool}:wP b [] cov (cov,false):=⟨λ_=>⟨rfl,λr h=>by simp at h⟩,λz=>(by cases z),aB _⟩
end
theorem My{b:Bool}{S:Nat->Prop}:pV b S (o1 g y)↔pV b S y:=by cases y<;>exact VG
theorem Bl{b:Bool}{S:Nat->Prop}{l:List mq}:(∀y∈l.map (o1 g),pV b S y)↔∀y∈l,pV b S y:=by
 constructor
 ·intro h y hy;exact My.mp (h (o1 g y) (aQ.mpr ⟨y,hy,rfl⟩))
 ·intro h y hy;obtain⟨z,hz,rfl⟩:=aQ.mp hy;exact My.mpr (h z hz)
def fc(g:aL):List eA:=g.rules.map (iz g)
theorem tW(g:aL)(b:Bool):∀r∈fc g,(∀y∈r.rhs,pV b (c9 g b) y)->c9 g b r.lhs:=by intro r hr h;obtain⟨q,hq,rfl⟩:=aQ.mp hr;exact oY g b q hq (Bl.mp h)
theorem Ri{b:Bool}{cov:List Bool}(ok:vh g.nons (c9 g b) cov)(h:∀r∈fc g,jZ b cov r.rhs=true->cov.getD r.lhs false=true)(a:Nat):cov.getD a false=true↔c9 g b a:=by
 constructor
 ·exact ok.lZ a
 ·intro q;refine q (λa=>cov.getD a false=true) λr hr hs=>?_;exact h (iz g r) (aQ.mpr ⟨r,hr,rfl⟩) (vI.mpr (Bl.mpr hs))
def vi(lo hi:Nat):Nat:=2^(hi+1)-2^lo
theorem Rj{lo hi:Nat}(h:lo<=hi):(vi lo hi).testBit c=jJ c lo hi:=by
 have e:vi lo hi=2^lo*(2^(hi+1-lo)-1):=by unfold vi;rw[Nat.mul_sub,<-Nat.pow_add,Nat.mul_one,show lo+(hi+1-lo)=hi+1 by omega]
 rw[e,Nat.testBit_two_pow_mul,Nat.testBit_two_pow_sub_one];unfold jJ;rw[eu,bg,bg];simp only[decide_eq_true_iff];omega
theorem VW{lo hi:Nat}(h:hi<W):vi lo hi<2^W:=by have h1:2^(hi+1)<=2^W:=oO (by decide) h;have h2:0<2^lo:=wm (by decide);have h3:0<2^(hi+1):=wm (by decide);unfold vi;omega
def ahead(first:List Nat)(hol:List Bool)(y:mq)(tail:Nat):Nat:=match y with
 | .range lo hi=>vi lo hi| .non k=>if hol.getD k false then first.getD k 0|||tail else first.getD k 0
def kG(first:List Nat)(hol:List Bool)(l:List mq)(tail:Nat):Nat:=l.foldr (ahead first hol) tail
def Bc(t:List Nat)(c a:Nat):Prop:=(t.getD a 0).testBit c=true
def Ho(hol:List Bool)(a:Nat):Prop:=hol.getD a false=true
def Rk:mq->Prop
 | .non _=>True| .range lo hi=>lo<=hi
theorem rL{first:List Nat}{hol:List Bool}{c:Nat}:∀{l:List mq}{tail:Nat},(∀y∈l,Rk y)->((kG first hol l tail).testBit c=true↔tO (Ho hol) (Bc first c) (l.map (dN (jJ c)))\/(zu (Ho hol) (l.map (dN (jJ c)))/\tail.testBit c=true))
 | [],tail,_=>by
  show tail.testBit c=true↔False\/(True/\_);constructor
  ·intro h;exact .inr ⟨trivial,h⟩
  ·rintro(h|⟨_,h⟩)
   ·exact h.elim
   ·exact h
 | .range lo hi::l,tail,h=>by
  show(vi lo hi).testBit c=true↔(jJ c lo hi=true)\/(False/\_);rw[Rj (h (.range lo hi) (aC ..))];constructor
  ·exact .inl
  ·rintro(q|⟨q,_⟩)
   ·exact q
   ·exact q.elim
 | .non k::l,tail,h=>by
  have ih:=rL (first:=first) (hol:=hol) (c:=c) (l:=l) (tail:=tail) (λy hy=>h y (az _ hy));show(if hol.getD k false then first.getD k 0|||kG first hol l tail else first.getD k 0).testBit c=true↔
   (Bc first c k\/(Ho hol k/\tO (Ho hol) (Bc first c) (l.map (dN (jJ c)))))\/((Ho hol k/\zu (Ho hol) (l.map (dN (jJ c))))/\tail.testBit c=true)
  by_cases hk:hol.getD k false=true
  ·rw[if_pos hk,qD,gj,ih];constructor
   ·rintro(q|q|⟨q,q'⟩)
    ·exact .inl (.inl q)
    ·exact .inl (.inr ⟨hk,q⟩)
    ·exact .inr ⟨⟨hk,q⟩,q'⟩
   ·rintro((q|⟨_,q⟩)|⟨⟨_,q⟩,q'⟩)
    ·exact .inl q
    ·exact .inr (.inl q)
    ·exact .inr (.inr ⟨q,q'⟩)
  ·rw[if_neg hk];constructor
   ·intro q;exact .inl (.inl q)
   ·rintro((q|⟨q,_⟩)|⟨⟨q,_⟩,_⟩)
    ·exact q
    ·exact absurd q hk
    ·exact absurd q hk
theorem uL{first:List Nat}{hol:List Bool}{W:Nat}(hf:∀a,first.getD a 0<2^W):∀{l:List mq}{tail:Nat},(∀lo hi,qi lo hi∈l->hi<W)->tail<2^W->kG first hol l tail<2^W
 | [],tail,_,h=>h| .range lo hi::l,tail,h,_=>VW (h lo hi (aC ..))| .non k::l,tail,h,ht=>by
  have ih:=uL (hol:=hol) hf (l:=l) (tail:=tail) (λlo hi q=>h lo hi (az _ q)) ht;show(if hol.getD k false then first.getD k 0|||kG first hol l tail else first.getD k 0)<2^W;split
  ·exact rn (hf k) ih
  ·exact hf k
def room(W:Nat)(t:List Nat):Nat:=(t.map λm=>2^W-m).sum
theorem Yf(h:m|||b≠m):m<m|||b:=by have:=Nat.left_le_or (n:=m) (m:=b);omega
theorem Bm{W:Nat}:∀{t:List Nat}{i x:Nat},i<t.length->t.getD i 0<x->x<2^W->room W (t.set i x)<room W t
 | [],i,x,h,_,_=>by simp at h|m::t,0,x,_,h,hx=>by have h':m<x:=h;simp only[room,List.set_cons_zero,aS,Hh];omega|m::t,i+1,x,hl,h,hx=>by have ih:=Bm (W:=W) (t:=t) (i:=i) (x:=x) (by simpa using hl) (by simpa using h) hx;simp only[room,QT,aS,Hh]at ih ⊢;omega
structure iG(n W:Nat)(S:Nat->Nat->Prop)(t:List Nat):Prop where
 fD:t.length=n
 lt:∀a,t.getD a 0<2^W
 lZ:∀c a,Bc t c a->S c a
theorem iG.set(h:iG n W S t)(hb:b<2^W)(hs:∀c,b.testBit c=true->S c i):iG n W S (t.set i (t.getD i 0|||b)):=by
 refine⟨by simp[h.fD],λa=>?_,λc a q=>?_⟩
 ·rw[tV];split
  ·exact rn (h.lt i) hb
  ·exact h.lt a
 ·unfold Bc at q;rw[tV]at q;split at q
  ·rename_i e;rw[qD,gj]at q;rw[<-e.1];rcases q with q|q
   ·exact h.lZ c i q
   ·exact hs c q
  ·exact h.lZ c a q
def nn(hol:List Bool)(st:List Nat×Bool)(r:eA):List Nat×Bool:=if st.1.getD r.lhs 0|||kG st.1 hol r.rhs 0=st.1.getD r.lhs 0 then st else(st.1.set r.lhs (st.1.getD r.lhs 0|||kG st.1 hol r.rhs 0),true)
structure Bn(W n:Nat)(r:eA):Prop where
 lhs:r.lhs<n
 ord:∀y∈r.rhs,Rk y
 Op:∀lo hi,qi lo hi∈r.rhs->hi<W
 Oh:∀k,jp k∈r.rhs->k<n
theorem Ec{st:List Nat×Bool}(R:Bn W n r)(hS:∀c,tO (Ho hol) (S c) (r.rhs.map (dN (jJ c)))->S c r.lhs)(h:iG n W S st.1):iG n W S (nn hol st r).1:=by
 unfold nn;split
 ·exact h
 ·refine h.set (uL h.lt R.Op (wm (by decide))) λc q=>?_;rcases(rL R.ord).mp q with q|⟨_,q⟩
  ·exact hS c (q.kg (h.lZ c))
  ·rw[X4]at q;cases q
def Bo(W:Nat)(hol:List Bool)(rs:List eA)(t:List Nat)(st:List Nat×Bool):Prop:=(st.2=false->st.1=t/\∀r∈rs,t.getD r.lhs 0|||kG t hol r.rhs 0=t.getD r.lhs 0)/\(st.2=true->room W st.1<room W t)/\room W st.1<=room W t
theorem Fc:Bo W hol [] t (t,false):=⟨λ_=>⟨rfl,λr h=>by simp at h⟩,λz=>(by cases z),aB _⟩
theorem HQ{st:List Nat×Bool}(R:Bn W n r)(ok:iG n W S st.1)(h:Bo W hol rs t st):Bo W hol (rs++[r]) t (nn hol st r):=by
 obtain⟨h1,h2,h3⟩:=h;unfold nn;split
 ·rename_i q;refine⟨λz=>?_,h2,h3⟩;obtain⟨e,h1⟩:=h1 z;refine⟨e,λr' Bb=>?_⟩;rcases bC.mp Bb with m|m
  ·exact h1 r' m
  ·have:r'=r:=by simpa using m
   subst this;rw[e]at q;exact q
 ·rename_i q;have e:=Bm (W:=W) (t:=st.1) (i:=r.lhs) (by rw[ok.fD];exact R.lhs) (Yf q) (rn (ok.lt _) (uL ok.lt R.Op (wm (by decide))));refine⟨λz=>(by cases z),λ_=>?_,?_⟩
  ·show room W (st.1.set _ _)<_;omega
  ·show room W (st.1.set _ _)<=_;omega
theorem VX(hR:∀r∈rs,Bn W n r)(ok:iG n W (λc=>rG (Ho hol) (jY (jJ c) rs)) t)(h:∀r∈rs,t.getD r.lhs 0|||kG t hol r.rhs 0=t.getD r.lhs 0)(c a:Nat):Bc t c a↔rG (Ho hol) (jY (jJ c) rs) a:=by
 constructor
 ·exact ok.lZ c a
 ·intro q;refine q (Bc t c) λr hr hs=>?_;obtain⟨r',Bb,rfl⟩:=iT.mp hr;have e:=h r' Bb;show(t.getD r'.lhs 0).testBit c=true;rw[<-e,qD,gj];exact .inr ((rL (hR r' Bb).ord).mpr (.inl hs))
structure Ag where
 cM:List Nat
 tail:Nat
 mG:Bool
def m4(first:List Nat)(hol:List Bool)(st:Ag)(y:mq):Ag:=match y with
 | .range lo hi=>{st with tail:=ahead first hol y st.tail}| .non k=>if st.cM.getD k 0|||st.tail=st.cM.getD k 0 then{st with tail:=ahead first hol y st.tail}
  else{cM:=st.cM.set k (st.cM.getD k 0|||st.tail),tail:=ahead first hol y st.tail,mG:=true}
def lu(first:List Nat)(hol:List Bool)(cM:List Nat)(r:eA):Ag:=r.rhs.reverse.foldl (m4 first hol) {cM:=cM,tail:=cM.getD r.lhs 0,mG:=false}
theorem Kt{st:Ag}:(m4 first hol st y).tail=ahead first hol y st.tail:=by
 unfold m4;cases y with|range lo hi=>rfl|non k=>simp only;split<;>rfl
theorem rM{N F:Nat->Prop}{O:Prop}{B:Nat}{l:List SS}:∀{pre:List SS},iY N F O B l->iY N F O B (pre++l)
 | [],h=>h| .Ra _::pre,h=>rM (pre:=pre) h| .non _::pre,h=> .inr (rM (pre:=pre) h)
structure Rl(n W:Nat)(first:List Nat)(hol:List Bool)(S:Nat->Nat->Prop)(tl:Nat)(t0:List Nat)(l:List mq)(st:Ag):Prop where
 ok:iG n W S st.cM
 tail:st.tail=kG first hol l tl
 Yg:st.mG=true->room W st.cM<room W t0
 fle:room W st.cM<=room W t0
 feq:st.mG=false->st.cM=t0/\∀c B,iY (Ho hol) (Bc first c) (tl.testBit c=true) B (l.map (dN (jJ c)))->Bc t0 c B
theorem Ku{tl:Nat}{t0:List Nat}{l:List mq}{st:Ag}(hf:∀a,first.getD a 0<2^W)(ZT:tl<2^W)(ho:∀z∈y::l,Rk z)(hw:∀lo hi,qi lo hi∈y::l->hi<W)(hk:∀k,y= .non k->k<n)(hS:∀c B,iY (Ho hol) (Bc first c) (tl.testBit c=true) B ((y::l).map (dN (jJ c)))->S c B)(h:Rl n W first hol S tl t0 l st):Rl n W first hol S tl t0 (y::l) (m4 first hol st y):=by
 have Bp:(m4 first hol st y).tail=kG first hol (y::l) tl:=by rw[Kt,h.tail];rfl
 have ajQ:∀z∈l,Rk z:= λz hz=>ho z (az _ hz);have hb:st.tail<2^W:=by rw[h.tail];exact uL hf (λlo hi q=>hw lo hi (az _ q)) ZT
 cases y with
 |range lo hi=>refine⟨h.ok,Bp,h.Yg,h.fle,λz=>?_⟩;obtain⟨e,q⟩:=h.feq z;exact⟨e,λc B a=>q c B a⟩
 |non k=>
  unfold m4 at Bp ⊢;simp only at Bp ⊢;have kn:=hk k rfl;have tb:∀c,st.tail.testBit c=true↔tO (Ho hol) (Bc first c) (l.map (dN (jJ c)))\/(zu (Ho hol) (l.map (dN (jJ c)))/\tl.testBit c=true):= λc=>by rw[h.tail];exact rL ajQ
  split
  ·rename_i q;rw[if_pos q]at Bp;refine⟨h.ok,Bp,h.Yg,h.fle,λz=>?_⟩;obtain⟨e,p⟩:=h.feq z;refine⟨e,λc B a=>?_⟩;rcases a with⟨rfl,a⟩|a
   ·have e2:st.cM.getD k 0|||st.tail=st.cM.getD k 0:=q
    rw[e]at e2;show(t0.getD k 0).testBit c=true;rw[<-e2,qD,gj];exact .inr ((tb c).mpr a)
   ·exact p c B a
  ·rename_i q;rw[if_neg q]at Bp;have e:=Bm (W:=W) (t:=st.cM) (i:=k) (by rw[h.ok.fD];exact kn) (Yf q) (rn (h.ok.lt k) hb);have f:=h.fle;refine⟨h.ok.set hb λc z=>hS c k (.inl ⟨rfl,(tb c).mp z⟩),Bp,λ_=>?_,?_,λz=>by cases z⟩
   ·show room W (st.cM.set _ _)<_;omega
   ·show room W (st.cM.set _ _)<=_;omega
theorem vK{n W:Nat}{first:List Nat}{hol:List Bool}{S:Nat->Nat->Prop}{t0:List Nat}{r:eA}(R:Bn W n r)(hf:∀a,first.getD a 0<2^W)(ok:iG n W S t0)(hS:∀c B,iY (Ho hol) (Bc first c) (S c r.lhs) B (r.rhs.map (dN (jJ c)))->S c B):∀(pre l:List mq),r.rhs=pre++l->Rl n W first hol S (t0.getD r.lhs 0) t0 l (l.reverse.foldl (m4 first hol) {cM:=t0,tail:=t0.getD r.lhs 0,mG:=false})
 |pre,[],_=>⟨ok,rfl,λz=>(by cases z),aB _,λ_=>⟨rfl,λc B a=>a.elim⟩⟩|pre,y::l,e=>by
  have ih:=vK R hf ok hS (pre++[y]) l (by rw[e];simp);rw[iZ,rc];have mem:∀z∈y::l,z∈r.rhs:= λz hz=>by rw[e];exact cG _ hz
  refine Ku hf (ok.lt _) (λz hz=>R.ord z (mem z hz)) (λlo hi q=>R.Op lo hi (mem _ q)) (λk q=>R.Oh k (mem _ (by rw[q];exact aC ..))) (λc B a=>?_) ih;refine hS c B ?_;rw[e,aK];exact rM (a.kg λo=>ok.lZ c _ o)
def Bq(W:Nat)(first:List Nat)(hol:List Bool)(rs:List eA)(t:List Nat)(st:List Nat×Bool):Prop:=(st.2=false->st.1=t/\∀r∈rs,∀c B,iY (Ho hol) (Bc first c) (Bc t c r.lhs) B (r.rhs.map (dN (jJ c)))->Bc t c B)/\(st.2=true->room W st.1<room W t)/\room W st.1<=room W t
theorem Fd:Bq W first hol [] t (t,false):=⟨λ_=>⟨rfl,λr h=>by simp at h⟩,λz=>(by cases z),aB _⟩
def n_(first:List Nat)(hol:List Bool)(st:List Nat×Bool)(r:eA):List Nat×Bool:=((lu first hol st.1 r).cM,st.2||(lu first hol st.1 r).mG)
theorem Ed{st:List Nat×Bool}(R:Bn W n r)(hf:∀a,first.getD a 0<2^W)(hS:∀c B,iY (Ho hol) (Bc first c) (S c r.lhs) B (r.rhs.map (dN (jJ c)))->S c B)(h:iG n W S st.1):iG n W S (n_ first hol st r).1:=(vK R hf h hS [] r.rhs rfl).ok
theorem HR{st:List Nat×Bool}(R:Bn W n r)(hf:∀a,first.getD a 0<2^W)(ok:iG n W S st.1)(hS:∀c B,iY (Ho hol) (Bc first c) (S c r.lhs) B (r.rhs.map (dN (jJ c)))->S c B)(h:Bq W first hol rs t st):Bq W first hol (rs++[r]) t (n_ first hol st r):=by
 obtain⟨h1,h2,h3⟩:=h;have I:=vK R hf ok hS [] r.rhs rfl;unfold n_;cases hg:(lu first hol st.1 r).mG with
 |true=>
  have q:=I.Yg hg;refine⟨λz=>(by simp at z),λ_=>?_,?_⟩
  ·show room W (lu first hol st.1 r).cM<_;have:room W (lu first hol st.1 r).cM<room W st.1:=q;omega
  ·show room W (lu first hol st.1 r).cM<=_;have:room W (lu first hol st.1 r).cM<room W st.1:=q;omega
 |false=>
  obtain⟨e,p⟩:=I.feq hg;have e':(lu first hol st.1 r).cM=st.1:=e;rw[e',ac1];refine⟨λz=>?_,h2,h3⟩;obtain⟨e1,h1⟩:=h1 z;refine⟨e1,λr' Bb c B a=>?_⟩;rcases bC.mp Bb with m|m
  ·exact h1 r' m c B a
  ·have:r'=r:=by simpa using m
   subst this;have:=p c B (by rw[e1];exact a);rw[e1]at this;exact this
theorem VY{yn:Nat->Prop}(ok:iG n W (λc=>uJ (Ho hol) (Bc first c) (yn c) (jY (jJ c) rs)) t)(h0:∀c,yn c->Bc t c 0)(h:∀r∈rs,∀c B,iY (Ho hol) (Bc first c) (Bc t c r.lhs) B (r.rhs.map (dN (jJ c)))->Bc t c B)(c a:Nat):Bc t c a↔uJ (Ho hol) (Bc first c) (yn c) (jY (jJ c) rs) a:=by
 constructor
 ·exact ok.lZ c a
 ·intro q;refine q (Bc t c) ⟨h0 c,λr hr B hs=>?_⟩;obtain⟨r',Bb,rfl⟩:=iT.mp hr;exact h r' Bb c B hs
def yu(f:Nat×Nat->Bool)(rs:List (Nat×Nat)):Int:=((rs.filter f).length:Int)
def Dg(rs:List (Nat×Nat))(k:Nat):Int:=yu (λp=>p.1==k) rs-yu (λp=>p.2+1==k) rs
def i7(rs:List (Nat×Nat))(a:Nat):Int:=yu (λp=>decide (p.1<=a)) rs-yu (λp=>decide (p.2+1<=a)) rs
theorem oQ(f:Nat×Nat->Bool)(p:Nat×Nat)(rs:List (Nat×Nat)):yu f (p::rs)=(if f p then 1 else 0)+yu f rs:=by
 unfold yu;rw[eB];split
 ·rw[aZ];omega
 ·omega
theorem zC(f:Nat×Nat->Bool)(a b:List (Nat×Nat)):yu f (a++b)=yu f a+yu f b:=by unfold yu;rw[eU,aw];omega
theorem Rm(rs:List (Nat×Nat))(p:Nat×Nat)(k:Nat):Dg (rs++[p]) k=Dg rs k+(if p.1=k then 1 else 0)-(if p.2+1=k then 1 else 0):=by
 unfold Dg;rw[zC,zC,oQ,oQ];have e1:(if(p.1==k)=true then(1:Int)else 0)=if p.1=k then 1 else 0:=by simp
 have e2:(if(p.2+1==k)=true then(1:Int)else 0)=if p.2+1=k then 1 else 0:=by simp
 rw[e1,e2];have e3:∀f,yu f []=0:= λf=>rfl;rw[e3,e3];omega
theorem Ee:∀{rs:List (Nat×Nat)}{a:Nat},(∀p∈rs,p.1<=p.2)->0<=i7 rs a/\(0<i7 rs a↔∃p∈rs,p.1<=a/\a<=p.2)
 | [],a,_=>by have e:i7 [] a=0:=rfl;rw[e];exact⟨Int.le_refl _,⟨λh=>absurd h (by omega),λ⟨p,hp,_⟩=>by simp at hp⟩⟩|p::rs,a,h=>by
  obtain⟨h1,h2⟩:=Ee (rs:=rs) (a:=a) λq hq=>h q (az _ hq);have hp:=h p (aC ..);have e:i7 (p::rs) a=(if p.1<=a/\a<=p.2 then 1 else 0)+i7 rs a:=by unfold i7;rw[oQ,oQ];simp only[decide_eq_true_iff];split<;>split<;>split<;>omega
  rw[e];constructor
  ·split<;>omega
  ·constructor
   ·intro q;by_cases c:p.1<=a/\a<=p.2
    ·exact⟨p,aC ..,c⟩
    ·rw[if_neg c]at q;obtain⟨r,hr,c⟩:=h2.mp (by omega);exact⟨r,az _ hr,c⟩
   ·rintro⟨r,hr,c⟩;rcases aU.mp hr with z|z
    ·subst z;rw[if_pos c];omega
    ·have:=h2.mpr ⟨r,z,c⟩;split<;>omega
theorem Br:∀{rs:List (Nat×Nat)}{a b:Nat},a<b->(∀p∈rs,(p.1<=a\/b<=p.1)/\(p.2+1<=a\/b<=p.2+1))->i7 rs b=i7 rs a+Dg rs b
 | [],a,b,_,_=>rfl|p::rs,a,b,ZU,h=>by have ih:=Br (rs:=rs) ZU λq hq=>h q (az _ hq);obtain⟨h1,h2⟩:=h p (aC ..);unfold i7 Dg at ih ⊢;simp only[oQ,decide_eq_true_iff,beq_iff_eq];split<;>split<;>split<;>split<;>split<;>split<;>omega
theorem zE:∀{rs:List (Nat×Nat)}{b:Nat},(∀p∈rs,b<=p.1/\b<=p.2+1)->i7 rs b=Dg rs b
 | [],b,_=>rfl|p::rs,b,h=>by have ih:=zE (rs:=rs) λq hq=>h q (az _ hq);obtain⟨h1,h2⟩:=h p (aC ..);unfold i7 Dg at ih ⊢;simp only[oQ,decide_eq_true_iff,beq_iff_eq];split<;>split<;>split<;>split<;>omega
def pW(g:aL):Nat->Int
 |0=>0|i+1=>i7 (br g) ((bH g).getD i 0)
theorem Fe(h:(bH g)[i]? =some a):pW g (i+1)=pW g i+Dg (br g) a:=by
 have e:(bH g).getD i 0=a:=by rw[aT,h];rfl
 show i7 _ _=_;rw[e];cases i with
 |zero=>
  show _=(0:Int)+_;have:i7 (br g) a=Dg (br g) a:=zE λp hp=>by obtain⟨k,hk⟩:=fB.mp (Bg hp);obtain⟨k',rN⟩:=fB.mp (yp hp);exact⟨(Be (gG g) h hk).mpr (bj _),(Be (gG g) h rN).mpr (bj _)⟩
  omega
 |succ j=>
  have hj:j<(bH g).length:=pI (iu j) (ao.mp h).1;have hb:(bH g)[j]? =some (bH g)[j]:=ay hj;have e2:(bH g).getD j 0=(bH g)[j]:=by rw[aT,hb];rfl
  show _=i7 _ ((bH g).getD j 0)+_;rw[e2];exact Br (oC (gG g) hb h (by omega)) λp hp=>⟨kF (gG g) hb h (Bg hp),kF (gG g) hb h (yp hp)⟩
theorem zF(G:Good g)(h:(bH g)[i]? =some a)(h':(bH g)[i+1]? =some b):0<pW g (i+1)↔(br g).any (iq (a,b-1))=true:=by
 have e:(bH g).getD i 0=a:=by rw[aT,h];rfl
 show 0<i7 _ ((bH g).getD i 0)↔_;rw[e,(Ee λp hp=>(nL G hp).1).2,n6];constructor
 ·rintro⟨p,hp,h1,h2⟩;refine⟨p,hp,jn.mpr ⟨h1,?_⟩⟩;have:=kF (gG g) h h' (yp hp);simp only;omega
 ·rintro⟨p,hp,q⟩;have q':=jn.mp q;have:=oC (gG g) h h' (by omega);simp only at q';exact⟨p,hp,q'.1,by omega⟩
def kX(g:aL)(i:Nat):List (Nat×Nat):=((eR (bH g)).take i).filter λp=>(br g).any (iq p)
theorem Dh(g:aL)(h:(bH g).length-1<=i):kX g i=ag g:=by unfold kX ag;rw[e8 (by rw[oE];exact h)]
theorem Bs(G:Good g)(h:(bH g)[i]? =some a)(h':(bH g)[i+1]? =some b):kX g (i+1)=if 0<pW g (i+1)then kX g i++[(a,b-1)]else kX g i:=by
 have hp:(eR (bH g))[i]? =some (a,b-1):=nj.mpr ⟨a,b,h,h',rfl⟩;unfold kX;rw[bQ,hp,eU];by_cases q:0<pW g (i+1)
 ·rw[if_pos q];congr 1;show CN _ [(a,b-1)]=_;rw[eB,if_pos ((zF G h h').mp q)];rfl
 ·rw[if_neg q];have:CN (λp=>(br g).any (iq p)) [(a,b-1)]=[]:=by rw[eB,if_neg λz=>q ((zF G h h').mpr z)];rfl
  show _++CN _ [(a,b-1)]=_;rw[this,cz]
theorem eO(G:Good g):(bH g).length<=257/\(ag g).length<=256:=by
 have h1:(bH g).length<=257:=jz (gG g) λx hx=>by obtain⟨p,hp,e⟩:=tR.mp hx;have:=nL G hp;omega
 refine⟨h1,?_⟩;have h2:(ag g).length<=(eR (bH g)).length:=cp _ _;rw[oE]at h2;omega
theorem rO(G:Good g)(h:p∈ag g):p.1<=p.2/\p.2<256:=by refine⟨(f9 g).wM p h,?_⟩;obtain⟨i,a,b,h1,h2,rfl,q,hq,_,l⟩:=tS.mp h;have:=nL G hq;simp only;omega
structure Vn(g:aL)(k gq cQ fN:List Nat):Prop where
 sup:∀c∈k,c∈gq
 sub:∀c∈gq,c∈aV g k
 nd:gq.Nodup
 next:∀c∈gq,c∈fN\/∀b,bq g c=some (.non b)->b∈cQ
 fresh:∀b∈cQ,∀c∈cr g b,c∈gq
 Ff:∀c∈fN,c∈gq
 ZV:cQ.Nodup
 Ef:∀b∈cQ,b<g.nons
def putIn(l:List Nat)(c:Nat):List Nat:=if c∈l then l else l++[c]
theorem uM:x∈putIn l c↔x∈l\/x=c:=by
 unfold putIn;split
 ·rename_i h;constructor
  ·exact .inl
  ·rintro(q|q)
   ·exact q
   ·rw[q];exact h
 ·rw[bC];simp
theorem Bu(h:l.Nodup):(putIn l c).Nodup:=by
 unfold putIn;split
 ·exact h
 ·rename_i hc;rw[f_];exact⟨h,by simp,λx hx y hy e=>hc (by
   have:y=c:=by simpa using hy
   rw[<-this,<-e];exact hx)⟩
theorem gN{x:Nat}:∀{ds l:List Nat},x∈ds.foldl putIn l↔x∈l\/x∈ds
 | [],l=>by simp|d::ds,l=>by
  rw[dm,gN (ds:=ds),uM,aU];constructor
  ·rintro((q|q)|q)
   ·exact .inl q
   ·exact .inr (.inl q)
   ·exact .inr (.inr q)
  ·rintro(q|q|q)
   ·exact .inl (.inl q)
   ·exact .inl (.inr q)
   ·exact .inr q
theorem yw:∀{ds l:List Nat},l.Nodup->(ds.foldl putIn l).Nodup
 | [],l,h=>h|d::ds,l,h=>yw (ds:=ds) (Bu h)
theorem Oq:Vn g k (k.foldl putIn []) [] k:=by
 refine⟨λc hc=>gN.mpr (.inr hc),λc hc=>?_,yw jr,λc hc=>?_,λb hb=>by simp at hb,λc hc=>gN.mpr (.inr hc),jr,λb hb=>by simp at hb⟩
 ·rcases gN.mp hc with q|q
  ·simp at q
  ·exact uG q
 ·rcases gN.mp hc with q|q
  ·simp at q
  ·exact .inl q
theorem Rn{gq cQ fN:List Nat}(h:Vn g k gq cQ (fN++[c]))(q:∀b,bq g c=some (.non b)->b∈cQ):Vn g k gq cQ fN:=by
 refine⟨h.sup,h.sub,h.nd,λd hd=>?_,h.fresh,λd hd=>h.Ff d (dj _ hd),h.ZV,h.Ef⟩;rcases h.next d hd with z|z
 ·rcases bC.mp z with z|z
  ·exact .inl z
  ·have:d=c:=by simpa using z
   rw[this];exact .inr q
 ·exact .inr z
theorem Ot(G:Good g){gq cQ fN:List Nat}(h:Vn g k gq cQ (fN++[c]))(q:bq g c=some (.non b))(hb:b∉cQ):Vn g k ((cr g b).foldl putIn gq) (cQ++[b]) (fN++cr g b):=by
 have hc:c∈gq:=h.Ff c (cG _ (by simp));refine⟨λd hd=>gN.mpr (.inl (h.sup d hd)),λd hd=>?_,yw h.nd,λd hd=>?_,λb' HS d hd=>?_,λd hd=>?_,?_,λb' HS=>?_⟩
 ·rcases gN.mp hd with z|z
  ·exact h.sub d z
  ·exact E3 G k c b (h.sub c hc) q d z
 ·rcases gN.mp hd with z|z
  ·rcases h.next d z with y|y
   ·rcases bC.mp y with y|y
    ·exact .inl (dj _ y)
    ·have:d=c:=by simpa using y
     subst this;refine .inr λb' e=>?_;rw[q]at e;cases e;exact cG _ (by simp)
   ·exact .inr λb' e=>dj _ (y b' e)
  ·exact .inl (cG _ z)
 ·rcases bC.mp HS with z|z
  ·exact gN.mpr (.inl (h.fresh b' z d hd))
  ·have:b'=b:=by simpa using z
   rw[this]at hd;exact gN.mpr (.inr hd)
 ·rcases bC.mp hd with z|z
  ·exact gN.mpr (.inl (h.Ff d (dj _ z)))
  ·exact gN.mpr (.inr z)
 ·rw[f_];exact⟨h.ZV,by simp,λx hx y hy e=>hb (by
   have:y=b:=by simpa using hy
   rw[<-this,<-e];exact hx)⟩
 ·rcases bC.mp HS with z|z
  ·exact h.Ef b' z
  ·have:b'=b:=by simpa using z
   rw[this];exact ng G q
theorem o4:∀{l:List Nat}{n:Nat},l.Nodup->(∀x∈l,x<n)->l.length<=n:=by
 intro l n h hb;have key:∀(n:Nat)(l:List Nat),l.Nodup->(∀x∈l,x<n)->l.length<=n:=by
  intro n;induction n with
  |zero=>
   intro l _ hb;cases l with|nil=>simp|cons a l=>exact absurd (hb a (aC ..)) (Zz _)
  |succ n ih=>
   intro l h hb;have h1:=ih (l.erase n) (h.erase n) λx hx=>by
    have:=hb x (List.mem_of_mem_erase hx);have j8:x≠n:= λe=>by rw[e]at hx;exact(List.Nodup.not_mem_erase h) hx
    omega
   rw[List.length_erase]at h1;split at h1<;>omega
 exact key n l h hb
theorem VZ{gq cQ fN:List Nat}(h:Vn g k gq cQ fN):cQ.length<=g.nons:=o4 h.ZV h.Ef
theorem Ou(G:Good g)(b:Nat):(cr g b).length<=60:=by unfold cr;refine aW (bL _ _) ?_;unfold tE;rw[CZ,fh];have:=G.fD;omega
theorem Ro{gq cQ:List Nat}(h:Vn g k gq cQ []):∀x,x∈gq↔x∈aV g k:=by
 intro x;refine⟨h.sub x,tM (S:=(· ∈gq)) (λc b hc e d hd=>?_) h.sup x⟩;rcases h.next c hc with z|z
 ·simp at z
 ·exact h.fresh b (z b e) d hd
theorem Rp(G:Good g){gq cQ fN:List Nat}(hk:∀c∈k,lK g c)(h:Vn g k gq cQ fN):gq.length<=976:=o4 h.nd λc hc=>oF G (rK hk c (h.sub c hc))
theorem mH{α β:Type}{f:α->Option β}:∀{l:List α},(∀x∈l,f x=none)->l.filterMap f=[]
 | [],_=>rfl|x::l,h=>by rw[bI,h x (aC ..)];exact mH λy hy=>h y (az _ hy)
theorem Ov{f:Nat->Option β}(h:a+m<=n)(h0:∀c,c<n->(c<a\/a+m<=c)->f c=none):(bE n).filterMap f=(d4 a m).filterMap f:=by
 have e:bE n=d4 0 a++(d4 a m++d4 (a+m) (n-(a+m))):=by
  rw[vC];have e1:d4 a m++d4 (a+m) (n-(a+m))=d4 a (n-a):=by rw[show n-a=m+(n-(a+m)) by omega,<-N_]
  rw[e1];have e2:=N_ (s:=0) (m:=a) (n:=n-a);rw[pJ,show a+(n-a)=n by omega]at e2;exact e2.symm
 rw[e,gw,gw];rw[mH (l:=d4 0 a) λx hx=>h0 x (by have:=m6.mp hx;omega) (.inl (by have:=m6.mp hx;omega))];rw[mH (l:=d4 (a+m) (n-(a+m))) λx hx=>h0 x (by have:=m6.mp hx;omega) (.inr (by have:=m6.mp hx;omega))];simp
theorem uN(n:Nat):pq (bE n):=List.pairwise_lt_range
def lB(g:aL)(s:List Nat):List Nat:=(bE g.nons).filter λb=> !(bh g s b).isEmpty
theorem wQ(G:Good g):b∈lB g s↔bh g s b≠[]:=by
 unfold lB;rw[dE,eV];constructor
 ·rintro⟨_,h⟩ e;rw[e]at h;cases h
 ·intro h;refine⟨?_,by
   cases e:bh g s b with
   |nil=>exact absurd e h|cons x l=>rfl⟩
  cases e:bh g s b with
  |nil=>exact absurd e h|cons x l=>
   have hx:x∈bh g s b:=by rw[e];exact aC ..
   obtain⟨c,_,q,_⟩:=nN.mp hx;exact ng G q
theorem wR(g:aL)(s:List Nat):pq (lB g s):=(uN g.nons).filter _
theorem Fg(g:aL)(s:List Nat):mE g s=(lB g s).map λb=>⟨0,b,bh g s b⟩:=by
 unfold mE lB;generalize bE g.nons=l;induction l with
 |nil=>rfl|cons b l ih=>
  rw[bI,eB];by_cases h:(bh g s b).isEmpty=true
  ·rw[if_pos h,if_neg (by rw[h];decide)];exact ih
  ·rw[if_neg h,if_pos (by simpa using h)];simp only[aS];rw[ih]
theorem rP(g:aL)(s:List Nat)(c b:Nat):(bq g c=some (.non b)->bh g (s++[c]) b=bh g s b++[c+1])/\(¬bq g c=some (.non b)->bh g (s++[c]) b=bh g s b):=by
 have e:bh g (s++[c]) b=bh g s b++bh g [c] b:=by unfold bh;rw[gw]
 rw[e];constructor
 ·intro h;congr 1;unfold bh;simp[h]
 ·intro h;have:bh g [c] b=[]:=by
   unfold bh;rw[bI];cases e:bq g c with
   |none=>rfl|some y=>
    cases y with
    |range lo hi=>rfl|non k=>have hk:¬k=b:= λz=>h (by rw[e,z]);simp[hk]
  rw[this,cz]
structure Fh where
 lo:Nat
 hi:Nat
 to:Nat
def lv(g:aL)(c:Nat):Option Fh:=match bq g c with|some (.range lo hi)=>some ⟨pD g lo,pE g hi,c+1⟩|_=>none
def dS(g:aL)(s:List Nat):List Fh:=s.filterMap (lv g)
def vL(g:aL)(s:List Nat)(n:Nat):List Nat:=((dS g s).filter λp=>decide (p.lo<=n)&&decide (n<=p.hi)).map (·.to)
theorem Bv{lo hi:Nat}(h:bq g c=some (.range lo hi)):(lo,hi)∈br g:=by
 unfold bq at h;have hm:=aG h;unfold aO at hm;split at hm
 ·have e:qi lo hi= .non 0:=by simpa using hm
  cases e
 ·rw[aT]at hm;cases e:g.rules[c/16]? with|none=>rw[e]at hm;simp at hm|some r=>rw[e]at hm;exact iF.mpr ⟨r,aG e,hm⟩
theorem Mz{g:aL}(G:Good g){n:Nat}{p:Nat×Nat}(hp:(ag g)[n]? =some p):∀(s:List Nat),di g s p=vL g s n
 | []=>rfl|c::s=>by
  have ih:=Mz G hp s;unfold di at ih ⊢;unfold vL dS at ih ⊢;rw[bI,bI];cases e:bq g c with
  |none=>
   have e2:lv g c=none:=by unfold lv;rw[e]
   rw[e2];exact ih
  |some y=>
   cases y with
   |non k=>
    have e2:lv g c=none:=by unfold lv;rw[e]
    rw[e2];exact ih
   |range lo hi=>
    have e2:lv g c=some ⟨pD g lo,pE g hi,c+1⟩:=by unfold lv;rw[e]
    rw[e2];simp only;have q:=sL G hp (Bv e);rw[eB];by_cases h:iq p (lo,hi)=true
    ·rw[if_pos h,if_pos (by rw[bg,decide_eq_true_iff,decide_eq_true_iff];exact q.mp h)]
     simp only[aS];rw[ih]
    ·rw[if_neg h,if_neg (by rw[bg,decide_eq_true_iff,decide_eq_true_iff];intro z;exact h (q.mpr z))]
     exact ih
def o5(g:aL)(s:List Nat)(n:Nat):Option gH:=if(vL g s n).isEmpty then none else some ⟨1,n,vL g s n⟩
theorem mI(G:Good g)(s:List Nat):mF g (ag g) s=(bE (ag g).length).filterMap (o5 g s):=by
 unfold mF;have key:∀(l:List Nat)(m:List (Nat×Nat)),l.length=m.length->(∀(i n:Nat)(p:Nat×Nat),l[i]? =some n->m[i]? =some p->(ag g)[n]? =some p)->
  (l.zip m).filterMap (λp=>if(di g s p.2).isEmpty then none else some (gH.mk 1 p.1 (di g s p.2)))=l.filterMap (o5 g s):=by
  intro l;induction l with
  |nil=>intro m _ _;rfl|cons n l ih=>
   intro m hl hm;cases m with|nil=>simp at hl|cons p m=>rw[mx,bI,bI,ih m (by simpa using hl) λi n' p' h1 h2=>hm (i+1) n' p' (by simpa using h1) (by simpa using h2)];have e:=Mz G (hm 0 n p rfl rfl) s;simp only;unfold o5;rw[e]
 refine key _ _ (by simp) λi n p h1 h2=>?_;have hi:i<(ag g).length:=(ao.mp h2).1;rw[g_ hi]at h1;cases h1;exact h2
theorem wS(G:Good g)(s:List Nat)(dX:a+m<=(ag g).length)(h:∀p∈dS g s,a<=p.lo/\p.hi<a+m):mF g (ag g) s=(d4 a m).filterMap (o5 g s):=by
 rw[mI G];refine Ov dX λc _ hc=>?_;unfold o5;have e:vL g s c=[]:=by unfold vL;rw[jh,m7];intro p hp q;rw[bg,decide_eq_true_iff,decide_eq_true_iff]at q;have:=h p hp;omega
 rw[e];rfl
theorem HU(G:Good g){p:Fh}(h:p∈dS g s):p.lo<=p.hi/\p.hi<(ag g).length:=by
 obtain⟨c,_,e⟩:=b3.mp h;unfold lv at e;split at e
 ·rename_i lo hi q;have e':=ax e;rw[<-e'];exact Mx G (Bv q)
 ·cases e
theorem Di(G:Good g)(s:List Nat)(h:dS g s=[]):mF g (ag g) s=[]:=by rw[wS G s (a:=0) (m:=0) (bj _) λp hp=>by rw[h]at hp;simp at hp];rfl
theorem pX(G:Good g)(s:List Nat):(cP g (ag g) s).length<=276:=by unfold cP mE;rw[mI G,aw];have h1:(ZA (λb=>if(bh g s b).isEmpty then none else some (gH.mk 0 b (bh g s b))) (bE g.nons)).length<=g.nons:=aW (bL _ _) (by simp);have h2:(ZA (o5 g s) (bE (ag g).length)).length<=(ag g).length:=aW (bL _ _) (by simp);have:=(eO G).2;have:=G.tJ;omega
def eL(g:aL)(s:List Nat):List Nat:=(s.filter λc=>match bq g c with
 |some _=>false|none=>true).map λc=>c/16
theorem o6{t:cK}{r:C0}(h:t[i]? =some r):cA g t i=eL g r.items:=by unfold cA cD eL;rw[h];rfl
def jK(n:Nat)(x:List Nat):Option mq:=match x with|0::a::_=>if a<n then some (.non a)else none|1::lo::hi::_=>if lo<=hi/\hi<256 then some (.range lo hi)else none|_=>none
def lM:mq->Nat
 | .non _=>2| .range _ _=>3
theorem Eg{x:List Nat}(h:jK n x=some y):lM y<=x.length:=by
 unfold jK at h;split at h
 ·split at h
  ·cases h;simp[lM]
  ·cases h
 ·split at h
  ·cases h;simp[lM]
  ·cases h
 ·cases h
theorem qp(n k:Nat)(x:List Nat):bm n (k+1) x=match jK n x with
 |none=>none|some y=>(bm n k (x.drop (lM y))).map λz=>(y::z.1,z.2):=by
 match x with
 | []=>simp[bm,jK]| [a]=>
  match a with|0=>simp[bm,jK]|1=>simp[bm,jK]|a+2=>simp[bm,jK]
 |0::a::r=>
  simp only[bm,jK];by_cases h:a<n
  ·rw[if_pos h,if_pos h];rfl
  ·rw[if_neg h,if_neg h]
 | [1,b]=>simp[bm,jK]|1::lo::hi::r=>
  simp only[bm,jK];by_cases h:lo<=hi
  ·by_cases h':hi<256
   ·rw[if_pos h,if_pos h',if_pos ⟨h,h'⟩];rfl
   ·rw[if_pos h,if_neg h',if_neg λz=>h' z.2]
  ·rw[if_neg h,if_neg λz=>h z.1]
 |(a+2)::b::r=>simp[bm,jK]
def eD(l:List mq):Nat:=(l.map lM).sum
structure RdS(n m:Nat)(x:List Nat)(done:List mq):Prop where
 le:done.length<=m
 fD:eD done<=x.length
 eq:bm n m x=(bm n (m-done.length) (x.drop (eD done))).map λz=>(done++z.1,z.2)
theorem Ow(n m:Nat)(x:List Nat):RdS n m x []:=⟨bj _,bj _,by show _=sR (λz=>([]++z.1,z.2)) (bm n (m-0) (x.drop 0));rw[pK,qj];cases bm n m x<;>rfl⟩
theorem rQ(l:List mq)(y:mq):eD (l++[y])=eD l+lM y:=by simp[eD,X5]
theorem Rq{x:List Nat}{done:List mq}(h:RdS n m x done)(hl:done.length<m)(hy:jK n (x.drop (eD done))=some y):RdS n m x (done++[y]):=by
 have e:m-done.length=(m-(done++[y]).length)+1:=by rw[aw,bp];omega
 have q:=Eg hy;rw[eC]at q;have:=h.fD;refine⟨by rw[aw,bp];omega,by rw[rQ];omega,?_⟩;rw[h.eq,e,qp,hy];simp only;rw[js,<-rQ];cases bm n (m-(done++[y]).length) (x.drop (eD (done++[y])))with|none=>rfl|some z=>simp
theorem Rr{x:List Nat}{done:List mq}(h:RdS n m x done)(hl:done.length<m)(hy:jK n (x.drop (eD done))=none):bm n m x=none:=by
 have e:m-done.length=(m-done.length-1)+1:=by omega
 rw[h.eq,e,qp,hy];rfl
theorem Rs{x:List Nat}{done:List mq}(h:RdS n m x done)(hl:done.length=m):bm n m x=some (done,x.drop (eD done)):=by rw[h.eq,hl,lG];simp[bm]
def mJ(n:Nat)(x:List Nat):Option eA:=match x with|a::m::r=>if a<n/\m<=8 then(bm n m r).map (λy=>{lhs:=a,rhs:=y.1})else none|_=>none
def told(r:eA):Nat:=2+eD r.rhs
theorem qr{n:Nat}:∀{m:Nat}{x:List Nat}{y:List mq×List Nat},bm n m x=some y->y.2=x.drop (eD y.1)/\eD y.1<=x.length
 |0,x,y,h=>by have e:some (([]:List mq),x)=some y:=h;cases e;exact⟨by simp[eD],by simp[eD]⟩|m+1,x,y,h=>by
  rw[qp]at h;cases e:jK n x with
  |none=>rw[e]at h;cases h|some s=>
   rw[e]at h;simp only at h;cases e2:bm n m (x.drop (lM s))with
   |none=>rw[e2]at h;cases h|some z=>
    rw[e2]at h;have h':=ax h;subst h';obtain⟨q1,q2⟩:=qr e2;have q3:=Eg e;rw[js]at q1;rw[eC]at q2;have e3:eD (s::z.1)=lM s+eD z.1:=by simp[eD]
    exact⟨by rw[e3];exact q1,by rw[e3];omega⟩
theorem Kv{x:List Nat}(h:mJ n x=some r):told r<=x.length:=by
 unfold mJ at h;split at h
 ·split at h
  ·rename_i a m t _;cases e:bm n m t with|none=>rw[e]at h;cases h|some y=>rw[e]at h;have h':=ax h;subst h';have:=(qr e).2;show 2+eD y.1<=_;simp only[aZ];omega
  ·cases h
 ·cases h
theorem tX(n k:Nat)(x:List Nat):cC n (k+1) x=match mJ n x with
 |none=>none|some r=>(cC n k (x.drop (told r))).map λz=>(r::z.1,z.2):=by
 match x with
 | []=>simp[cC,mJ]| [a]=>simp[cC,mJ]|a::m::t=>
  simp only[cC,mJ];by_cases h:a<n
  ·by_cases h':m<=8
   ·rw[if_pos h,if_pos (show m<=ac2 from h'),if_pos ⟨h,h'⟩];cases e:bm n m t with
    |none=>rfl|some y=>
     simp only[A3];obtain⟨q,_⟩:=qr e;have:(a::m::t).drop (told {lhs:=a,rhs:=y.1})=y.2:=by rw[q];show(a::m::t).drop (2+eD y.1)=_;rw[AE];rfl
     rw[this]
   ·rw[if_pos h,if_neg (show¬m<=ac2 from h'),if_neg λz=>h' z.2]
  ·rw[if_neg h,if_neg λz=>h z.1]
def eE(l:List eA):Nat:=(l.map told).sum
structure RdR(n m:Nat)(x:List Nat)(done:List eA):Prop where
 le:done.length<=m
 fD:eE done<=x.length
 eq:cC n m x=(cC n (m-done.length) (x.drop (eE done))).map λz=>(done++z.1,z.2)
theorem Ox(n m:Nat)(x:List Nat):RdR n m x []:=⟨bj _,bj _,by show _=sR (λz=>([]++z.1,z.2)) (cC n (m-0) (x.drop 0));rw[pK,qj];cases cC n m x<;>rfl⟩
theorem qt(l:List eA)(y:eA):eE (l++[y])=eE l+told y:=by simp[eE,X5]
theorem Rt{x:List Nat}{done:List eA}{y:eA}(h:RdR n m x done)(hl:done.length<m)(hy:mJ n (x.drop (eE done))=some y):RdR n m x (done++[y]):=by
 have e:m-done.length=(m-(done++[y]).length)+1:=by rw[aw,bp];omega
 have q:=Kv hy;rw[eC]at q;have:=h.fD;refine⟨by rw[aw,bp];omega,by rw[qt];omega,?_⟩;rw[h.eq,e,tX,hy];simp only;rw[js,<-qt];cases cC n (m-(done++[y]).length) (x.drop (eE (done++[y])))with|none=>rfl|some z=>simp
theorem Ru{x:List Nat}{done:List eA}(h:RdR n m x done)(hl:done.length<m)(hy:mJ n (x.drop (eE done))=none):cC n m x=none:=by
 have e:m-done.length=(m-done.length-1)+1:=by omega
 rw[h.eq,e,tX,hy];rfl
theorem HV{x:List Nat}{done:List eA}(h:RdR n m x done)(hl:done.length=m):cC n m x=some (done,x.drop (eE done)):=by rw[h.eq,hl,lG];simp[cC]
theorem oe{r:List Nat}(h:1<=n/\n<=20/\m<=60):gu (n::m::r)=match cC n m r with
 |some (l,[])=>some {nons:=n,rules:=l}|_=>none:=by
 simp only[gu];rw[if_pos h.1,if_pos (show n<=ac3 from h.2.1),if_pos (show m<=ZB from h.2.2)];rfl
theorem Ah{r:List Nat}(h:¬(1<=n/\n<=20/\m<=60)):gu (n::m::r)=none:=by
 simp only[gu];by_cases h1:1<=n
 ·by_cases h2:n<=ac3
  ·by_cases h3:m<=ZB
   ·exact absurd ⟨h1,h2,h3⟩ h
   ·rw[if_pos h1,if_pos h2,if_neg h3]
  ·rw[if_pos h1,if_neg h2]
 ·rw[if_neg h1]
abbrev gs(g:aL):Nat:=(ag g).length
def ou(g:aL)(c a:Nat):Prop:=uJ (c9 g false) (rG (c9 g false) (jY (jJ c) ((bu g).map (iz g)))) (c=gs g/\0∈fu g) (jY (jJ c) ((cU g).map (iz g))) a
theorem Rv(G:Good g)(hb:b<257)(hs:∀r∈g.rules,∀y∈r.rhs,dN (kU b) y=dN (jJ c) (o1 g y))(hi:b=256↔c=gs g):Bt (bO g) b a↔ou g c a:=by rw[wN G hb];unfold ou;rw[Bh λr hr=>hs r ((e9 G).mp hr).1,Bh λr hr=>hs r ((iB G).mp hr).1,hi]
theorem Oy(G:Good g)(h:cf g b=some c):Bt (bO g) b a↔ou g c a:=by obtain⟨p,hp,h1,h2⟩:=nM.mp h;have hb:=(rO G (aG hp)).2;have hc:=(ao.mp hp).1;exact Rv G (by omega) (λr hr y hy=>HJ G hp h1 h2 hr hy) (by unfold gs;omega)
theorem V0(G:Good g):Bt (bO g) 256 a↔ou g (gs g) a:=Rv G (by omega) (λr hr y hy=>Kr G (aB _) (λq hq=>by have:=(nL G hq).2;omega) hr hy) (by simp)
theorem yx{N:Nat->Prop}{b:Nat}:∀{l:List mq},(∀lo hi,qi lo hi∈l->kU b lo hi=false)->¬tO N (λ_=>False) (l.map (dN (kU b)))
 | [],_,h=>h| .range lo hi::l,q,h=>by have:=q lo hi (aC ..);have h':kU b lo hi=true:=h;rw[this]at h';cases h'| .non k::l,q,h=>by
  rcases h with h|⟨_,h⟩
  ·exact h
  ·exact yx (l:=l) (λlo hi m=>q lo hi (az _ m)) h
theorem vM{N F:Nat->Prop}{B b:Nat}(hF:∀a,¬F a):∀{l:List mq},(∀lo hi,qi lo hi∈l->kU b lo hi=false)->¬iY N F False B (l.map (dN (kU b)))
 | [],_,h=>h| .range lo hi::l,q,h=>vM hF (l:=l) (λlo hi m=>q lo hi (az _ m)) h| .non k::l,q,h=>by
  rcases h with⟨_,h|⟨_,h⟩⟩|h
  ·exact yx (l:=l) (λlo hi m=>q lo hi (az _ m)) (h.kg λa ha=>hF a ha)
  ·exact h
  ·exact vM hF (l:=l) (λlo hi m=>q lo hi (az _ m)) h
theorem V1(G:Good g)(hb:b<256)(h:cf g b=none):¬Bt (bO g) b a:=by
 rw[wN G (by omega)];have no:∀r∈g.rules,∀lo hi,qi lo hi∈r.rhs->kU b lo hi=false:=by
  intro r hr lo hi hm;cases e:kU b lo hi with
  |false=>rfl|true=>unfold kU at e;rw[bg,decide_eq_true_iff,decide_eq_true_iff]at e;obtain⟨p,hp,h1,h2⟩:=yr (iF.mpr ⟨r,hr,hm⟩) e.1 e.2;obtain⟨c,hc⟩:=fS hp;rw[nM.mpr ⟨p,hc,h1,h2⟩]at h;cases h
 have hF:∀a,¬rG (c9 g false) (jY (kU b) (bu g)) a:=by intro a q;refine q (λ_=>False) λr hr z=>?_;obtain⟨r',Bb,rfl⟩:=iT.mp hr;exact yx (no r' ((e9 G).mp Bb).1) z
 intro q;refine q (λ_=>False) ⟨λz=>by omega,λr hr B z=>?_⟩;obtain⟨r',Bb,rfl⟩:=iT.mp hr;exact vM hF (no r' ((iB G).mp Bb).1) z
structure Bw(g:aL)(ks:List (List Nat))(s:List Nat)(mv:List Move):Prop where
 fD:mv.length=(cP g (ag g) s).length
 wM:∀(j:Nat)(m:Move)(k:gH),mv[j]? =some m->(cP g (ag g) s)[j]? =some k->m.kind=k.kind/\m.over=k.over/\ks[m.to]? =some k.jT
theorem Rw(ks:List (List Nat))(s:List Nat):(cj ks s).1[(cj ks s).2]? =some s:=by
 unfold cj;cases e:ks.findIdx? (λt=>t==s)with
 |some i=>obtain⟨h,q,_⟩:=iM.mp e;show ks[i]? =some s;rw[ay h,iL q]
 |none=>simp
theorem zG:∀(l:List gH)(ks:List (List Nat))(mv:List Move),∃mv',(l.foldl g2 (ks,mv)).2=mv++mv'/\mv'.length=l.length/\∀(j:Nat)(m:Move)(k:gH),mv'[j]? =some m->l[j]? =some k->m.kind=k.kind/\m.over=k.over/\(l.foldl g2 (ks,mv)).1[m.to]? =some k.jT
 | [],ks,mv=>⟨[],by simp,rfl,λj m k h=>by simp at h⟩|k::l,ks,mv=>by
  obtain⟨mv',e,hl,h⟩:=zG l (cj ks k.jT).1 (mv++[{kind:=k.kind,over:=k.over,to:=(cj ks k.jT).2}]);refine⟨{kind:=k.kind,over:=k.over,to:=(cj ks k.jT).2}::mv',?_,by simp[hl],?_⟩
  ·rw[dm];show(l.foldl g2 ((cj ks k.jT).1,mv++[_])).2=_;rw[e];simp
  ·intro j m k' hm hk
   match j with
   |0=>simp only[J2,Hi]at hm hk;subst hm hk;refine⟨rfl,rfl,?_⟩;obtain⟨z,ez,_⟩:=nO l ((cj ks k.jT).1,mv++[{kind:=k.kind,over:=k.over,to:=(cj ks k.jT).2}]);show(l.foldl g2 ((cj ks k.jT).1,_)).1[(cj ks k.jT).2]? =_;have ez':(l.foldl g2 ((cj ks k.jT).1,mv++[{kind:=k.kind,over:=k.over,to:=(cj ks k.jT).2}])).1=(cj ks k.jT).1++z:=ez;rw[ez'];have hp:=Rw ks k.jT;rw[cW (ao.mp hp).1,hp]
   |j+1=>simp only[gU]at hm hk;exact h j m k' hm hk
theorem Oz(g:aL)(ks:List (List Nat))(s:List Nat):Bw g (jA g (ag g) ks s).1 s (jA g (ag g) ks s).2:=by obtain⟨mv',e,hl,h⟩:=zG (cP g (ag g) s) ks [];unfold jA;rw[C1]at e;exact⟨by rw[e];exact hl,λj m k hm hk=>by rw[e]at hm;exact h j m k hm hk⟩
theorem Bw.ZR{QG:List (List Nat)}{mv:List Move}(h:Bw g ks s mv)(e:∃z,QG=ks++z):Bw g QG s mv:=by obtain⟨z,rfl⟩:=e;refine⟨h.fD,λj m k hm hk=>?_⟩;obtain⟨a,b,c⟩:=h.wM j m k hm hk;exact⟨a,b,by rw[cW (ao.mp c).1,c]⟩
structure Tb(g:aL)(ks:List (List Nat))(rows:Table):Prop where
 zero:ks[0]? =some (dO g)
 row:∀(i:Nat)(r:Row),rows[i]? =some r->∃k,ks[i]? =some k/\qo g k/\r.items=aV g k/\Bw g ks r.items r.moves
theorem Rx(g:aL):Tb g [dO g] []:=⟨rfl,λi r h=>by simp at h⟩
theorem Fi(g:aL)(cl:List (Nat×Nat))(ks:List (List Nat))(s:List Nat):∃z,(jA g cl ks s).1=ks++z:=by obtain⟨z,e,_⟩:=nO (cP g cl s) (ks,[]);exact⟨z,e⟩
theorem V2{rows:Table}(T:Tb g ks rows)(hk:ks[rows.length]? =some k)(hK:qo g k):Tb g (jA g (ag g) ks (aV g k)).1 (rows++[{items:=aV g k,moves:=(jA g (ag g) ks (aV g k)).2}]):=by
 obtain⟨z,ez⟩:=Fi g (ag g) ks (aV g k);have keep:∀{i:Nat}{q:List Nat},ks[i]? =some q->(jA g (ag g) ks (aV g k)).1[i]? =some q:= λh=>by rw[ez,cW (ao.mp h).1,h]
 refine⟨keep T.zero,λi r hr=>?_⟩;by_cases hi:i<rows.length
 ·rw[cW hi]at hr;obtain⟨q,h1,h2,h3,h4⟩:=T.row i r hr;exact⟨q,keep h1,h2,h3,h4.ZR ⟨z,ez⟩⟩
 ·have ZW:i=rows.length:=by have:=(ao.mp hr).1;rw[aw,bp]at this;omega
  subst ZW;rw[eW (aB _),lG]at hr;have e:=ax hr;subst e;exact⟨k,keep hk,hK,rfl,Oz g ks _⟩
end Mt
namespace Mt
open Vaglrc (Sym Rule Grammar)
open Vaglrd (Move Row Table Act)
variable{x n i b c a j W m:Nat}{l s t k first:List Nat}{y:mq}{α β:Type}{p q:Nat×Nat}{g:aL}{S:Nat->Nat->Prop}{r:eA}{N:Nat->Prop}{rs oz:List eA}{cl:List (Nat×Nat)}{ks:List (List Nat)}{hol:List Bool}
theorem g3{f:Nat->Option gH}(hf:∀n k,f n=some k->k.over=n):∀{l:List Nat},pq l->(l.filterMap f).Pairwise λk k'=>k.over<k'.over
 | [],_=>by simp|n::l,h=>by
  have hc:=dJ.mp h;rw[bI];cases e:f n with
  |none=>exact g3 hf hc.2|some k=>refine dJ.mpr ⟨λk' rN=>?_,g3 hf hc.2⟩;obtain⟨m,hm,em⟩:=b3.mp rN;rw[hf n k e,hf m k' em];exact hc.1 m hm
theorem kY{k:gH}(h:k∈mE g s):k.kind=0/\k.over<g.nons/\k.jT=bh g s k.over:=by
 obtain⟨b,hb,e⟩:=b3.mp h;split at e
 ·cases e
 ·have e':=ax e;subst e';exact⟨rfl,eV.mp hb,rfl⟩
theorem g4(G:Good g){k:gH}(h:k∈mF g (ag g) s):k.kind=1/\k.over<gs g/\k.jT=vL g s k.over:=by
 rw[mI G]at h;obtain⟨b,hb,e⟩:=b3.mp h;unfold o5 at e;split at e
 ·cases e
 ·have e':=ax e;subst e';exact⟨rfl,eV.mp hb,rfl⟩
def Yh(a b:Nat×Nat):Prop:=a.1<b.1\/(a.1=b.1/\a.2<b.2)
theorem oG(G:Good g)(s:List Nat):(cP g (ag g) s).Pairwise λk k'=>Yh (k.kind,k.over) (k'.kind,k'.over):=by
 unfold cP;refine N'.mpr ⟨?_,?_,λk hk k' rN=>?_⟩
 ·have:(mE g s).Pairwise λk k'=>k.over<k'.over:=by
   unfold mE;refine g3 (λn k e=>?_) (uN _);split at e
   ·cases e
   ·rw[<-ax e]
  refine this.imp_of_mem λ{a b} ha hb h=> .inr ⟨?_,h⟩;show a.kind=b.kind;rw[(kY ha).1,(kY hb).1]
 ·have:(mF g (ag g) s).Pairwise λk k'=>k.over<k'.over:=by
   rw[mI G];refine g3 (λn k e=>?_) (uN _);unfold o5 at e;split at e
   ·cases e
   ·rw[<-ax e]
  refine this.imp_of_mem λ{a b} ha hb h=> .inr ⟨?_,h⟩;show a.kind=b.kind;rw[(g4 G ha).1,(g4 G hb).1]
 ·left;show k.kind<k'.kind;rw[(kY hk).1,(g4 G rN).1];exact Nat.one_pos
theorem Ry(G:Good g){k:gH}(h:k∈cP g (ag g) s):∀c∈k.jT,∃c'∈s,∃y,bq g c'=some y/\c=c'+1:=by
 intro c hc;rcases bC.mp h with h|h
 ·rw[(kY h).2.2]at hc;obtain⟨c',h1,h2,h3⟩:=nN.mp hc;exact⟨c',h1,_,h2,h3⟩
 ·obtain⟨h1,h2,h3⟩:=g4 G h;rw[h3]at hc;unfold vL at hc;obtain⟨p,hp,rfl⟩:=aQ.mp hc;obtain⟨c',Kw,e⟩:=b3.mp (dE.mp hp).1;unfold lv at e;split at e
  ·rename_i lo hi ey;have e':=ax e;subst e';exact⟨c',Kw,_,ey,rfl⟩
  ·cases e
structure sY(g:aL)(ks:List (List Nat))(t:Table):Prop extends Tb g ks t where
 fD:t.length=ks.length
section
variable{g:aL}{ks:List (List Nat)}{t:Table}
theorem sY.pos(T:sY g ks t):0<t.length:=by rw[T.fD];exact(ao.mp T.zero).1
theorem vN{k o:Nat}{r:Row}(h:t[i]? =some r):bK t i k o=(r.moves.find? (λm=>m.kind==k&&m.over==o)).map (λm=>m.to):=by unfold bK fY;rw[h]
theorem tY{k o:Nat}(h:bK t i k o=some j):∃r m,t[i]? =some r/\m∈r.moves/\m.kind=k/\m.over=o/\m.to=j:=by
 cases e:t[i]? with
 |none=>unfold bK fY at h;rw[e]at h;simp at h|some r=>
  rw[vN e]at h;cases em:r.moves.find? (λm=>m.kind==k&&m.over==o)with|none=>rw[em]at h;cases h|some m=>rw[em]at h;have q:=List.find?_some em;rw[bg,beq_iff_eq,beq_iff_eq]at q;exact⟨r,m,rfl,List.mem_of_find?_eq_some em,q.1,q.2,ax h⟩
theorem sY.V3(G:Good g)(T:sY g ks t){r:Row}{m:Move}(h:t[i]? =some r)(hm:m∈r.moves):m.to<t.length/\(m.kind=0/\m.over<g.nons\/m.kind=1/\m.over<gs g)/\∀c∈cD t m.to,c%16≠0->∃c'∈r.items,∃y,bq g c'=some y/\c=c'+1:=by
 obtain⟨k,_,_,_,M⟩:=T.row i r h;obtain⟨j,hj⟩:=fS hm;have hjl:j<(cP g (ag g) r.items).length:=by rw[<-M.fD];exact(ao.mp hj).1
 have hk:=ay hjl;obtain⟨e1,e2,e3⟩:=M.wM j m _ hj hk;have o7:=aG hk;generalize (cP g (ag g) r.items)[j]=q at hk e1 e2 e3 o7;have ZX:m.to<t.length:=by rw[T.fD];exact(ao.mp e3).1
 refine⟨ZX,?_,λc hc hp=>?_⟩
 ·rw[e1,e2];rcases bC.mp o7 with z|z
  ·exact .inl ⟨(kY z).1,(kY z).2.1⟩
  ·exact .inr ⟨(g4 G z).1,(g4 G z).2.1⟩
 ·obtain⟨k',h1,_,h3,_⟩:=T.row m.to _ (ay ZX);rw[e3]at h1;have e:=ax h1;subst e;have:cD t m.to=aV g q.jT:=by unfold cD;rw[ay ZX];exact h3
  rw[this]at hc;exact Ry G o7 c (mD hc hp)
theorem sY.HW(G:Good g)(T:sY g ks t)(i:Nat)(hc:gs g<=c):bK t i 1 c=none:=by
 cases e:bK t i 1 c with
 |none=>rfl|some j=>
  obtain⟨r,m,h1,h2,h3,h4,_⟩:=tY e;rcases(T.V3 G h1 h2).2.1 with⟨z,_⟩|⟨_,z⟩
  ·omega
  ·omega
inductive OA(t:Table):List Nat->Prop
 |Yi:OA t [0]
 |more {i k o j:Nat} {l:List Nat}:bK t i k o=some j->OA t (i::l)->OA t (j::i::l)
theorem sY.Rz(T:sY g ks t)(h:c∈cD t i):lK g c:=by
 unfold cD at h;cases e:t[i]? with
 |none=>rw[e]at h;simp at h|some r=>rw[e]at h;obtain⟨k,_,hK,h3,_⟩:=T.row i r e;have h':c∈r.items:=h;rw[h3]at h';exact hK.ok.close.ok c h'
theorem OA.ZY(G:Good g)(T:sY g ks t):∀{st:List Nat},OA t st->∃j l,st=j::l/\j<t.length/\∀c∈cD t j,c%16<=l.length:=by
 intro st h;induction h with
 |Yi=>
  refine⟨0,[],rfl,T.pos,λc hc=>?_⟩;obtain⟨k,h1,_,h3,_⟩:=T.row 0 _ (ay T.pos);rw[T.zero]at h1;have e:=ax h1;subst e;have:cD t 0=aV g (dO g):=by unfold cD;rw[ay T.pos];exact h3
  rw[this]at hc;by_cases hp:c%16=0
  ·rw[hp];exact bj _
  ·have:=mD hc hp;have e:c=hX (fF g) 0:=by simpa[dO]using this
   rw[e]at hp;unfold hX at hp;omega
 |@more i k o j l hm _ ih=>
  obtain⟨i',l',e,hi,hc⟩:=ih;obtain⟨rfl,rfl⟩:=da e;obtain⟨r,m,h1,h2,_,_,rfl⟩:=tY hm;obtain⟨ZX,_,jx⟩:=T.V3 G h1 h2;refine⟨_,_,rfl,ZX,λc ZZ=>?_⟩;by_cases hp:c%16=0
  ·rw[hp];exact bj _
  ·obtain⟨c',Kw,y,ey,rfl⟩:=jx c ZZ hp;have:c'∈cD t i:=by unfold cD;rw[h1];exact Kw
   have q:=hc c' this;have:=(uK G ey).2;rw[this,aZ];omega
theorem OA.drop:∀{st:List Nat}{n:Nat},OA t st->n<st.length->OA t (st.drop n)
 |_,0,h,_=>h|_,n+1,.Yi,q=>by simp at q|_,n+1,.more _ h,q=>OA.drop (n:=n) h (by simpa using q)
theorem wU{r:Nat}(T:sY g ks t)(h:r∈cA g t i):r<=g.rules.length/\∃c∈cD t i,c/16=r/\c%16=(aO g r).rhs.length:=by
 unfold cA at h;obtain⟨c,hc,rfl⟩:=aQ.mp h;obtain⟨h1,h2⟩:=dE.mp hc;have I:=T.Rz h1;refine⟨I.rule,c,h1,rfl,?_⟩;have h3:bq g c=none:=by
  cases e:bq g c with|none=>rfl|some y=>rw[e]at h2;cases h2
 unfold bq at h3;have:=iR.mp h3;have:=I.place;omega
structure lC(g:aL)(cN:List Nat):Prop where
 fD:cN.length=g.nons
 lt:∀a,cN.getD a 0<2^(gs g+1)
 eq:∀c a,Bc cN c a↔ou g c a
def iD(g:aL)(cN:List Nat)(c r:Nat):Option (Nat×Nat):=if r=g.rules.length then(if c=gs g then some (2,0)else none)else if(cN.getD (aO g r).lhs 0).testBit c then some (1,r)else none
def kZ(t:Table)(i c:Nat):List (Nat×Nat):=match bK t i 1 c with|some j=>[(0,j)]|none=>[]
def dc(g:aL)(cN:List Nat)(t:Table)(i c:Nat):List (Nat×Nat):=kZ t i c++(cA g t i).filterMap (iD g cN c)
def Eh:Act->Nat×Nat
 | .shift j=>(0,j)| .reduce r=>(1,r)| .accept=>(2,0)
theorem o8{α β γ:Type}{f:α->Option β}{h:β->γ}{f':α->Option γ}(e:∀x,(f x).map h=f' x):∀l:List α,(l.filterMap f).map h=l.filterMap f'
 | []=>rfl|x::l=>by
  rw[bI,bI,<-e x];cases f x with|none=>exact o8 e l|some y=>show h y::_=h y::_;rw[o8 e l]
def nP(g:aL)(b:Nat):Option Nat:=if b=256 then some (gs g)else cf g b
theorem HX{g:aL}(G:Good g):cf g 256=none:=by
 cases e:cf g 256 with
 |none=>rfl|some c=>obtain⟨p,hp,h1,h2⟩:=nM.mp e;have:=(rO G (aG hp)).2;omega
theorem wV(G:Good g)(T:sY g ks t){cN:List Nat}(F:lC g cN)(i:Nat)(h:nP g b=some c):(cH g (bO g) t i b).map Eh=dc g cN t i c:=by
 unfold cH dc;rw[aK];unfold nP at h;congr 1
 ·split at h
  ·rename_i e;subst e;have e:=ax h;subst e;rw[HX G];unfold kZ;rw[T.HW G i (aB _)];rfl
  ·rw[h];unfold kZ;show ZC Eh (match bK t i 1 c with
    |some j=>[Act.shift j]|none=>[])=_
   cases bK t i 1 c<;>rfl
 ·refine o8 (λr=>?_) _;unfold iD;have OB:(b==gR)=decide (c=gs g):=by
   split at h
   ·rename_i e;subst e;rw[ax h];simp[gR]
   ·rename_i e;obtain⟨p,hp,_,_⟩:=nM.mp h;have hc:=(ao.mp hp).1;have e2:(b==gR)=false:=by rw[beq_eq_false_iff_ne];exact e
    rw[e2,decide_eq_false (by unfold gs;omega)]
  have ajT:∀a,rp (bO g) a b=(cN.getD a 0).testBit c:=by
   intro a;rw[eu];have e1:rp (bO g) a b=true↔Bt (bO g) b a:=VG;have e2:(cN.getD a 0).testBit c=true↔Bc cN c a:=VG;rw[e1,e2,F.eq];split at h
   ·rename_i e;subst e;rw[<-ax h];exact V0 G
   ·exact Oy G h
  by_cases hr:r=g.rules.length
  ·rw[if_pos hr,if_pos (by rw[beq_iff_eq];exact hr),OB];by_cases hc:c=gs g
   ·rw[if_pos hc,if_pos (by simp[hc])];rfl
   ·rw[if_neg hc,if_neg (by simp[hc])];rfl
  ·rw[if_neg hr,if_neg (by rw[beq_iff_eq];exact hr),ajT];by_cases hb:(cN.getD (aO g r).lhs 0).testBit c=true
   ·rw[if_pos hb,if_pos hb];rfl
   ·rw[if_neg hb,if_neg hb];rfl
theorem Ei(G:Good g)(i:Nat)(hb:b<256)(h:cf g b=none):cH g (bO g) t i b=[]:=by
 unfold cH;rw[h];show[]++_=[];rw[C1];refine mH λr hr=>?_;have h1:¬(b==gR)=true:=by rw[beq_iff_eq];unfold gR;omega
 have h2:¬rp (bO g) (aO g r).lhs b=true:=V1 G hb h;rw[if_neg h1,if_neg h2];split<;>rfl
theorem OC{F:Nat×Nat->Option β}{F':Nat->Option β}:∀{bs:List Nat},(∀c b,bs[c]? =some b->F (c,b)=F' c)->((bE bs.length).zip bs).filterMap F=(bE bs.length).filterMap F':=by
 have key:∀(bs:List Nat)(k:Nat),(∀c b,bs[c]? =some b->F (k+c,b)=F' (k+c))->((d4 k bs.length).zip bs).filterMap F=(d4 k bs.length).filterMap F':=by
  intro bs;induction bs with|nil=>intro k _;rfl|cons b bs ih=>intro k h;rw[aZ,sS,mx,bI,bI];have e:=h 0 b rfl;rw[Mg]at e;rw[e,ih (k+1) λc b' hc=>by have:=h (c+1) b' (by rw[gU];exact hc);rw[show k+1+c=k+(c+1) by omega];exact this]
 intro bs h;rw[vC];exact key bs 0 λc b hc=>by rw[pJ];exact h c b hc
def kH(g:aL)(cN:List Nat)(t:Table)(i c:Nat):Option (Nat×Nat×Nat):=if 1<(dc g cN t i c).length then some (i,c,(dc g cN t i c).length)else none
theorem wW(G:Good g)(T:sY g ks t){cN:List Nat}(F:lC g cN):dH g t=(bE t.length).flatMap λi=>(bE (gs g+1)).filterMap (kH g cN t i):=by
 unfold dH;show(bE t.length).flatMap _=_;congr 1;funext i;have hl:((ag g).map (λp=>p.1)++[gR]).length=gs g+1:=by simp
 rw[<-hl];refine OC λc b hc=>?_;have vO:nP g b=some c:=by
  unfold nP;by_cases f8:c<gs g
  ·rw[cW (by simpa using f8),aM,ay f8]at hc;have e:(ag g)[c].1=b:=ax hc;have hp:=rO G (sT f8);rw[if_neg (by omega)];exact nM.mpr ⟨_,ay f8,by omega,by omega⟩
  ·have Z0:=(ao.mp hc).1;rw[hl]at Z0;have:c=gs g:=by omega
   subst this;rw[eW (by simp)]at hc;have e:gR=b:=by simpa using hc
   rw[if_pos (show b=256 from e.symm)]
 have e:=wV G T F i vO;have en:(cH g (bO g) t i b).length=(dc g cN t i c).length:=by rw[<-e,aq]
 unfold kH;rw[<-en]
end
end Mt
namespace Mt
open Vaglrc (Sym Rule Grammar)
open Vaglrd (Move Row Table Act Ending)
variable{x n i b c a j W m:Nat}{l s t k first:List Nat}{y:mq}{α β:Type}{p q:Nat×Nat}{g:aL}{S:Nat->Nat->Prop}{r:eA}{N:Nat->Prop}{rs oz:List eA}{cl:List (Nat×Nat)}{ks:List (List Nat)}{hol:List Bool}
section
variable{g:aL}{ks:List (List Nat)}{t:Table}
def tZ(g:aL)(x:List Nat)(p:Nat):Option Nat:=nP g (x.getD p 256)
theorem RA{x:List Nat}(hx:∀b∈x,b<256){p:Nat}(h:x[p]? =some b):tZ g x p=cf g b:=by unfold tZ nP;rw[aT,h];have:=hx b (aG h);show(if b=256 then _ else _)=_;rw[if_neg (by omega)];rfl
theorem Ej{x:List Nat}:tZ g x x.length=some (gs g):=by unfold tZ nP;rw[aT,dy (aB _)];rfl
abbrev u5(g:aL)(t:Table)(x:List Nat)(k:Nat)(st:List Nat)(p:Nat)(dn:List Nat):Ending:=nH g (bO g) t x k st p dn
theorem RB(G:Good g){x:List Nat}(hx:∀b∈x,b<256){k p:Nat}{st dn:List Nat}(h:tZ g x p=none):u5 g t x (k+1) st p dn= .stopped p:=by
 unfold u5 nH;have e:cH g (bO g) t (st.headD 0) (x.getD p gR)=[]:=by
  unfold tZ nP at h;split at h
  ·cases h
  ·rename_i j8;refine Ei G _ ?_ h;rw[aT]at j8 ⊢;cases e:x[p]? with|none=>rw[e]at j8;exact absurd rfl j8|some b=>exact hx b (aG e)
 show(match cH g (bO g) t (st.headD 0) (x.getD p gR)with
  | []=>_| .accept::_=>_| .shift j::_=>_| .reduce r::_=>_)=_
 rw[e]
variable{cN:List Nat}
theorem map_nil{f:α->β}{l:List α}(h:l.map f=[]):l=[]:=jh.mp h
theorem V4(G:Good g)(T:sY g ks t)(F:lC g cN){x:List Nat}{k p:Nat}{dn:List Nat}(h:tZ g x p=some c)(ht:dc g cN t i c=[]):u5 g t x (k+1) (i::l) p dn= .stopped p:=by
 have e:=wV G T F i h;rw[ht]at e;unfold u5 nH;show(match cH g (bO g) t i (x.getD p 256)with
  | []=>_| .accept::_=>_| .shift j::_=>_| .reduce r::_=>_)=_
 rw[map_nil e]
theorem RE(G:Good g)(T:sY g ks t)(F:lC g cN){x:List Nat}{k p:Nat}{dn:List Nat}{r:List (Nat×Nat)}(h:tZ g x p=some c)(ht:dc g cN t i c=(a,b)::r):(a=2/\u5 g t x (k+1) (i::l) p dn= .read dn.reverse)\/(a=0/\u5 g t x (k+1) (i::l) p dn=u5 g t x k (b::i::l) (p+1) dn)\/(a=1/\u5 g t x (k+1) (i::l) p dn=match bK t (((i::l).drop (aO g b).rhs.length).headD 0) 0 (aO g b).lhs with
 |some j=>u5 g t x k (j::(i::l).drop (aO g b).rhs.length) p (b::dn)|none=> .stopped p):=by
 have e:=wV G T F i h;rw[ht]at e;have hr:∀dn,u5 g t x (k+1) (i::l) p dn=(match cH g (bO g) t i (x.getD p 256)with
  | []=> .stopped p| .accept::_=> .read dn.reverse| .shift j::_=>u5 g t x k (j::i::l) (p+1) dn| .reduce r::_=>match bK t (((i::l).drop (aO g r).rhs.length).headD 0) 0 (aO g r).lhs with
   |some j=>u5 g t x k (j::(i::l).drop (aO g r).rhs.length) p (r::dn)|none=> .stopped p):= λdn=>by
  unfold u5;rw[nH];rfl
 rw[hr dn];cases ea:cH g (bO g) t i (x.getD p 256)with
 |nil=>rw[ea]at e;cases e|cons y ys=>
  rw[ea]at e;rw[aS]at e;have e1:=(da e).1;cases y with
  |shift j=>have e2:((0:Nat),j)=(a,b):=e1;obtain⟨rfl,rfl⟩:=hJ e2;exact .inr (.inl ⟨rfl,rfl⟩)
  |reduce q=>have e2:((1:Nat),q)=(a,b):=e1;obtain⟨rfl,rfl⟩:=hJ e2;exact .inr (.inr ⟨rfl,rfl⟩)
  |accept=>have e2:((2:Nat),(0:Nat))=(a,b):=e1;obtain⟨rfl,rfl⟩:=hJ e2;exact .inl ⟨rfl,rfl⟩
theorem vP(G:Good g)(T:sY g ks t){r:List (Nat×Nat)}(ht:dc g cN t i c=(a,b)::r):(a=0/\bK t i 1 c=some b/\c<gs g)\/(a=1/\b∈cA g t i/\b<g.rules.length)\/(a=2/\b=0):=by
 unfold dc kZ at ht;cases e:bK t i 1 c with
 |some j=>
  rw[e]at ht;have e2:=hJ (da ht).1;obtain⟨rfl,rfl⟩:=e2;refine .inl ⟨rfl,rfl,?_⟩;by_cases hc:c<gs g
  ·exact hc
  ·rw[T.HW G i (by omega)]at e;cases e
 |none=>
  rw[e]at ht;have hm:(a,b)∈(cA g t i).filterMap (iD g cN c):=by have ht':(cA g t i).filterMap (iD g cN c)=(a,b)::r:=ht;rw[ht'];exact aC ..
  obtain⟨q,hq,eq⟩:=b3.mp hm;unfold iD at eq;split at eq
  ·split at eq
   ·obtain⟨rfl,rfl⟩:=hJ (ax eq);exact .inr (.inr ⟨rfl,rfl⟩)
   ·cases eq
  ·rename_i j8;split at eq
   ·obtain⟨rfl,rfl⟩:=hJ (ax eq);have:=(wU T hq).1;exact .inr (.inl ⟨rfl,hq,by omega⟩)
   ·cases eq
theorem OA.put(G:Good g)(T:sY g ks t){r:Nat}(h:OA t (i::l))(hr:r∈cA g t i):∃i' l',(i::l).drop (aO g r).rhs.length=i'::l'/\OA t (i'::l')/\i'<t.length/\(aO g r).rhs.length<(i::l).length:=by
 obtain⟨_,c,hc,rfl,e⟩:=wU T hr;obtain⟨j,l',ej,hj,hd⟩:=h.ZY G T;obtain⟨rfl,rfl⟩:=da ej;have f8:(aO g (c/16)).rhs.length<(i::l).length:=by have:=hd c hc;rw[aZ];omega
 have Kw:=h.drop f8;obtain⟨j,l',ej,hj,_⟩:=Kw.ZY G T;rw[ej]at Kw;exact⟨j,l',ej,Kw,hj,f8⟩
def g5(g:aL):List Nat->Option (List (Nat×Option Nat))
 | []=>some []|0::a::r=>if a<g.nons then(g5 g r).map ((0,some a):: ·)else none|1::b::r=>if b<256 then(g5 g r).map ((1,cf g b):: ·)else none|_=>none
def mK(t:Table):Nat->Nat->List (Nat×Option Nat)->Nat×Option Nat
 |n,i,[]=>(n,some i)|n,i,(k,o)::r=>match o.bind (bK t i k)with|some j=>mK t (n+1) j r|none=>(n,none)
theorem wX:∀(k:Nat)(x:List Nat)(n i:Nat),x.length<k->kQ g t k n i x=(g5 g x).map (mK t n i)
 |0,x,n,i,h=>by omega|k+1,[],n,i,_=>rfl|k+1,[a],n,i,_=>by
  match a with|0=>rfl|1=>rfl|a+2=>rfl
 |k+1,0::a::r,n,i,h=>by
  rw[kQ,g5];by_cases ha:a<g.nons
  ·rw[if_pos ha,if_pos ha];have hl:r.length<k:=by simp at h;omega
   cases e:bK t i 0 a with
   |some j=>
    show kQ g t k (n+1) j r=_;rw[wX k r (n+1) j hl];cases g5 g r with
    |none=>rfl|some s=>
     show some _=some _;congr 1;show _=mK t n i ((0,some a)::s);rw[mK];show _=match bK t i 0 a with|some j=>mK t (n+1) j s|none=>(n,none)
     rw[e]
   |none=>
    show(kQ g t k (n+1) i r).map _=_;rw[wX k r (n+1) i hl];cases g5 g r with
    |none=>rfl|some s=>
     show some _=some _;congr 1;show _=mK t n i ((0,some a)::s);rw[mK];show _=match bK t i 0 a with|some j=>mK t (n+1) j s|none=>(n,none)
     rw[e]
  ·rw[if_neg ha,if_neg ha];rfl
 |k+1,1::b::r,n,i,h=>by
  rw[kQ,g5];by_cases hb:b<256
  ·rw[if_pos hb,if_pos hb];have hl:r.length<k:=by simp at h;omega
   cases e:(cf g b).bind (λc=>bK t i 1 c)with
   |some j=>
    show kQ g t k (n+1) j r=_;rw[wX k r (n+1) j hl];cases g5 g r with|none=>rfl|some s=>show some _=some _;congr 1;show _=mK t n i ((1,cf g b)::s);rw[mK,e]
   |none=>
    show(kQ g t k (n+1) i r).map _=_;rw[wX k r (n+1) i hl];cases g5 g r with|none=>rfl|some s=>show some _=some _;congr 1;show _=mK t n i ((1,cf g b)::s);rw[mK,e]
  ·rw[if_neg hb,if_neg hb];rfl
 |k+1,(a+2)::b::r,n,i,h=>rfl
def OD(g:aL)(a b:Nat):Option (Nat×Option Nat):=match a with|0=>if b<g.nons then some (0,some b)else none|1=>if b<256 then some (1,cf g b)else none|_=>none
theorem Bx(a b:Nat)(r:List Nat):g5 g (a::b::r)=match OD g a b with
 |none=>none|some s=>(g5 g r).map (s:: ·):=by
 match a with
 |0=>
  rw[g5];show _=match(if b<g.nons then some ((0:Nat),some b)else none)with|none=>none|some s=>(g5 g r).map (s:: ·)
  by_cases h:b<g.nons
  ·rw[if_pos h,if_pos h]
  ·rw[if_neg h,if_neg h]
 |1=>
  rw[g5];show _=match(if b<256 then some ((1:Nat),cf g b)else none)with|none=>none|some s=>(g5 g r).map (s:: ·)
  by_cases h:b<256
  ·rw[if_pos h,if_pos h]
  ·rw[if_neg h,if_neg h]
 |a+2=>rfl
theorem By:∀(x:List Nat),x.length%2=1->g5 g x=none
 | [],h=>by simp at h| [a],_=>by
  match a with|0=>rfl|1=>rfl|a+2=>rfl
 |a::b::r,h=>by rw[Bx,By r (by simp only[aZ]at h;omega)];cases OD g a b<;>rfl
end
theorem HY(G:Good g){cov:List Bool}(h:∀a,cov.getD a false=true↔c9 g true a):(fc g).filter (λr=>jZ true cov r.rhs)=(bu g).map (iz g):=by unfold fc bu;rw[X6];congr 1;refine U9 λr _=>?_;rw[eu];show jZ true cov (r.rhs.map (o1 g))=true↔_;rw[vI,Bl,uI];have e:(λa=>cov.getD a false=true)= λa=>a∈yi g:=funext λa=>propext ((h a).trans (oZ G).symm);rw[e]
theorem Fj(hr:r∈g.rules)(h:Prd g r):c9 g true r.lhs:=oY g true r hr h
theorem Dj(G:Good g){p:Nat->Bool}(h:∀a,p a=true↔jw (bu g) a):((bu g).map (iz g)).filter (λr=>p r.lhs)=(cU g).map (iz g):=by unfold cU;rw[X6];congr 1;refine U9 λr hr=>?_;obtain⟨h1,h2⟩:=(e9 G).mp hr;rw[eu];show p r.lhs=true↔_;rw[h,kT,rF G];exact⟨λq=>⟨q,Fj h1 h2⟩,λq=>q.1⟩
theorem Fk(G:Good g):(∃r∈(cU g).map (iz g),r.lhs=0)↔0∈fu g:=by
 constructor
 ·rintro⟨r,hr,e⟩;obtain⟨q,hq,rfl⟩:=aQ.mp hr;obtain⟨h1,h2,h3⟩:=(iB G).mp hq;have e':q.lhs=0:=e;rw[rF G,<-e'];exact⟨h3,Fj h1 h2⟩
 ·intro h;obtain⟨h1,h2⟩:=(rF G).mp h;have key:c9 g true 0/\∃r∈g.rules,r.lhs=0/\Prd g r:=by refine h2 (λa=>c9 g true a/\∃r∈g.rules,r.lhs=a/\Prd g r) λr hr q=>?_;have p:Prd g r:= λy hy=>rE (λa z=>z.1) (q y hy);exact⟨Fj hr p,r,hr,rfl,p⟩
  obtain⟨_,r,hr,e,p⟩:=key;refine⟨iz g r,aQ.mpr ⟨r,(iB G).mpr ⟨hr,p,?_⟩,rfl⟩,e⟩;rw[e];exact wL _
theorem RF:jp b∈(iz g r).rhs↔jp b∈r.rhs:=by
 unfold iz;show jp b∈r.rhs.map (o1 g)↔_;rw[aQ];constructor
 ·rintro⟨y,hy,e⟩;cases y with|non k=>rw[show jp b=jp k from e.symm];exact hy|range lo hi=>cases e
 ·intro h;exact⟨_,h,rfl⟩
theorem OE:jw (rs.map (iz g)) a↔jw rs a:=by
 have e:∀S:Nat->Prop,wK (rs.map (iz g)) S↔wK rs S:=by
  intro S;constructor
  ·intro h r hr hs b hb;exact h (iz g r) (aQ.mpr ⟨r,hr,rfl⟩) hs b (RF.mpr hb)
  ·intro h r hr hs b hb;obtain⟨q,hq,rfl⟩:=aQ.mp hr;exact h q hq hs b (RF.mp hb)
 exact⟨λh S h0 hS=>h S h0 ((e S).mpr hS),λh S h0 hS=>h S h0 ((e S).mp hS)⟩
def jB(st:List Nat×List Nat)(y:mq):List Nat×List Nat:=match y with| .range _ _=>st| .non b=>if b∈st.1 then st else(st.1++[b],st.2++[b])
def gy(a:Nat)(st:List Nat×List Nat)(r:eA):List Nat×List Nat:=if r.lhs=a then r.rhs.foldl jB st else st
structure Rch(n:Nat)(oz:List eA)(rk wt:List Nat):Prop where
 zero:0∈rk
 lZ:∀a∈rk,jw oz a
 Ff:∀a∈wt,a∈rk
 next:∀a∈rk,a∈wt\/∀r∈oz,r.lhs=a->∀b,jp b∈r.rhs->b∈rk
 nd:rk.Nodup
 lt:∀a∈rk,a<n
theorem OF(h:1<=n):Rch n oz [0] [0]:=⟨by simp,λa ha=>by
 have:a=0:=by simpa using ha
 rw[this];exact wL _,λa ha=>ha,λa ha=> .inl ha,by simp,λa ha=>by
 have:a=0:=by simpa using ha
 omega⟩
structure Z1(n:Nat)(oz:List eA)(rk0 wt0:List Nat)(rk wt:List Nat):Prop where
 ad:∃z,rk=rk0++z/\wt=wt0++z
 lZ:∀a∈rk,jw oz a
 nd:rk.Nodup
 lt:∀a∈rk,a<n
theorem V5{rk0 wt0:List Nat}{st:List Nat×List Nat}(h:Z1 n oz rk0 wt0 st.1 st.2)(hy:∀b,y= .non b->jw oz b/\b<n):Z1 n oz rk0 wt0 (jB st y).1 (jB st y).2/\(∀a∈st.1,a∈(jB st y).1)/\∀b,y= .non b->b∈(jB st y).1:=by
 cases y with
 |range lo hi=>exact⟨h,λa z=>z,λb e=>by cases e⟩|non b=>
  unfold jB;by_cases hb:b∈st.1
  ·simp only[hb,if_true];exact⟨h,λa z=>z,λb' e=>by cases e;exact hb⟩
  ·simp only[hb,if_false];obtain⟨z,e1,e2⟩:=h.ad;obtain⟨q1,q2⟩:=hy b rfl;refine⟨⟨⟨z++[b],by rw[e1,fg],by rw[e2,fg]⟩,λa ha=>?_,?_,λa ha=>?_⟩,λa ha=>dj _ ha,λb' e=>by cases e;simp⟩
   ·rcases bC.mp ha with q|q
    ·exact h.lZ a q
    ·have:a=b:=by simpa using q
     rw[this];exact q1
   ·rw[f_];exact⟨h.nd,by simp,λx hx y hy e=>hb (by
     have:y=b:=by simpa using hy
     rw[<-this,<-e];exact hx)⟩
   ·rcases bC.mp ha with q|q
    ·exact h.lt a q
    ·have:a=b:=by simpa using q
     rw[this];exact q2
theorem Bz{n:Nat}{oz:List eA}{rk0 wt0:List Nat}:∀{l:List mq}{st:List Nat×List Nat},Z1 n oz rk0 wt0 st.1 st.2->(∀b,jp b∈l->jw oz b/\b<n)->Z1 n oz rk0 wt0 (l.foldl jB st).1 (l.foldl jB st).2/\(∀a∈st.1,a∈(l.foldl jB st).1)/\∀b,jp b∈l->b∈(l.foldl jB st).1
 | [],st,h,_=>⟨h,λa z=>z,λb z=>by simp at z⟩|y::l,st,h,hy=>by
  obtain⟨m1,k1,n1⟩:=V5 (y:=y) h λb e=>hy b (by rw[e];exact aC ..);obtain⟨m2,k2,n2⟩:=Bz (l:=l) m1 λb hb=>hy b (az _ hb);refine⟨m2,λa ha=>k2 a (k1 a ha),λb hb=>?_⟩;rcases aU.mp hb with q|q
  ·exact k2 b (n1 b q.symm)
  ·exact n2 b q
theorem yy{n:Nat}{oz:List eA}{rk0 wt0:List Nat}{c:Nat}(hc:jw oz c)(hn:∀r∈oz,∀b,jp b∈r.rhs->b<n):∀{l:List eA}{st:List Nat×List Nat},(∀r∈l,r∈oz)->Z1 n oz rk0 wt0 st.1 st.2->Z1 n oz rk0 wt0 (l.foldl (gy c) st).1 (l.foldl (gy c) st).2/\(∀a∈st.1,a∈(l.foldl (gy c) st).1)/\∀r∈l,r.lhs=c->∀b,jp b∈r.rhs->b∈(l.foldl (gy c) st).1
 | [],st,_,h=>⟨h,λa z=>z,λr z=>by simp at z⟩|r::l,st,hl,h=>by
  have step:Z1 n oz rk0 wt0 (gy c st r).1 (gy c st r).2/\(∀a∈st.1,a∈(gy c st r).1)/\(r.lhs=c->∀b,jp b∈r.rhs->b∈(gy c st r).1):=by
   unfold gy;by_cases e:r.lhs=c
   ·rw[if_pos e];have hr:=hl r (aC ..);obtain⟨m,k,q⟩:=Bz (l:=r.rhs) h λb hb=>⟨tN oz r hr (by rw[e];exact hc) b hb,hn r hr b hb⟩;exact⟨m,k,λ_=>q⟩
   ·rw[if_neg e];exact⟨h,λa z=>z,λz=>absurd z e⟩
  obtain⟨m1,k1,n1⟩:=step;obtain⟨m2,k2,n2⟩:=yy hc hn (l:=l) (λq hq=>hl q (az _ hq)) m1;refine⟨m2,λa ha=>k2 a (k1 a ha),λq hq e b hb=>?_⟩;rcases aU.mp hq with z|z
  ·subst z;exact k2 b (n1 e b hb)
  ·exact n2 q z e b hb
theorem RG{rk wt:List Nat}(hn:∀r∈oz,∀b,jp b∈r.rhs->b<n)(h:Rch n oz rk (wt++[c])):Rch n oz (oz.foldl (gy c) (rk,wt)).1 (oz.foldl (gy c) (rk,wt)).2/\∃z,(oz.foldl (gy c) (rk,wt)).1=rk++z/\(oz.foldl (gy c) (rk,wt)).2=wt++z:=by
 have hcr:c∈rk:=h.Ff c (by simp);obtain⟨m,k,q⟩:=yy (rk0:=rk) (wt0:=wt) (h.lZ c hcr) hn (l:=oz) (st:=(rk,wt)) (λr z=>z) ⟨⟨[],by simp,by simp⟩,h.lZ,h.nd,h.lt⟩;obtain⟨z,e1,e2⟩:=m.ad;refine⟨⟨k 0 h.zero,m.lZ,λa ha=>?_,λa ha=>?_,m.nd,m.lt⟩,z,e1,e2⟩
 ·rw[e2]at ha;rw[e1];rcases bC.mp ha with y|y
  ·exact dj _ (h.Ff a (dj _ y))
  ·exact cG _ y
 ·rw[e1]at ha;rcases bC.mp ha with y|y
  ·rcases h.next a y with w|w
   ·rcases bC.mp w with v|v
    ·left;rw[e2];exact dj _ v
    ·have:a=c:=by simpa using v
     subst this;exact .inr q
   ·exact .inr λr hr e b hb=>k b (w r hr e b hb)
  ·left;rw[e2];exact cG _ y
theorem RH{rk:List Nat}(h:Rch n oz rk [])(a:Nat):a∈rk↔jw oz a:=by
 refine⟨h.lZ a,λq=>q (· ∈rk) h.zero λr hr hs b hb=>?_⟩;rcases h.next r.lhs hs with z|z
 ·simp at z
 ·exact z r hr rfl b hb
theorem MA{rk wt:List Nat}(h:Rch n oz rk wt):rk.length<=n:=o4 h.nd h.lt
theorem iH(G:Good g)(h:r∈fc g):Bn (gs g+1) g.nons r:=by
 obtain⟨q,hq,rfl⟩:=aQ.mp h;have R:=G.rule q hq;have sy:∀y∈(iz g q).rhs,∃z∈q.rhs,y=o1 g z:= λy hy=>by obtain⟨z,hz,e⟩:=aQ.mp hy;exact⟨z,hz,e.symm⟩
 refine⟨R.lhs,λy hy=>?_,λlo hi hy=>?_,λk hk=>R.Oh _ (RF.mp hk)⟩
 ·obtain⟨z,hz,rfl⟩:=sy y hy;cases z with|non k=>exact trivial|range lo hi=>exact(Mx G (iF.mpr ⟨q,hq,hz⟩)).1
 ·obtain⟨z,hz,e⟩:=sy _ hy;cases z with|non k=>cases e|range lo' ZW=>have e':=(qi.inj e);rw[e'.2];have:=(Mx G (iF.mpr ⟨q,hq,hz⟩)).2;unfold gs;exact gZ this
theorem qQ(G:Good g)(h:r∈(bu g).map (iz g)):r∈fc g:=by obtain⟨q,hq,rfl⟩:=aQ.mp h;exact aQ.mpr ⟨q,((e9 G).mp hq).1,rfl⟩
theorem rR(G:Good g)(h:r∈(cU g).map (iz g)):r∈fc g:=by obtain⟨q,hq,rfl⟩:=aQ.mp h;exact aQ.mpr ⟨q,((iB G).mp hq).1,rfl⟩
abbrev Kx(g:aL)(c a:Nat):Prop:=rG (c9 g false) (jY (jJ c) ((bu g).map (iz g))) a
theorem MB(h:∀a,hol.getD a false=true↔c9 g false a):Ho hol=c9 g false:=funext λa=>propext (h a)
abbrev G7(g:aL):List eA:=(bu g).map (iz g)
abbrev Dk(g:aL):List eA:=(cU g).map (iz g)
theorem o9:(bz n 0).getD a 0=0:=by rw[aT,jq];split<;>rfl
theorem BA:iG n W S (bz n 0):=⟨by simp,λa=>by rw[o9];exact wm (by decide),λc a h=>by unfold Bc at h;rw[o9,X4]at h;cases h⟩
theorem OG(G:Good g)(hh:∀a,hol.getD a false=true↔c9 g false a)(ok:iG g.nons (gs g+1) (Kx g) first)(h:∀r∈G7 g,first.getD r.lhs 0|||kG first hol r.rhs 0=first.getD r.lhs 0)(c a:Nat):Bc first c a↔Kx g c a:=by have e:=MB hh;have:=VX (n:=g.nons) (W:=gs g+1) (hol:=hol) (rs:=G7 g) (t:=first) (λr hr=>iH G (qQ G hr)) (by rw[e];exact ok) h c a;rw[e]at this;exact this
theorem wY(hh:∀a,hol.getD a false=true↔c9 g false a)(hr:r∈G7 g):∀c,tO (Ho hol) (Kx g c) (r.rhs.map (dN (jJ c)))->Kx g c r.lhs:=by intro c h;rw[MB hh]at h;exact C_ (r.lhs,r.rhs.map (dN (jJ c))) (iT.mpr ⟨r,hr,rfl⟩) h
theorem Ky(G:Good g){cN:List Nat}(hh:∀a,hol.getD a false=true↔c9 g false a)(hf:∀c a,Bc first c a↔Kx g c a)(ok:iG g.nons (gs g+1) (ou g) cN)(h0:0∈fu g->Bc cN (gs g) 0)(h:∀r∈Dk g,∀c B,iY (Ho hol) (Bc first c) (Bc cN c r.lhs) B (r.rhs.map (dN (jJ c)))->Bc cN c B):lC g cN:=by
 refine⟨ok.fD,ok.lt,λc a=>?_⟩;have e:=MB hh;have ef:∀c,Bc first c=Kx g c:= λc=>funext λa=>propext (hf c a);have:=VY (n:=g.nons) (W:=gs g+1) (hol:=hol) (first:=first) (yn:= λc=>c=gs g/\0∈fu g) (rs:=Dk g) (t:=cN)
  (by
   have e2:(λc=>uJ (Ho hol) (Bc first c) (c=gs g/\0∈fu g) (jY (jJ c) (Dk g)))=ou g:=by funext c;rw[e,ef c];rfl
   rw[e2];exact ok) (λc hc=>by rw[hc.1];exact h0 hc.2) h c a
 rw[this,e,ef c];rfl
theorem qu(hh:∀a,hol.getD a false=true↔c9 g false a)(hf:∀c a,Bc first c a↔Kx g c a)(hr:r∈Dk g):∀c B,iY (Ho hol) (Bc first c) (ou g c r.lhs) B (r.rhs.map (dN (jJ c)))->ou g c B:=by intro c B h;have ef:Bc first c=Kx g c:=funext λa=>propext (hf c a);rw[MB hh,ef]at h;exact(tP (N:=c9 g false)).step (r.lhs,r.rhs.map (dN (jJ c))) (iT.mpr ⟨r,hr,rfl⟩) B h
def RI(g:aL)(b:Bool):List Nat:=if b then(bz g.nons 0).set 0 (2^gs g)else bz g.nons 0
theorem V6(G:Good g){b:Bool}(hb:b=true↔0∈fu g):iG g.nons (gs g+1) (ou g) (RI g b)/\(0∈fu g->Bc (RI g b) (gs g) 0):=by
 unfold RI;cases b with
 |false=>refine⟨BA,λz=>?_⟩;have:=hb.mpr z;cases this|true=>
  have hu:=hb.mp rfl;have z:iG g.nons (gs g+1) (ou g) ((bz g.nons 0).set 0 ((bz g.nons 0).getD 0 0|||2^gs g)):=by refine BA.set (Nat.pow_lt_pow_right (by decide) (by omega)) λc hc=>?_;rw[Nat.testBit_two_pow]at hc;have e:gs g=c:=of_decide_eq_true hc;subst e;exact(tP (N:=c9 g false)).start ⟨rfl,hu⟩
  rw[o9,Nat.zero_or]at z;refine⟨z,λ_=>?_⟩;show(((bz g.nons 0).set 0 (2^gs g)).getD 0 0).testBit (gs g)=true;rw[tV,if_pos ⟨rfl,by have:=G.pos;simp;omega⟩,Nat.testBit_two_pow_self]
end Mt
namespace Ex
open PySem
open Sem (wp)
section
variable{prog:a7}{w:bP}{K:Type}[DecidableEq K](knd:KeyKind prog w K)
inductive iI(h:cX):List (List K)->List aj->Prop
 |nil:iI h [] []
 |cons {k:List K} {b:ah} {ks:List (List K)} {vs:List aj}:IsTupleKey knd h k b->iI h ks vs->iI h (k::ks) (.ref b::vs)
def gk(h:cX)(ks:List (List K))(a:ah):Prop:=∃o items n,h.get? a=some o/\o.cls= .type "tuple"/\o.data= .seq items n/\iI knd h ks items.toList
def BB(ks:List (List K)):Int:=CO (eP (ks.map (gn knd)))
def yz(ks:List (List K)):Nat:=(ks.map λk=>k.length+1).sum+1
variable{knd}
theorem iI.inj{h:cX}:∀{x y:List (List K)}{vs:List aj},iI knd h x vs->iI knd h y vs->x=y
 |_,_,_,.nil,.nil=>rfl|_,_,_,.cons h1 t1,.cons h2 t2=>by rw[h1.inj h2,iI.inj t1 t2]
theorem gk.typeIs{s:aA}{ks:List (List K)}{a:ah}(x:gk knd s.heap ks a):s.TypeIs (.ref a) "tuple":=let⟨o,_,_,ho,hc,_⟩:=x;⟨o,ho,hc⟩
theorem gk.inj{h:cX}{a:ah}{x y:List (List K)}(hx:gk knd h x a)(hy:gk knd h y a):x=y:=by obtain⟨o,items,n,ho,_,hd,hi⟩:=hx;obtain⟨o',ajV,n',zH,_,Ai,ZW⟩:=hy;obtain rfl:o=o':=ax (ho.symm.trans zH);rw[hd]at Ai;injection Ai with h1 _;subst h1;exact hi.inj ZW
theorem iI.keeps{h h':cX}{d:ah}{o:gS}{es ep}(ho:h.get? d=some o)(hd:o.data= .dict es ep)(hs:df d h h'):∀{ks:List (List K)}{vs:List aj},iI knd h ks vs->iI knd h' ks vs
 |_,_,.nil=> .nil|_,_,.cons h1 t=> .cons (h1.keeps ho hd hs) (iI.keeps ho hd hs t)
theorem gk.keeps{h h':cX}{ks:List (List K)}{a d:ah}{o:gS}{es ep}(x:gk knd h ks a)(ho:h.get? d=some o)(hd:o.data= .dict es ep)(hs:df d h h'):gk knd h' ks a:=by
 obtain⟨o',items,n,zH,hc,Ai,hi⟩:=x;have j8:a≠d:=by rintro rfl;obtain rfl:o'=o:=ax (zH.symm.trans ho);rw[hd]at Ai;exact nomatch Ai
 exact⟨o',items,n,(hs.2 a j8).trans zH,hc,Ai,hi.keeps ho hd hs⟩
variable{A:cT}{E:aj->aA->Prop}{s:aA}
theorem HZ{ks:List (List K)}{a:ah}{Q:Int->aA->Prop}(hu:A.units+1<iw)(hk:gk knd s.heap ks a)(h:Q (BB knd ks) {s with toks:=s.toks+yz ks}):aX (bA prog w) A (pyHash (.ref a)) Q E s:=by
 have hT:=hk.typeIs;obtain⟨o,items,n,ho,_,hd,hi⟩:=hk;unfold pyHash;unfold pyHashByItsType;refine ae (wpAny_cRoomFor_or (.inr (by omega)) ?_);refine ae (fT hT sU.lookup ?_);show aX _ _ (if(some (wA "tuple.__hash__")==some dI)=true then _ else _) Q E s;rw[if_neg (by rw[ahI];exact bn)];refine ae (fT hT sU.lookup ?_);show aX _ _ (callSpecialIfBoundUnlessNone? (.ref a) "__hash__" _>>=_) Q E s;refine ae (wpAny_callSpecialIfBoundUnlessNone?_slot hT sU (eG sU hT F.entry_tuple_hash ?_ (F.args_tuple_hash_1 _)));show aX _ _ (ahJ (.ref a)>>=_) _ _ s;refine ae (CP ho hd ?_);refine ae ?_;rw[<-pL];refine wpAny_forIn_list _
  (λdB (b:Array Int) s'=>∃done left,ks=done++left/\iI knd s.heap left dB/\b.toList=done.map (gn knd)/\s'={s with toks:=s.toks+(done.map λk=>k.length+1).sum})
  _ ?_ ?_ _ _ ⟨[],ks,rfl,hi,rfl,rfl⟩
 ·rintro x dB b s' ⟨done,left,rfl,hl,hb,rfl⟩;cases hl with|@cons k c QG _ h1 OH=>refine ae (wpAny_pyHash_tuple (ks:=k) (show A.in1.units<iw from hu) h1 ?_);exact au ⟨done++[k],QG,by simp,OH,by simp[hb],by simp[J3]⟩
 ·rintro b s' ⟨done,left,rfl,hl,hb,rfl⟩;cases hl;rw[cz]at h;show aX _ _ (retInt (eP b.toList)) _ _ _;rw[hb];refine wpAny_ret_mkInt ?_;show aX _ _ (if(decide (-(2:Int)^63<=eP (done.map (gn knd)))&&decide (eP (done.map (gn knd))<2^63))=true then _ else _) Q E _;unfold BB CO at h;unfold yz at h;by_cases hr:(decide (-(2:Int)^63<=eP (done.map (gn knd)))&&decide (eP (done.map (gn knd))<2^63))=true
  ·rw[if_pos hr];rw[if_pos hr]at h;exact au (by simpa[J3]using h)
  ·rw[if_neg hr];rw[if_neg hr]at h;exact ae (iW (au (by simpa[J3]using h)))
theorem Fl{x y:List (List K)}{a b:ah}{P:Fin->aA->Prop}(hu:A.units<iw)(hx:gk knd s.heap x a)(hy:gk knd s.heap y b)(h:P (.done (.ret (.bool (decide (x=y))))) s):aX (bA prog w) A (Builtin.«tuple.__eq__» ⟨[.ref a,.ref b],[]⟩) P E s:=by
 have hTb:=hy.typeIs;obtain⟨oa,xs,na,hoa,_,hda,hia⟩:=hx;obtain⟨ob,ys,nb,hob,_,H_,hib⟩:=hy;show aX _ _ (Mh (.ref b) (.type "tuple")>>=_) _ _ s;refine ae (gO hTb yc ?_);simp only[ko,cB,if_false];refine ae (CP hoa hda ?_);refine ae (CP hob H_ ?_);refine ae ?_;refine wpAny_forIn_list _
  (λdB r s'=>r.1=none/\s'=s/\∃x' y' xs' ys',dB=List.zip xs' ys'/\iI knd s.heap x' xs'/\iI knd s.heap y' ys'/\decide (x'=y')=decide (x=y)/\(xs'.length==ys'.length)=(xs.size==ys.size))
  _ ?_ ?_ _ _ ⟨rfl,rfl,x,y,xs.toList,ys.toList,rfl,hia,hib,rfl,by simp⟩
 ·rintro⟨u,v⟩ dB r s' ⟨hr,rfl,x',y',xs',ys',hz,Dl,RJ,yA,dX⟩;cases Dl with
  |nil=>simp at hz|@cons k1 u' x'' ajX h1 ajY=>
   cases RJ with
   |nil=>simp at hz|@cons k2 v' y'' ajZ h2 aj0=>
    simp only[mx,List.cons.injEq,Prod.mk.injEq]at hz;obtain⟨⟨rfl,rfl⟩,rfl⟩:=hz;refine ae (wpAny_eqBool_tuple (x:=k1) (y:=k2) hu h1 h2 ?_);by_cases hk:k1=k2
    ·subst hk;rw[decide_eq_true rfl];simp only[ko,cB,if_false];refine au ⟨rfl,rfl,x'',y'',ajX,ajZ,rfl,ajY,aj0,?_,by simpa using dX⟩;rw[<-yA];by_cases hxy:x''=y''
     ·simp[hxy]
     ·simp[hxy]
    ·rw[decide_eq_false hk];simp only[ZD,if_true];have hf:decide (x=y)=false:=by rw[<-yA];simp[hk]
     rw[hf]at h;exact ae (au (au (au h)))
 ·rintro⟨r1,r2⟩ s' ⟨hr,rfl,x',y',xs',ys',hz,Dl,RJ,yA,dX⟩;simp only at hr;subst hr;refine au ?_;have aj2:(xs.size==ys.size)=decide (x=y):=by
   rw[<-yA,<-dX];cases Dl with
   |nil=>
    cases RJ with|nil=>simp|cons _ _=>simp
   |cons _ _=>
    cases RJ with|nil=>simp|cons _ _=>simp at hz
  show P (.done (.ret (.bool (xs.size==ys.size)))) s';rw[aj2];exact h
theorem Ia{x y:List (List K)}{a b:ah}{Q:Bool->aA->Prop}(hu:A.units+1<iw)(hx:gk knd s.heap x a)(hy:gk knd s.heap y b)(h:Q (decide (x=y)) s):aX (bA prog w) A (eqBool (.ref a) (.ref b)) Q E s:=by
 unfold eqBool
 try with_reducible refine dP ?_
 show aX _ _ (if(aY a==aY b)=true then _ else _) Q E s;by_cases ZU:(aY a==aY b)=true
 ·rw[if_pos ZU];have e:a=b:=by have:=iL ZU;injection this
  subst e;obtain rfl:=hx.inj hy;exact ae (iW (au (by simpa using h)))
 ·rw[if_neg ZU];exact ae (wpAny_richCompare_same_room (op:= .Eq) hx.typeIs hy.typeIs pM (eG pM hx.typeIs F.entry_tuple_eq (Fl (show A.in1.units<iw from hu) hx hy ⟨_,rfl,(λe=>nomatch e),cR h⟩) (F.args_tuple_eq_2 _ _)) (by omega))
theorem OI{n:Nat}{ks:List K}{a:ah}{Q:Bool->aA->Prop}(hk:IsTupleKey knd s.heap ks a)(h:Q true s):aX (bA prog w) A (QU (n+1) (.ref a)) Q E s:=by
 have hT:=hk.typeIs;obtain⟨o,items,m,ho,_,hd,hi⟩:=hk;unfold QU;refine ae (fT hT pM.lookup ?_);show aX _ _ (Mh (.ref a) (.type "tuple")>>=_) _ _ s;refine ae (gO hT yc ?_);simp only[ko,cB,if_false];refine ae (j2 ho hd ?_);refine ae ?_;show aX _ _ (forIn items _ _) _ _ s;rw[<-pL];refine wpAny_forIn_list _ (λdB r s'=>r.1=none/\s'=s/\∀v∈dB,carriedByValue v=true) _ ?_ ?_ _ _ ⟨rfl,rfl,hi.byValue⟩
 ·rintro v dB r s' ⟨hr,rfl,pF⟩;rw[eqIsQuiet_byValue _ (pF v aC)];refine ae (au ?_);simp only[ko,cB,if_false];exact au ⟨rfl,rfl,λu ma=>pF u (az _ ma)⟩
 ·rintro⟨r1,r2⟩ s' ⟨hr,rfl,_⟩;simp only at hr;subst hr;exact au h
theorem Kz{ks:List (List K)}{a:ah}{Q:Bool->aA->Prop}(hk:gk knd s.heap ks a)(h:Q true s):aX (bA prog w) A (QU 8 (.ref a)) Q E s:=by
 have hT:=hk.typeIs;obtain⟨o,items,m,ho,_,hd,hi⟩:=hk;unfold QU;refine ae (fT hT pM.lookup ?_);show aX _ _ (Mh (.ref a) (.type "tuple")>>=_) _ _ s;refine ae (gO hT yc ?_);simp only[ko,cB,if_false];refine ae (j2 ho hd ?_);refine ae ?_;show aX _ _ (forIn items _ _) _ _ s;rw[<-pL];refine wpAny_forIn_list _ (λdB r s'=>r.1=none/\s'=s/\∃QG,iI knd s.heap QG dB) _ ?_ ?_ _ _ ⟨rfl,rfl,ks,hi⟩
 ·rintro v dB r s' ⟨hr,rfl,QG,pF⟩;cases pF with|cons h1 ht=>refine ae (OI h1 ?_);simp only[ko,cB,if_false];exact au ⟨rfl,rfl,_,ht⟩
 ·rintro⟨r1,r2⟩ s' ⟨hr,rfl,_⟩;simp only at hr;subst hr;exact au h
end
def RK{prog:a7}{w:bP}{K:Type}[DecidableEq K](knd:KeyKind prog w K):X7 prog w (List (List K)) where
 is:=gk knd
 hash:=BB knd
 draws:=yz
 room:= λA=>A.units+1<iw
 inj:= λhx hy=>hx.inj hy
 keeps:= λx ho hd hs=>x.keeps ho hd hs
 pyHash:= λhu hk h=>HZ hu hk h
 eqBool:= λhu hx hy h=>Ia hu hx hy h
 quiet:= λhk h=>Kz hk h
section
variable{prog:a7}{w:bP}{K:Type}[DecidableEq K]{knd:X7 prog w K}{A:cT}{E:aj->aA->Prop}{s:aA}
theorem Aj{d a:ah}{xs:List (K×ah×aj)}{k:K}{v:aj}{Q:aj->aA->Prop}(hu:knd.room A)(rS:knd.is s.heap k a)(hm:s.heap.DictOfH knd d xs)(hz:xs.length<=al)(hQ1:∀p,j3 xs k=some p->Q p.2 {s with toks:=s.toks+knd.draws k})(hQ2:j3 xs k=none->∀h',h'.DictOfH knd d (pA xs k a v)->df d s.heap h'->Q v {s with heap:=h',toks:=s.toks+knd.draws k}):aX (bA prog w) A (oh d (.ref a) v) Q E s:=by
 obtain⟨o,es,ep,ho,hc,hd,he,V7,hn⟩:=hm;unfold oh;refine dP (ae (knd.pyHash hu rS (ae (ZE (s:={s with toks:=s.toks+knd.draws k}) hu rS ho hd he V7 hn (λVo=>?_) (λj p hj=>?_)))))
 ·have OJ:k∉xs.map (·.1):=ZF Vo;have hat:=ad3 Vo;have qJ:=ze hat a v;refine ae (iW (ae (zf (hz:=by have e:=m8 he;omega) (s:={s with toks:=s.toks+knd.draws k}) ho hd (au (hQ2 hat _ ⟨_,_,ep+1,cu _ ho (lS (fU hd _)),hc.mapDictKeys _,fU hd _,?_,?_,?_⟩ (cy ..))))))
  ·rw[qJ];simp[he,ij]
  ·rw[qJ];intro x hx;rcases bC.mp hx with hx|hx
   ·exact knd.keeps (V7 x hx) ho hd (cy ..)
   ·cases my.mp hx;exact knd.keeps rS ho hd (cy ..)
  ·rw[qJ,aK,f_];exact⟨hn,by simp,λx hx y hy e=>OJ (by
    have:y=k:=by simpa using hy
    rw[<-this,<-e];exact hx)⟩
 ·refine ae (dL (s:={s with toks:=s.toks+knd.draws k}) ho hd ?_);rw[entry_at he j,hj];exact ae (iW (au (hQ1 p (atKey_of_get hn hj))))
theorem wZ(d a:ah)(hd:(d==db)=false)(J4:aj):U_ prog w (Builtin.«dict.setdefault» ⟨[.ref d,.ref a,J4],[]⟩) (λA R s=>knd.room A.in1/\∃k xs,knd.is s.heap k a/\s.heap.DictOfH knd d xs/\xs.length<=al/\(∀p,j3 xs k=some p->R (.ok (.ret p.2)) {s with toks:=s.toks+knd.draws k})/\(j3 xs k=none->∀h',h'.DictOfH knd d (pA xs k a J4)->df d s.heap h'->R (.ok (.ret J4)) {s with heap:=h',toks:=s.toks+knd.draws k})):= .of_wp λA R s ⟨hu,k,xs,rS,hm,hz,h1,h2⟩=>by unfold Builtin.«dict.setdefault» yj;refine ae (ae (lz hm.typeIs ?_));show aX _ _ (i4 (d,aY a,some J4)) _ _ s;refine au ?_;show aX _ _ (if(d==db)=true then _ else(oh d (.ref a) J4>>=_)) _ _ s;rw[if_neg (by rw[hd];simp)];exact ae (Aj hu rS hm hz (λp hp=>au ⟨p.2,rfl,h1 p hp⟩) λhn h' HP KA=>au ⟨J4,rfl,h2 hn h' HP KA⟩)
end
section
variable{prog:a7}{w:bP}{K:Type}[DecidableEq K]{knd:X7 prog w K}{A:cT}{E:aj->aA->Prop}{s:aA}
def j9(xs more:List (K×ah×aj)):List (K×ah×aj):=more.foldl (λacc x=>pA acc x.1 x.2.1 x.2.2) xs
theorem Fm(xs more:List (K×ah×aj))(i:Nat)(x:K×ah×aj)(h:more[i]? =some x):j9 xs (more.take (i+1))=pA (j9 xs (more.take i)) x.1 x.2.1 x.2.2:=by simp[j9,bQ,h,rc]
theorem Ib(xs:List (K×ah×aj))(k:K)(a:ah)(v:aj):(pA xs k a v).length<=xs.length+1:=by unfold pA;split<;>simp
theorem Ic(xs more:List (K×ah×aj)):(j9 xs more).length<=xs.length+more.length:=by
 induction more generalizing xs with|nil=>simp[j9]|cons x dB ih=>have e1:=ih (pA xs x.1 x.2.1 x.2.2);have e2:=Ib xs x.1 x.2.1 x.2.2;rw[aZ];show(j9 (pA xs x.1 x.2.1 x.2.2) dB).length<=_;omega
theorem BC{xs:List (K×ah×aj)}{k:K}:j3 xs k=none↔k∉xs.map (·.1):=by
 unfold j3;rw[fZ,gC];constructor
 ·intro h hm;obtain⟨x,hx,e⟩:=aQ.mp hm;exact h x hx (by simp[e])
 ·intro h x hx e;exact h (aQ.mpr ⟨x,hx,of_decide_eq_true e⟩)
theorem zI(xs more:List (K×ah×aj))(hn:((xs++more).map (·.1)).Nodup):j9 xs more=xs++more:=by
 induction more generalizing xs with
 |nil=>simp[j9]|cons x dB ih=>
  have hx:j3 xs x.1=none:=by rw[BC];intro hm;rw[aK,aS,f_]at hn;exact hn.2.2 _ hm _ (aC ..) rfl
  show j9 (pA xs x.1 x.2.1 x.2.2) dB=_;rw[ze hx,ih _ (by simpa using hn)];simp
theorem BD{d a:ah}{xs:List (K×ah×aj)}{k:K}{v:aj}{Q:Unit->aA->Prop}(hu:knd.room A)(rS:knd.is s.heap k a)(hm:s.heap.DictOfH knd d xs)(hQ:∀h',h'.DictOfH knd d (pA xs k a v)->df d s.heap h'->Q () {s with heap:=h'})(hz:xs.length<=al):aX (bA prog w) A (Qy d (.ref a) (knd.hash k) v) Q E s:=by
 obtain⟨o,es,ep,ho,hc,hd,he,V7,hn⟩:=hm;unfold Qy;refine dP (ae (ZE hu rS ho hd he V7 hn (λVo=>?_) (λj p hj=>?_)))
 ·have OJ:k∉xs.map (·.1):=ZF Vo;have qJ:=ze (ad3 Vo) a v;refine ae (iW (zf (hz:=by have e:=m8 he;omega) ho hd (hQ _ ⟨_,_,ep+1,cu _ ho (lS (fU hd _)),hc.mapDictKeys _,fU hd _,?_,?_,?_⟩ (cy ..))))
  ·rw[qJ];simp[he,ij]
  ·rw[qJ];intro x hx;rcases bC.mp hx with hx|hx
   ·exact knd.keeps (V7 x hx) ho hd (cy ..)
   ·cases my.mp hx;exact knd.keeps rS ho hd (cy ..)
  ·rw[qJ,aK,f_];exact⟨hn,by simp,λx hx y hy e=>OJ (by
    have:y=k:=by simpa using hy
    rw[<-this,<-e];exact hx)⟩
 ·have qJ:=storedH_old (atKey_of_get hn hj) a v;refine ae (iW (ae (wpAny_updateDict ho hd (wpAny_point (hQ _ ⟨_,_,ep,cu _ ho (lS (X8 hd _)),hc.mapDict _,X8 hd _,?_,?_,?_⟩ (cy ..))))))
  ·rw[qJ];have q:=modify_map_putAt (ij knd) (λe:fP=>{e with val:=v}) k v (λ_ _=>rfl) hn hj;rw[<-he]at q;obtain⟨l⟩:=es;simpa using q
  ·rw[qJ];intro x hx;obtain⟨y,hy,rfl⟩:=aQ.mp hx;unfold putAt;split<;>exact knd.keeps (V7 y hy) ho hd (cy ..)
  ·rw[qJ,keys_map_putAt];exact hn
theorem t_{id:String}{d:ah}{o:gS}{es ep}{xs:List (K×ah×aj)}{Q:Array fP->aA->Prop}(ho:s.heap.get? d=some o)(hd:o.data= .dict es ep)(he:es.toList=xs.map (ij knd))(hh:(xs.map λx=>knd.hash x.1).Nodup)(hT:∀x∈xs,s.TypeIs (.ref x.2.1) "tuple")(h:Q es s):aX (bA prog w) A (wB id d) Q E s:=by
 unfold wB;refine ae (dL ho hd (ae ?_));rw[<-pL];refine wpAny_forIn_list _ (λdB _ s'=>s'=s/\∀e∈dB,e∈es.toList) _ ?_ ?_ _ _ ⟨rfl,λ_ q=>q⟩
 ·rintro e dB u s' ⟨rfl,hr⟩;have Fn:=hr e (aC ..);have aer:=Fn;rw[he]at aer;obtain⟨x,hx,rfl⟩:=aQ.mp aer;refine ae ?_;show aX _ _ (do return(<-specialOf (aY x.2.1) "__eq__")==some (.builtin "object.__eq__")) _ _ _;refine ae (fT (hT x hx) pM.lookup (au ?_));have j8:(some (wA "tuple.__eq__")==some (wA "object.__eq__"))=false:=by decide
  rw[j8];simp only[ZD,if_true];have Yi:(es.filter (·.hash==(ij knd x).hash)).size<=1:=by
   have e1:(es.filter (·.hash==(ij knd x).hash)).size=((xs.map (ij knd)).filter (·.hash==(ij knd x).hash)).length:=by rw[<-he,<-cY,Array.toList_filter]
   rw[e1];have key:∀(l:List (K×ah×aj))(z:Int),(l.map λx=>knd.hash x.1).Nodup->((l.map (ij knd)).filter (·.hash==z)).length<=1:=by
    intro l z;induction l with
    |nil=>intro _;simp|cons y l ih=>
     intro hl;rw[aS,oU]at hl;rw[aS,eB];split
     ·rename_i hy;have RJ:knd.hash y.1=z:=by simpa[ij]using hy
      have:((l.map (ij knd)).filter (·.hash==z))=[]:=by
       rw[m7];intro e hem hez;obtain⟨q,hq,rfl⟩:=aQ.mp hem;have hqz:knd.hash q.1=z:=by simpa[ij]using hez
       exact hl.1 (aQ.mpr ⟨q,hq,by rw[hqz,RJ]⟩)
      rw[this];simp
     ·exact ih hl.2
   exact key xs _ hh
  rw[if_neg (by omega)];exact au ⟨rfl,λe' V8=>hr e' (az _ V8)⟩
 ·rintro u s' ⟨rfl,_⟩;exact au h
theorem BE{nm:String}{d o:ah}{xs more:List (K×ah×aj)}{Q:Unit->aA->Prop}(hu:knd.room A)(hdo:d≠o)(hoS:(o==db)=false)(hd:s.heap.DictOfH knd d xs)(ho:s.heap.DictOfH knd o more)(hh:(more.map λx=>knd.hash x.1).Nodup)(hT:∀x∈more,s.TypeIs (.ref x.2.1) "tuple")(hQ:∀h',h'.DictOfH knd d (j9 xs more)->df d s.heap h'->Q () {s with heap:=h'})(hz:xs.length+more.length<=al):aX (bA prog w) A (A4 nm d o) Q E s:=by
 obtain⟨od,esd,epd,Ak,RL,wv,hed,apx,Z2⟩:=id hd;obtain⟨oo,MC,epo,hoo,hco,OK,RM,aet,Vo⟩:=id ho;have dX:MC.size=more.length:=m8 RM;unfold A4 jt;rw[if_neg (by simpa using hdo),if_neg (by rw[hoS];simp)];refine ae (au (ae (dL hoo OK ?_)));have RN:∀{R:QV Unit},R=(do
  let aeu<-dictEpoch o;let l<-dictEntries o
  forIn [:l.size] DX λi (_:PUnit)=>(do
   let l'<-dictEntries o
   match l'[i]? with
    |some e=>do
     re [e.key,e.val] (Qy d e.key e.hash e.val)
     let Vp<-dictEpoch o
     if(Vp !=aeu)=true then do
      (unsupported (k9 nm++k9 ":source-changed-during-callback"):QV PUnit)
      i4 (jE DX)
      else i4 (jE DX)
    |_=>do
     (unsupported "internal:dict-merge":QV PUnit)
     i4 (jE DX):QV (ForInStep PUnit))
  i4 ())->aX (bA prog w) A R Q E s:=by
  rintro R rfl;refine ae (jf hoo OK (ae (dL hoo OK (ae ?_))));rw[ZG];simp only[ZH,pK,zj,Nat.div_one];refine wpAny_forIn_list _
   (λdB _ s'=>∃h' i,s'={s with heap:=h'}/\dB=d4 i (MC.size-i)/\i<=MC.size/\h'.DictOfH knd d (j9 xs (more.take i))/\h'.get? o=some oo/\df d s.heap h')
   _ ?_ ?_ _ _ ⟨s.heap,0,rfl,by simp,bj _,by simpa[j9]using hd,hoo,GZ _ _⟩
  ·rintro x dB u s' ⟨h',i,rfl,hr,hi,Ai,Z3,KA⟩;have f8:i<MC.size:=by
    rcases Mf i MC.size with q|q
    ·exact q
    ·rw[Nat.sub_eq_zero_of_le q]at hr;simp at hr
   have Bb:=hr;rw[show MC.size-i=(MC.size-(i+1))+1 by omega,sS]at Bb;injection Bb with e1 e2;subst e1;obtain⟨⟨k,b,v⟩,CW⟩:∃y,more[x]? =some y:=⟨more[x]'(by rw[<-dX];exact f8),ay _⟩;have hex:MC[x]? =some ⟨knd.hash k,.ref b,v⟩:=by rw[entry_at RM x,CW];rfl
   refine ae (dL Z3 OK ?_);rw[hex];have hib:knd.is h' k b:=knd.keeps (aet _ (aG CW)) Ak wv KA;have hmx:(j9 xs (more.take x)).length<=al:=by
    have q1:=Ic xs (more.take x);have q2:(more.take x).length<=more.length:=by rw[a4];omega
    omega
   refine ae (dP (BD (s:={s with heap:=h'}) hu hib Ai (λAl aj5 aev=>?_) hmx));have Yj:Al.get? o=some oo:=(aev.2 o (iN hdo)).trans Z3;refine ae (jf Yj OK ?_);rw[if_neg (by simp)];exact au ⟨Al,x+1,rfl,e2,f8,by rw[Fm xs more x (k,b,v) CW];exact aj5,Yj,KA.trans aev⟩
  ·rintro u s' ⟨h',i,rfl,hr,hi,Ai,Z3,KA⟩;have Fn:i=MC.size:=by
    rcases Mf i MC.size with q|q
    ·rw[show MC.size-i=(MC.size-(i+1))+1 by omega,sS]at hr;exact nomatch hr
    ·exact Nat.le_antisymm hi q
   refine au (hQ h' ?_ KA);rw[Fn,dX,a8]at Ai;exact Ai
 dsimp only;split
 ·refine ae (dL Ak wv ?_);split
  ·rename_i aj6;have hx0:xs=[]:=by have h0:esd= #[]:=QW.mp aj6;have q:=m8 hed;rw[h0]at q;exact sV.mp (by simpa using q.symm)
   subst hx0;refine ae (t_ (knd:=knd) hoo OK RM hh hT ?_);rw[zI [] more (by simpa using Vo)]at hQ;split
   ·have ZX:MC.size<=al+1:=by simp only[g0,pJ]at hz;omega
    refine ae (wpAny_updateDictKeysTo Ak wv (au (hQ _ ⟨_,_,epd+1,cu _ Ak (lS (fU wv _)),RL.mapDictKeys _,fU wv _,by simpa using RM,λx hx=>knd.keeps (aet x (by simpa using hx)) Ak wv (cy ..),by simpa using Vo⟩ (cy ..))) ZX)
   ·rename_i j8;have h0:MC= #[]:=QW.mp (by simpa using j8);have hm0:more=[]:=sV.mp (by rw[<-dX,h0];rfl);subst hm0;exact au (hQ _ hd (GZ _ _))
  ·exact RN rfl
 ·exact RN rfl
theorem Dm(d o:ah)(hdo:d≠o)(hoS:(o==db)=false):U_ prog w (Builtin.«dict.update» ⟨[.ref d,.ref o],[]⟩) (λA R s=>knd.room A.in1/\∃xs more,s.heap.DictOfH knd d xs/\s.heap.DictOfH knd o more/\(more.map λx=>knd.hash x.1).Nodup/\(∀x∈more,s.TypeIs (.ref x.2.1) "tuple")/\xs.length+more.length<=al/\∀h',h'.DictOfH knd d (j9 xs more)->df d s.heap h'->R (.ok (.ret .none)) {s with heap:=h'}):= .of_wp λA R s ⟨hu,xs,more,hd,ho,hh,hT,hz,h⟩=>by unfold Builtin.«dict.update» ajl;refine ae (ae (lz hd.typeIs ?_));show aX _ _ (i4 (d,[aY o])) _ _ s;refine au ?_;show aX _ _ (AF "dict.update" d (.ref o) [] .none) _ _ s;unfold AF;refine ae (U' ho.typeIs ?_);rw[if_neg (by decide)];unfold ajm ajn;refine ae (ae (ae (gO ho.typeIs ZI ?_)));simp only[ko,cB,if_false];refine ae (fT ho.typeIs DY.lookup (au ?_));simp only[beq_self_eq_true,if_true];refine ae (au ?_);refine BE hu hdo hoS hd ho hh hT (λh' Ai KA=>?_) hz;show aX _ _ (ajo d []>>=_) _ _ _;exact ae (au (au ⟨.none,rfl,h h' Ai KA⟩))
end
section
variable{prog:a7}{w:bP}{A:cT}{E:aj->aA->Prop}{s:aA}
theorem Am(d:ah)(hd:(d==db)=false):U_ prog w (Builtin.«dict.items» ⟨[.ref d],[]⟩) (λ_ R s=>s.TypeIs (.ref d) "dict"/\R (.ok (.ret (.ref s.heap.objs.size))) {s with heap:=s.heap.push {cls:= .type "dict_items",data:= .fields #[.ref d]}}):= .of_wp λA R s ⟨hT,h⟩=>by unfold Builtin.«dict.items» ajp;refine ae (ae (lz hT ?_));show aX _ _ (i4 d) _ _ s;refine au ?_;show aX _ _ (jt d>>=_) _ _ s;unfold jt;rw[if_neg (by rw[hd];simp)];exact ae (au (ae (dz (au ⟨_,rfl,h⟩))))
theorem BF{v d:ah}{o:gS}{es:Array fP}{ep:Nat}{Q:aj->aA->Prop}(hv:s.heap.IsItemsView v d)(ho:s.heap.get? d=some o)(RO:o.data= .dict es ep)(hQ:Q (.ref s.heap.objs.size) {s with heap:=s.heap.push {cls:= .type "dict_itemiterator",data:= .fields #[.none,.bool false,.ref d,.int 0 0,.int es.size 0,.int ep 0,.none,.none]}}):aX (bA prog w) A (zk (.ref v)) Q E s:=by
 obtain⟨ov,hov,hcv,hdv⟩:=id hv;refine DZ hv.typeIs Qz (eG Qz hv.typeIs F.entry_dict_items_iter ?_ (F.args_dict_items_iter_1 _));unfold Builtin.«dict_items.__iter__» VH VI;refine ae (au (ae (ae (lT hov hdv (x:= .ref d) rfl (au ?_)))));refine ae (ae (dL ho RO (ae (jf ho RO ?_))));simp only[show gg "dict_itemiterator"=true by decide,if_true];refine dz (au ⟨_,rfl,"dict_itemiterator",_,⟨_,ba _ rfl,rfl⟩,gW.lookup,?_⟩)
  (by simp only[sizeOk,qE,a9,aw,aZ,g0,bR];omega)
 simpa[pi,qE]using hQ
theorem Dn{it d:ah}{i n ep:Nat}{od:gS}{es:Array fP}{en:fP}{ok ov:aj}{Q:Option aj->aA->Prop}(jx:pj s.heap it d i n ep ok ov)(Ak:s.heap.get? d=some od)(wv:od.data= .dict es ep)(hsz:es.size=n)(hx:es[i]? =some en)(hQ:∀h',QA h' it d (i+1) n ep en.key en.val s.heap.objs.size->h'.get? s.heap.objs.size=some {cls:= .type "tuple",data:= .seq #[en.key,en.val]}->(∀b o,b≠it->s.heap.get? b=some o->h'.get? b=some o)->Q (some (.ref s.heap.objs.size)) {s with heap:=h'}):aX (bA prog w) A (jF (.ref it)) Q E s:=by
 obtain⟨hp,g,dr,tk,os⟩:=s;have hT:ET ⟨hp,g,dr,tk,os⟩ (.ref it) "dict_itemiterator":=⟨_,jx,rfl⟩;have KC:gg "dict_itemiterator"=true:=by decide
 obtain⟨f8,hen⟩:=pN.mp hx;unfold jF;refine ae (mX (h_ (name:=eJ "__next__") hT gW (eG gW hT D0 ?_ (C2 _))));refine ae (au (ae (ae ?_)))
 first|refine ae (j4 hT (au (ae (oi jx rfl ?_))))|refine ae (mz hT (au (ae (oi jx rfl ?_))))
 simp only[KC,if_true];show aX _ _ (if(aY d==dI)=true then _ else _) _ _ _;rw[if_neg (show¬((aY d==dI)=true) by intro z;cases z)];refine ae (au (ae (dL Ak wv ?_)));rw[if_neg (by rw[hsz];simp)];refine ae (au (ae (jf Ak wv ?_)));rw[if_neg (by simp)];refine au ?_;simp only[show¬((i:Int)<0) by omega,if_false,i5,lA f8];refine ae ?_
 first|refine ae (j4 hT (au (ae (oj hT ?_))))|refine ae (mz hT (au (ae (oj hT ?_))))
 show aX _ _ (zo (.ref it) 3 (pi ((i:Int)+1))>>=_) _ _ ⟨hp,g,dr,tk,os⟩;refine ae (kM jx (by simp) λh1 V9 Z4=>?_);replace Z4:df it hp h1:=Z4;replace V9:pj h1 it d (i+1) n ep ok ov:=by unfold pj;rw[show((i+1:Nat):Int)=(i:Int)+1 by omega];simpa[pi]using V9
 have hT1:ET ⟨h1,g,dr,tk,os⟩ (.ref it) "dict_itemiterator":=⟨_,V9,rfl⟩;refine ae (dP (ae (oj hT1 (ae (oj hT1 ?_)))));show aX _ _ (rA (.ref it) 6 es[i].key es[i].val) _ _ ⟨h1,g,dr,tk,os⟩;rw[hen];unfold rA;refine ae (wpAny_newTuple ?_);have Yk:pj (h1.push {cls:= .type "tuple",data:= .seq #[en.key,en.val]}) it d (i+1) n ep ok ov:=aI _ V9;have hz1:h1.objs.size=hp.objs.size:=Z4.1;have Yl:it<hp.objs.size:=bw jx;have hni:hp.objs.size≠it:=pO Yl;generalize RP:h1.push {cls:= .type "tuple",data:= .seq #[en.key,en.val]}=h2 at Yk;have V_:h2.get? hp.objs.size=some {cls:= .type "tuple",data:= .seq #[en.key,en.val]}:=by rw[<-RP,<-hz1];exact ba _ rfl
 have Vq:∀b o,b≠it->hp.get? b=some o->h2.get? b=some o:= λb o hb e=>by rw[<-RP];exact aI _ (Z4.extBut b o hb e)
 show aX _ _ (qF (.ref it)>>=_) _ _ ⟨h2,g,dr,tk,os⟩;rw[hz1];clear RP V9 Z4 hT1 hz1 h1;unfold qF;refine ae (ae (lT Yk rfl (x:= .none) rfl (au ?_)));simp only[if_true];refine ae (lT Yk rfl (x:=ok) rfl (ae (lT Yk rfl (x:=ov) rfl ?_)));refine ae (kM Yk (by simp) λh3 he3 hs3=>?_);replace hs3:df it h2 h3:=hs3;replace he3:pj h3 it d (i+1) n ep en.key ov:=he3;refine ae (kM he3 (by simp) λh4 he4 hs4=>?_);replace hs4:df it h3 h4:=hs4;replace he4:pj h4 it d (i+1) n ep en.key en.val:=he4;refine ae (kM he4 (by simp) λh5 he5 hs5=>?_);replace hs5:df it h4 h5:=hs5;replace he5:QA h5 it d (i+1) n ep en.key en.val hp.objs.size:=he5;refine ae (kM he5 (by simp) λh6 he6 hs6=>?_);replace hs6:df it h5 h6:=hs6;replace he6:QA h6 it d (i+1) n ep en.key en.val hp.objs.size:=he6;have keep:∀b o,b≠it->h2.get? b=some o->h6.get? b=some o:= λb o hb e=>hs6.extBut b o hb (hs5.extBut b o hb (hs4.extBut b o hb (hs3.extBut b o hb e)));exact ae (lU (au (au ⟨_,rfl,au (hQ h6 he6 (keep _ _ hni V_) λb o hb e=>keep b o hb (Vq b o hb e))⟩)))
theorem vQ{it d:ah}{i n ep:Nat}{od:gS}{es:Array fP}{ok ov:aj}{Q:Option aj->aA->Prop}(hh:A.handled=none)(jx:pj s.heap it d i n ep ok ov)(Ak:s.heap.get? d=some od)(wv:od.data= .dict es ep)(hsz:es.size=n)(hge:n<=i)(hQ:∀h',Oa it s.heap h'->Q none {s with heap:=h'}):aX (bA prog w) A (jF (.ref it)) Q E s:=by
 have hT:s.TypeIs (.ref it) "dict_itemiterator":=⟨_,jx,rfl⟩;have KC:gg "dict_itemiterator"=true:=by decide
 unfold jF;refine ae (mX (h_ (name:=eJ "__next__") hT gW (eG gW hT D0 ?_ (C2 _))));refine ae (au (ae (ae ?_)))
 first|refine ae (j4 hT (au (ae (oi jx rfl ?_))))|refine ae (mz hT (au (ae (oi jx rfl ?_))))
 simp only[KC,if_true];show aX _ _ (if(aY d==dI)=true then _ else _) _ _ s;rw[if_neg (show¬((aY d==dI)=true) by intro z;cases z)];refine ae (au (ae (dL Ak wv ?_)));rw[if_neg (by rw[hsz];simp)];refine ae (au (ae (jf Ak wv ?_)));rw[if_neg (by simp)];refine au ?_;simp only[show¬((i:Int)<0) by omega,if_false,i5,J5 (show es.size<=i by omega)];refine ae ?_
 first|refine ae (j4 hT (au ?_))|refine ae (mz hT (au ?_))
 show aX _ _ (zo (.ref it) 2 .none>>=_) _ _ s;refine ae (sD jx rfl (by simp) ?_);show aX _ _ (Va (.type "StopIteration") []>>=_) _ _ _;refine ae ?_;simp only[Va,newTuple];refine ae (dz (ae (m:=ol _ _) (ji (a:=dI) (by first|rfl|(simp only[ol];rfl)) (dz ?_ (by size_fits)))) (by size_fits));simp only[raiseNew];refine ae (QB ?_);rw[show A.in1.handled=none from hh];refine ae (au (X9 (ae ?_)));refine gO (T:="StopIteration") (b:=true) ⟨_,ba _ rfl,rfl⟩ Mi ?_;exact au (hQ _ (((cy ..).extBut.push _).push _))
end
theorem Ie:Manifest.owners.lookup (String.ofList ['d','e','s','r','e','v','e','r'].reverse)=some Manifest.sig_reversed:=by kernel_rfl
theorem mL:Slot "reversed" "__next__" "reversed.__next__":= .of (owner:="reversed") (n:="__next__") (by rw[wC,oW];kernel_rfl) (by decide+kernel) (by decide+kernel) (by decide+kernel) (by first|exact .inl (by decide+kernel)|exact .inr (by decide+kernel)) (by rw[zp];kernel_rfl)
theorem vj:entryFor table "reversed.__next__"=some Builtin.«reversed.__next__»:=entryFor_of_tree (by kernel_rfl)
theorem w8(a:aj):G0 "reversed.__next__" ⟨[a],[]⟩:=by
 unfold G0;rw[signature?_of (id:="reversed.__next__") (n:=['_','_','t','x','e','n','_','_']) (o:=['d','e','s','r','e','v','e','r']) (by kernel_rfl) Ie]
 kernel_rfl
theorem w9:Slot "reversed" "__iter__" "reversed.__iter__":= .of (owner:="reversed") (n:="__iter__") (by rw[wC,oW];kernel_rfl) (by decide+kernel) (by decide+kernel) (by decide+kernel) (by first|exact .inl (by decide+kernel)|exact .inr (by decide+kernel)) (by rw[zp];kernel_rfl)
theorem Fo(a:aj):G0 "reversed.__iter__" ⟨[a],[]⟩:=by
 unfold G0;rw[signature?_of (id:="reversed.__iter__") (n:=['_','_','r','e','t','i','_','_']) (o:=['d','e','s','r','e','v','e','r']) (by kernel_rfl) Ie]
 kernel_rfl
theorem Do:entryFor table "reversed.__iter__"=some Builtin.«dict_keyiterator.__iter__»:=entryFor_alias (id':="dict_keyiterator.__iter__") (by kernel_rfl) (by first|rfl|decide+kernel|(unfold String.splitOn;simp+decide [String.splitOnAux])) (by decide+kernel) (by kernel_rfl)
theorem Fp:Slot "reversed" "__init__" "object.__init__":= .of (owner:="object") (n:="__init__") (by rw[wC,oW];kernel_rfl) (by decide+kernel) (by decide+kernel) (by decide+kernel) (by first|exact .inl (by decide+kernel)|exact .inr (by decide+kernel)) (by rw[zp];kernel_rfl)
theorem OL:TypeCalled "reversed" "reversed.__new__" "object.__init__":=⟨by decide+kernel,by decide+kernel,⟨_,_,F.mro_reversed⟩,F.made_reversed,F.plain_reversed_new,F.sub_reversed_self,Fp⟩
theorem BG:ac4 (.type "tuple") "__reversed__"=i4 none:=by rw[wC,oW];kernel_rfl
theorem An:isSubtype (.type "tuple") (.type "dict")=i4 false:=by rw[zp];kernel_rfl
def MD(t:ah)(i:Int):gS:={cls:= .type "reversed",data:= .fields #[.ref t,pi i]}
abbrev OM(h:cX)(it t:ah)(i:Int):Prop:=h.get? it=some (MD t i)
section
variable{prog:a7}{w:bP}{A:cT}{E:aj->aA->Prop}{s:aA}
theorem ME{it t:ah}{i:Int}{Q:aj->aA->Prop}(h0:OM s.heap it t i)(h:Q (.ref it) s):aX (bA prog w) A (zk (.ref it)) Q E s:=by have hT:s.TypeIs (.ref it) "reversed":=⟨_,h0,rfl⟩;refine DZ hT w9 (eG w9 hT Do ?_ (Fo _));show aX _ _ (ret (.ref it)) _ _ s;exact au ⟨_,rfl,"reversed",_,hT,mL.lookup,h⟩
end
end Ex
namespace Ex
open PySem PyProof.Rows
open Sem (wp)
section
variable{prog:a7}{w:bP}{A:cT}{E:aj->aA->Prop}{s:aA}
theorem Fq(t:ah)(items:Array aj)(hz:(items.size:Int)<2^63):U_ prog w (Builtin.«reversed.__new__» ⟨[.type "reversed",.ref t],[]⟩) (λ_ R s=>IsTup s.heap t items/\R (.ok (.ret (.ref s.heap.objs.size))) {s with heap:=s.heap.push (MD t ((items.size:Int)-1)),toks:=s.toks+1+1}):= .of_wp λA R s ⟨ht,h⟩=>by
 unfold Builtin.«reversed.__new__»;refine ae (ji (newClass_reversed _) ?_)
 try dsimp only
 refine ae (ji (a:=()) (by first|rfl|kernel_rfl) ?_);refine ae (ji (a:=()) (by first|rfl|kernel_rfl) ?_)
 try dsimp only
 refine ae (fT ht.typeIs BG ?_)
 try dsimp only
 refine ae ?_;show aX _ _ (Mh (.ref t) (.type "dict")>>=_) _ _ s;refine ae (gO ht.typeIs An ?_);simp only[cB,if_false];refine ae (fT ht.typeIs CQ.lookup ?_);simp only[show(["tuple.__getitem__","str.__getitem__","bytes.__getitem__","bytearray.__getitem__","memoryview.__getitem__","numpy.ndarray.__getitem__","sqlite3.Row.__getitem__"].contains "tuple.__getitem__")=true by decide,if_true];refine au ?_;simp only[ko,cB,if_false];refine ae (len_tuple ht hz (ae (ji (a:=some (items.size:Int)) rfl ?_)))
 try dsimp only
 refine ae ?_;unfold VJ
 try dsimp only
 exact dz (au ⟨_,rfl,h⟩)
theorem V'{t:ah}{items:Array aj}{Q:aj->aA->Prop}(ht:IsTup s.heap t items)(hz:(items.size:Int)<2^63)(h:Q (.ref s.heap.objs.size) {s with heap:=s.heap.push (MD t ((items.size:Int)-1)),toks:=s.toks+1+1}):aX (bA prog w) A (call (.type "reversed") [.ref t]) Q E s:=callType_newIn OL (by decide) (F.typeCall_reversed_1 _) (F.newCall_reversed_1 _) (λobj=>F.args_object_init_2 obj _) F.entry_reversed_new (Fq t items hz) ⟨ht,⟨_,ba _ rfl,rfl⟩,h⟩
theorem Fs{it t:ah}{i:Nat}{items:Array aj}{x:aj}{Q:Option aj->aA->Prop}(jx:OM s.heap it t (i:Int))(ht:IsTup s.heap t items)(hz:(items.size:Int)<2^63)(hx:items[i]? =some x)(hQ:∀h',OM h' it t ((i:Int)-1)->df it s.heap h'->Q (some x) {s with heap:=h',toks:=s.toks+1}):aX (bA prog w) A (jF (.ref it)) Q E s:=by
 have hT:s.TypeIs (.ref it) "reversed":=⟨_,jx,rfl⟩;have f8:i<items.size:=(pN.mp hx).1;unfold jF;refine ae (mX (h_ (name:=eJ "__next__") hT mL (eG mL hT vj ?_ (w8 _))));unfold Builtin.«reversed.__next__»;refine ae (ji (a:=(aY it,[])) rfl ?_)
 try dsimp only
 refine ae (lT jx rfl (x:= .ref t) rfl ?_);refine ae (lT jx rfl (x:=pi (i:Int)) rfl ?_);show aX _ _ (if(i:Int)<0 then _ else _) _ _ s;rw[if_neg (by omega)];show aX _ _ (specialOf (.ref t) "__getitem__">>=_) _ _ s;refine ae (fT ht.typeIs CQ.lookup ?_);simp only[Option.isNone_some,cB,if_false];refine ae (wpAny_mkInt (ae (mX ?_)));refine getItem_tuple (s:={s with toks:=s.toks+1}) (k:=(i:Int)) (j:=i) ht (by omega) (by omega) ?_ hx ?_
 ·unfold seqIndex?;have e:(if(i:Int)<0 then(i:Int)+(items.size:Int)else(i:Int))=(i:Int):=if_neg (by omega);simp only[e];simp[f8]
 try dsimp only
 refine ae (lT (s:={s with toks:=s.toks+1}) jx rfl (x:=pi (i:Int)) rfl ?_);show aX _ _ (zo (.ref it) 1 (pi ((i:Int)-1))>>=_) _ _ _;refine ae (kM (s:={s with toks:=s.toks+1}) jx (by simp) λh' he hs=>?_);exact au ⟨x,rfl,au (hQ h' (by simpa[MD,OM]using he) hs)⟩
theorem Ig{it t:ah}{Q:Option aj->aA->Prop}(hh:A.handled=none)(jx:OM s.heap it t (-1))(hQ:∀h',Oa it s.heap h'->Q none {s with heap:=h'}):aX (bA prog w) A (jF (.ref it)) Q E s:=by
 have hT:s.TypeIs (.ref it) "reversed":=⟨_,jx,rfl⟩;unfold jF;refine ae (mX (h_ (name:=eJ "__next__") hT mL (eG mL hT vj ?_ (w8 _))));unfold Builtin.«reversed.__next__»;refine ae (ji (a:=(aY it,[])) rfl ?_)
 try dsimp only
 refine ae (lT jx rfl (x:= .ref t) rfl ?_);refine ae (lT jx rfl (x:=pi (-1:Int)) rfl ?_);show aX _ _ (if(-1:Int)<0 then _ else _) _ _ s;rw[if_pos (by decide)];refine ae (iW (ae ?_));show aX _ _ (zo (.ref it) 1 (pi (-1))>>= λ_=>zo (.ref it) 0 .none) _ _ s;refine ae (sD jx rfl (by simp) ?_);refine sD (cu _ jx rfl) rfl (by simp) ?_;refine ae ?_;show aX _ _ (Va (.type "StopIteration") []>>=_) _ _ _;refine ae ?_;simp only[Va,newTuple];refine ae (dz (ae (m:=ol _ _) (ji (a:=dI) (by first|rfl|(simp only[ol];rfl)) (dz ?_ (by size_fits)))) (by size_fits));simp only[raiseNew];refine ae (QB ?_);rw[show A.in1.handled=none from hh];refine ae (au (X9 (ae ?_)));refine gO (T:="StopIteration") (b:=true) ⟨_,ba _ rfl,rfl⟩ Mi ?_;refine au (hQ _ ((J6 (J6 ?_ _)) _));exact λb o hb e=>((cy ..).2 b hb).trans (((cy ..).2 b hb).trans e)
end
end Ex
namespace Ex
open PySem PyProof.Rows PySem.W
open Sem (wp)
section
variable{prog:a7}{w:bP}{A:cT}{R:Vb->aA->Prop}{I:ah}{fp wr:List ah}{n:Nat}{P:Nat->aj->Prop}{St:Nat->cX->Prop}
theorem ON(W:Walks prog w A.in1 I fp wr n P St)(bt:Nat->Nat->Bool)(BH:CmpOf prog w A.in1 .Gt P bt)(S:ah)(Ih:S∉fp)(kw:List (bT×aj)):∀(k j:Nat)(s:aA)(vb:aj)(c:Nat),n-(j+1)=k->j+1<=n->St (j+1) s.heap->P (jV bt j) vb->s.heap.get? S=some {cls:= .type "list",dict:=none,data:= .seq #[vb,vb] c,slots:= #[]}->(∀v h' tk,P (jV bt (n-1)) v->(∀b o,b∉wr->b≠S->s.heap.get? b=some o->h'.get? b=some o)->R (.ok (.ret v)) {s with heap:=h',toks:=tk})->pB (bA prog w) A (.builtin "max.loop" ⟨[.ref I,.none,.ref S],kw⟩) R s:=by
 have Wa:S∉wr:= λh=>Ih (W.sub _ h);have nm:(k9 "max"++k9 ".loop":String)="max.loop":=by decide
 intro k;induction k with
 |zero=>
  intro j s vb c hk hj qJ Wb hS hR;have Fn:j+1=n:=by omega
  refine gE D1 ?_;rw[d3 jM _];show aX _ A.in1 (z8 (.ref S)>>=_) _ _ s;refine ae (j2 hS rfl ?_);show aX _ A.in1 (u9 (jF (.ref I)) _>>=_) _ _ s;refine ae (g7 (W.done s _ _ (Fn▸qJ) λh' tk rN=>?_));have sZ:=rN S _ Wa hS;show aX _ A.in1 (u_ S (λ_=> #[])>>=_) _ _ _;refine ae (gF sZ rfl (ae (lU (au ?_))));exact hR vb _ tk (by rw[<-Fn];exact Wb) λb o w_ CY e=>(bF _ _ (iN CY)).trans (rN b o w_ e)
 |succ k ih=>
  intro j s vb c hk hj qJ Wb hS hR;have f8:j+1<n:=by omega
  refine gE D1 ?_;rw[d3 jM _];show aX _ A.in1 (z8 (.ref S)>>=_) _ _ s;refine ae (j2 hS rfl ?_);show aX _ A.in1 (u9 (jF (.ref I)) _>>=_) _ _ s;refine ae (g7 (W.item (j+1) s _ _ f8 qJ λv h' tk hP Ft rN=>?_));have sZ:=rN S _ Wa hS;show aX _ A.in1 (u9 (re [v,v] (richCompare .Gt v vb>>=_)) _>>=_) _ _ _;refine ae (g7 (dP (ae (BH (j+1) (jV bt j) v vb _ _ _ hP Wb (ae (dP (cR (ae (lU (au ?_))))))))));cases hb:bt (j+1) (jV bt j)with
  |true=>simp only[if_true];refine ae (gF sZ rfl (ae (lU ?_)));rw[nm];refine au ⟨gX jM _,ih (j+1) _ v _ (by omega) f8 (W.frame _ _ _ Ft λb Z5 o e=>(bF _ _ (λh:S=b=>Ih (by rw[h];exact Z5))).trans e) (by simp only[jV,hb,if_true];exact hP) (cu _ sZ rfl) λv' Al BI KD yB=>?_⟩;exact hR v' Al BI KD λb o w_ CY e=>yB b o w_ CY ((bF _ _ (iN CY)).trans (rN b o w_ e))
  |false=>simp only[cB,if_false];refine ae (lU ?_);rw[nm];exact au ⟨gX jM _,ih (j+1) _ vb c (by omega) f8 Ft (by simp only[jV,hb,cB,if_false];exact Wb) sZ λv' Al BI KD yB=>hR v' Al BI KD λb o w_ CY e=>yB b o w_ CY (rN b o w_ e)⟩
theorem RQ(W:Walks prog w A.in1 I fp wr n P St)(bt:Nat->Nat->Bool)(BH:CmpOf prog w A.in1 .Gt P bt)(S:ah)(Ih:S∉fp)(nmD:bT)(d:aj){s:aA}{c:Nat}(qJ:St 0 s.heap)(hS:s.heap.get? S=some {cls:= .type "list",dict:=none,data:= .seq #[] c,slots:= #[]})(hR0:n=0->∀h' tk,(∀b o,b∉wr->b≠S->s.heap.get? b=some o->h'.get? b=some o)->R (.ok (.ret d)) {s with heap:=h',toks:=tk})(hR:0<n->∀v h' tk,P (jV bt (n-1)) v->(∀b o,b∉wr->b≠S->s.heap.get? b=some o->h'.get? b=some o)->R (.ok (.ret v)) {s with heap:=h',toks:=tk}):pB (bA prog w) A (.builtin "max.loop" ⟨[.ref I,.none,.ref S],[(nmD,d)]⟩) R s:=by
 have Wa:S∉wr:= λh=>Ih (W.sub _ h);have nm:(k9 "max"++k9 ".loop":String)="max.loop":=by decide
 refine gE D1 ?_;rw[d3 jM _];show aX _ A.in1 (z8 (.ref S)>>=_) _ _ s;refine ae (j2 hS rfl ?_);show aX _ A.in1 (u9 (jF (.ref I)) _>>=_) _ _ s;by_cases hn:n=0
 ·refine ae (g7 (W.done s _ _ (by rw[hn];exact qJ) λh' tk rN=>?_));refine ae (iW (au ?_));exact hR0 hn h' tk λb o hb _ e=>rN b o hb e
 ·refine ae (g7 (W.item 0 s _ _ (j5 hn) qJ λv h' tk hP Ft rN=>?_));have sZ:=rN S _ Wa hS;show aX _ A.in1 (u_ S (λ_=> #[v,v])>>=_) _ _ _;refine ae (gF sZ rfl ?_);rw[nm];refine au ⟨gX jM _,ON W bt BH S Ih _ _ 0 _ v _ rfl (j5 hn) (W.frame _ _ _ Ft λb Z5 o e=>(bF _ _ (λh:S=b=>Ih (by rw[h];exact Z5))).trans e) hP (cu _ sZ rfl) λv' Al BI KD yB=>?_⟩;exact hR (j5 hn) v' Al BI KD λb o w_ CY e=>yB b o w_ CY ((bF _ _ (iN CY)).trans (rN b o w_ e))
end
section
variable{prog:a7}{w:bP}{A:cT}{E:aj->aA->Prop}{s:aA}
theorem KE(a d:aj):G0 "max" ⟨[a],[(eJ "default",d)]⟩:=by unfold G0;kernel_rfl
theorem yC{x d:aj}{Q:aj->aA->Prop}(h:aX (bA prog w) A.in1 (zk x) (λit s2=>∃I fp wr n P St bt,it= .ref I/\Walks prog w A.in1 I fp wr n P St/\St 0 s2.heap/\(∀b∈fp,b<s2.heap.objs.size)/\CmpOf prog w A.in1 .Gt P bt/\(n=0->∀h' tk,(∀b o,b∉wr->s2.heap.get? b=some o->h'.get? b=some o)->Q d {s2 with heap:=h',toks:=tk})/\(0<n->∀v h' tk,P (jV bt (n-1)) v->(∀b o,b∉wr->s2.heap.get? b=some o->h'.get? b=some o)->Q v {s2 with heap:=h',toks:=tk})) E s):aX (bA prog w) A (call (.builtin "max") [x] [(eJ "default",d)]) Q E s:=by
 have nm:(k9 "max"++k9 ".loop":String)="max.loop":=by decide
 refine kmk_tree F.kind_max F.plain_max F.entry_max (KE _ _) ?_;show aX _ A.in1 (jc "max" ["key","default"] 0 ⟨[],[(eJ "default",d)]⟩>>=_) _ _ s;refine ae (ji (show jc "max" ["key","default"] 0 ⟨[],[(eJ "default",d)]⟩=i4 [none,some d]from rfl) (ae (au ?_)));refine ae (gp h (λit s2 h2=>?_) λ_ _ e=>e);obtain⟨I,fp,wr,n,P,St,bt,rfl,W,qJ,MF,BH,hQ0,hQ⟩:=h2;refine ae (dz ?_);have Ih:s2.heap.objs.size∉fp:= λhm=>fI _ (MF _ hm);rw[nm];refine au ⟨gX jM _,RQ W bt BH s2.heap.objs.size Ih _ d (W.frame _ _ _ qJ λb _ o e=>aI _ e) (ba _ rfl) (λhn h' tk hk=>?_) λhn v h' tk hP hk=>?_⟩
 ·exact hQ0 hn h' tk λb o w_ e=>hk b o w_ (b4 (bw e)) (aI _ e)
 ·exact hQ hn v h' tk hP λb o w_ e=>hk b o w_ (b4 (bw e)) (aI _ e)
end
section
variable{prog:a7}{w:bP}{A:cT}{R:Vb->aA->Prop}{I:ah}{fp wr:List ah}{n:Nat}{P:Nat->aj->Prop}{St:Nat->cX->Prop}
theorem OO(W:Walks prog w A.in1 I fp wr n P St)(bt:Nat->Nat->Bool)(BH:CmpOf prog w A.in1 .Lt P bt)(S:ah)(Ih:S∉fp)(kw:List (bT×aj)):∀(k j:Nat)(s:aA)(vb:aj)(c:Nat),n-(j+1)=k->j+1<=n->St (j+1) s.heap->P (jV bt j) vb->s.heap.get? S=some {cls:= .type "list",dict:=none,data:= .seq #[vb,vb] c,slots:= #[]}->(∀v h' tk,P (jV bt (n-1)) v->(∀b o,b∉wr->b≠S->s.heap.get? b=some o->h'.get? b=some o)->R (.ok (.ret v)) {s with heap:=h',toks:=tk})->pB (bA prog w) A (.builtin "min.loop" ⟨[.ref I,.none,.ref S],kw⟩) R s:=by
 have Wa:S∉wr:= λh=>Ih (W.sub _ h);have nm:(k9 "min"++k9 ".loop":String)="min.loop":=by decide
 intro k;induction k with
 |zero=>
  intro j s vb c hk hj qJ Wb hS hR;have Fn:j+1=n:=by omega
  refine gE D4 ?_;rw[d3 jN _];show aX _ A.in1 (z8 (.ref S)>>=_) _ _ s;refine ae (j2 hS rfl ?_);show aX _ A.in1 (u9 (jF (.ref I)) _>>=_) _ _ s;refine ae (g7 (W.done s _ _ (Fn▸qJ) λh' tk rN=>?_));have sZ:=rN S _ Wa hS;show aX _ A.in1 (u_ S (λ_=> #[])>>=_) _ _ _;refine ae (gF sZ rfl (ae (lU (au ?_))));exact hR vb _ tk (by rw[<-Fn];exact Wb) λb o w_ CY e=>(bF _ _ (iN CY)).trans (rN b o w_ e)
 |succ k ih=>
  intro j s vb c hk hj qJ Wb hS hR;have f8:j+1<n:=by omega
  refine gE D4 ?_;rw[d3 jN _];show aX _ A.in1 (z8 (.ref S)>>=_) _ _ s;refine ae (j2 hS rfl ?_);show aX _ A.in1 (u9 (jF (.ref I)) _>>=_) _ _ s;refine ae (g7 (W.item (j+1) s _ _ f8 qJ λv h' tk hP Ft rN=>?_));have sZ:=rN S _ Wa hS;show aX _ A.in1 (u9 (re [v,v] (richCompare .Lt v vb>>=_)) _>>=_) _ _ _;refine ae (g7 (dP (ae (BH (j+1) (jV bt j) v vb _ _ _ hP Wb (ae (dP (cR (ae (lU (au ?_))))))))));cases hb:bt (j+1) (jV bt j)with
  |true=>simp only[if_true];refine ae (gF sZ rfl (ae (lU ?_)));rw[nm];refine au ⟨gX jN _,ih (j+1) _ v _ (by omega) f8 (W.frame _ _ _ Ft λb Z5 o e=>(bF _ _ (λh:S=b=>Ih (by rw[h];exact Z5))).trans e) (by simp only[jV,hb,if_true];exact hP) (cu _ sZ rfl) λv' Al BI KD yB=>?_⟩;exact hR v' Al BI KD λb o w_ CY e=>yB b o w_ CY ((bF _ _ (iN CY)).trans (rN b o w_ e))
  |false=>simp only[cB,if_false];refine ae (lU ?_);rw[nm];exact au ⟨gX jN _,ih (j+1) _ vb c (by omega) f8 Ft (by simp only[jV,hb,cB,if_false];exact Wb) sZ λv' Al BI KD yB=>hR v' Al BI KD λb o w_ CY e=>yB b o w_ CY (rN b o w_ e)⟩
theorem RR(W:Walks prog w A.in1 I fp wr n P St)(bt:Nat->Nat->Bool)(BH:CmpOf prog w A.in1 .Lt P bt)(S:ah)(Ih:S∉fp)(nmD:bT)(d:aj){s:aA}{c:Nat}(qJ:St 0 s.heap)(hS:s.heap.get? S=some {cls:= .type "list",dict:=none,data:= .seq #[] c,slots:= #[]})(hR0:n=0->∀h' tk,(∀b o,b∉wr->b≠S->s.heap.get? b=some o->h'.get? b=some o)->R (.ok (.ret d)) {s with heap:=h',toks:=tk})(hR:0<n->∀v h' tk,P (jV bt (n-1)) v->(∀b o,b∉wr->b≠S->s.heap.get? b=some o->h'.get? b=some o)->R (.ok (.ret v)) {s with heap:=h',toks:=tk}):pB (bA prog w) A (.builtin "min.loop" ⟨[.ref I,.none,.ref S],[(nmD,d)]⟩) R s:=by
 have Wa:S∉wr:= λh=>Ih (W.sub _ h);have nm:(k9 "min"++k9 ".loop":String)="min.loop":=by decide
 refine gE D4 ?_;rw[d3 jN _];show aX _ A.in1 (z8 (.ref S)>>=_) _ _ s;refine ae (j2 hS rfl ?_);show aX _ A.in1 (u9 (jF (.ref I)) _>>=_) _ _ s;by_cases hn:n=0
 ·refine ae (g7 (W.done s _ _ (by rw[hn];exact qJ) λh' tk rN=>?_));refine ae (iW (au ?_));exact hR0 hn h' tk λb o hb _ e=>rN b o hb e
 ·refine ae (g7 (W.item 0 s _ _ (j5 hn) qJ λv h' tk hP Ft rN=>?_));have sZ:=rN S _ Wa hS;show aX _ A.in1 (u_ S (λ_=> #[v,v])>>=_) _ _ _;refine ae (gF sZ rfl ?_);rw[nm];refine au ⟨gX jN _,OO W bt BH S Ih _ _ 0 _ v _ rfl (j5 hn) (W.frame _ _ _ Ft λb Z5 o e=>(bF _ _ (λh:S=b=>Ih (by rw[h];exact Z5))).trans e) hP (cu _ sZ rfl) λv' Al BI KD yB=>?_⟩;exact hR (j5 hn) v' Al BI KD λb o w_ CY e=>yB b o w_ CY ((bF _ _ (iN CY)).trans (rN b o w_ e))
end
section
variable{prog:a7}{w:bP}{A:cT}{E:aj->aA->Prop}{s:aA}
theorem KG(a d:aj):G0 "min" ⟨[a],[(eJ "default",d)]⟩:=by unfold G0;kernel_rfl
theorem yD{x d:aj}{Q:aj->aA->Prop}(h:aX (bA prog w) A.in1 (zk x) (λit s2=>∃I fp wr n P St bt,it= .ref I/\Walks prog w A.in1 I fp wr n P St/\St 0 s2.heap/\(∀b∈fp,b<s2.heap.objs.size)/\CmpOf prog w A.in1 .Lt P bt/\(n=0->∀h' tk,(∀b o,b∉wr->s2.heap.get? b=some o->h'.get? b=some o)->Q d {s2 with heap:=h',toks:=tk})/\(0<n->∀v h' tk,P (jV bt (n-1)) v->(∀b o,b∉wr->s2.heap.get? b=some o->h'.get? b=some o)->Q v {s2 with heap:=h',toks:=tk})) E s):aX (bA prog w) A (call (.builtin "min") [x] [(eJ "default",d)]) Q E s:=by
 have nm:(k9 "min"++k9 ".loop":String)="min.loop":=by decide
 refine kmk_tree F.kind_min F.plain_min F.entry_min (KG _ _) ?_;show aX _ A.in1 (jc "min" ["key","default"] 0 ⟨[],[(eJ "default",d)]⟩>>=_) _ _ s;refine ae (ji (show jc "min" ["key","default"] 0 ⟨[],[(eJ "default",d)]⟩=i4 [none,some d]from rfl) (ae (au ?_)));refine ae (gp h (λit s2 h2=>?_) λ_ _ e=>e);obtain⟨I,fp,wr,n,P,St,bt,rfl,W,qJ,MF,BH,hQ0,hQ⟩:=h2;refine ae (dz ?_);have Ih:s2.heap.objs.size∉fp:= λhm=>fI _ (MF _ hm);rw[nm];refine au ⟨gX jN _,RR W bt BH s2.heap.objs.size Ih _ d (W.frame _ _ _ qJ λb _ o e=>aI _ e) (ba _ rfl) (λhn h' tk hk=>?_) λhn v h' tk hP hk=>?_⟩
 ·exact hQ0 hn h' tk λb o w_ e=>hk b o w_ (b4 (bw e)) (aI _ e)
 ·exact hQ hn v h' tk hP λb o w_ e=>hk b o w_ (b4 (bw e)) (aI _ e)
end
end Ex
namespace L2
open PySem PySem.Spec PyProof.Rows
abbrev fE:=Sum Int bT
def ua:fE->aj->Bool
 | .inl k,v=>ad7 k v| .inr x,v=>ZJ x v
def aez(w:bP):fE->Int
 | .inl k=>Vc k| .inr x=>hashStr w x
theorem gI:∀{k:fE}{v:aj},ua k v=true->(∃i t,k=bJ i/\v=vD i t)\/(∃x t,k=AG x/\v=Hj x t)
 | .inl i,v,h=>by obtain⟨t,e⟩:=QX (k:=i) (v:=v) h;exact .inl ⟨i,t,rfl,e⟩
 | .inr x,v,h=>by obtain⟨t,e⟩:=aj.isStrOf_shape (x:=x) (v:=v) h;exact .inr ⟨x,t,rfl,e⟩
theorem OP(i:Int)(t:Tok):ua (.inl i) (.int i t)=true:=by simp[ua,ad7]
theorem OQ(x:bT)(t:Tok):ua (.inr x) (.str x t)=true:=by simp[ua,ZJ]
theorem Z6(a b:Int):decide ((bJ a:fE)=bJ b)=(a==b):=by
 by_cases e:a=b
 ·subst e;simp
 ·have h:¬(bJ a:fE)=bJ b:= λq=>e (z9 q);rw[decide_eq_false h];exact(beq_eq_false_iff_ne.mpr e).symm
theorem Z7(a b:bT):decide ((AG a:fE)=AG b)=decide (a=b):=by
 by_cases e:a=b
 ·subst e;simp
 ·have h:¬(AG a:fE)=AG b:= λq=>e (AG.inj q);rw[decide_eq_false h,decide_eq_false e]
theorem Z8(a:Int)(b:bT):decide ((bJ a:fE)=AG b)=false:=decide_eq_false (λq=>nomatch q)
theorem Z9(a:bT)(b:Int):decide ((AG a:fE)=bJ b)=false:=decide_eq_false (λq=>nomatch q)
def c_(prog:a7)(w:bP):ZK prog w fE where
 is:=ua
 hash:=aez w
 inj:= λv a b ha hb=>by
  rcases gI ha with⟨i,t,rfl,rfl⟩|⟨x,t,rfl,rfl⟩
  ·rcases gI hb with⟨j,u,rfl,e⟩|⟨y,u,rfl,e⟩
   ·injection e with e1 _;rw[e1]
   ·exact nomatch e
  ·rcases gI hb with⟨j,u,rfl,e⟩|⟨y,u,rfl,e⟩
   ·exact nomatch e
   ·injection e with e1 _;rw[e1]
 byValue:= λk v h=>by rcases gI h with⟨i,t,rfl,rfl⟩|⟨x,t,rfl,rfl⟩<;>rfl
 pyHash:= λhv h=>by
  rcases gI hv with⟨i,t,rfl,rfl⟩|⟨x,t,rfl,rfl⟩
  ·exact wpAny_pyHash_int h
  ·exact wpAny_pyHash_str h
 eqBool:= λhu hv h=>by
  rcases gI hu with⟨i,t,rfl,rfl⟩|⟨x,t,rfl,rfl⟩
  ·rcases gI hv with⟨j,u,rfl,rfl⟩|⟨y,u,rfl,rfl⟩
   ·rw[Z6]at h;exact wpAny_eqBool_int h
   ·rw[Z8]at h;exact Hk i t y u _ _ _ _ h
  ·rcases gI hv with⟨j,u,rfl,rfl⟩|⟨y,u,rfl,rfl⟩
   ·rw[Z9]at h;exact Hl x t j u _ _ _ _ h
   ·rw[Z7]at h;exact wpAny_eqBool_str h
 «strs»:= λk x t v h=>by
  rcases gI h with⟨i,u,rfl,e⟩|⟨y,u,rfl,e⟩
  ·exact nomatch e
  ·injection e with e1 _;subst e1;cases v<;>rfl
theorem Ii(prog:a7)(w:bP)(i:Int)(t:Tok):(c_ prog w).is (.inl i) (.int i t)=true:=OP i t
theorem Ij(prog:a7)(w:bP)(x:bT)(t:Tok):(c_ prog w).is (.inr x) (.str x t)=true:=OQ x t
inductive V where
 |non|bl (b:Bool)|int (i:Int)|str (x:bT)|G8 (b:Array UInt8)|Yg (b:UInt64)|ref (a:ah)|ty (n:String)
 deriving DecidableEq
def RelV:V->aj->Prop
 | .non,u=>u=dI| .bl b,u=>u=n0 b| .int i,u=>∃t,u=vD i t| .str x,u=>∃t,u=Hj x t| .G8 b,u=>∃t,u=ad8 b t| .Yg b,u=>∃t,u=ad9 b t| .ref a,u=>u=aY a| .ty n,u=>u=pP n
abbrev dq:List V->List aj->Prop:=Paired RelV
theorem dq.length{xs:List V}{us:List aj}(r:dq xs us):xs.length=us.length:=fw r
theorem dq.get:∀{xs:List V}{us:List aj}{i:Nat}{x:V},dq xs us->xs[i]? =some x->∃u,us[i]? =some u/\RelV x u
 |_,_,_,_,.nil,e=>by simp at e|_,_,0,_,.cons r _,e=>by simp at e;subst e;exact⟨_,rfl,r⟩|_,_,i+1,x,.cons _ t,e=>by obtain⟨u,h1,h2⟩:=dq.get (i:=i) (x:=x) t (by simpa using e);exact⟨u,by simpa using h1,h2⟩
theorem dq.set{x:V}{u:aj}(r:RelV x u):∀{xs:List V}{us:List aj}(i:Nat),dq xs us->dq (xs.set i x) (us.set i u)
 |_,_,_,.nil=> .nil|_,_,0,.cons _ t=> .cons r t|_,_,i+1,.cons q t=> .cons q (dq.set r i t)
theorem dq.append:∀{xs ys:List V}{us ws:List aj},dq xs us->dq ys ws->dq (xs++ys) (us++ws)
 |_,_,_,_,.nil,s=>s|_,_,_,_,.cons r t,s=> .cons r (dq.append t s)
theorem dq.take:∀{xs:List V}{us:List aj}(n:Nat),dq xs us->dq (xs.take n) (us.take n)
 |_,_,0,_=> .nil|_,_,_+1,.nil=> .nil|_,_,n+1,.cons r t=> .cons r (dq.take n t)
theorem dq.drop:∀{xs:List V}{us:List aj}(n:Nat),dq xs us->dq (xs.drop n) (us.drop n)
 |_,_,0,r=>r|_,_,_+1,.nil=> .nil|_,_,n+1,.cons _ t=>dq.drop n t
def rT:Option V->Option aj->Prop
 |some v,some u=>RelV v u|none,none=>True|_,_=>False
def KV{κ:Type}:List (κ×V)->List (κ×aj)->Prop:=Paired λ(p:κ×V) (q:κ×aj)=>p.1=q.1/\RelV p.2 q.2
def kV:fE->V
 | .inl i=> .int i| .inr x=> .str x
inductive HO where
 |be (xs:List V)
 |bV (xs:List V)
 |dK (kvs:List (fE×V))|dT (kvs:List (List fE×V))
 |set (S:Int->Bool) (n:Nat)
 |gc (C dx:ah) (fs:List (bT×V))
 |own (x:ah)
 |xd (fs:List (bT×V))
 |met (f x:ah)
 |rng (lo hi:Int)
 |nB (o:gS) (u:HO)
 |Z_ (ps:Array aj)
 |ext (φ:cX->Prop)
abbrev Hp:=ah->Option HO
def aP(H:Hp)(a:ah)(o:HO):Hp:= λb=>if b=a then some o else H b
theorem ai{H:Hp}{a:ah}{o:HO}:aP H a o a=some o:=by unfold aP;rw[if_pos rfl]
theorem aF{H:Hp}{a b:ah}{o:HO}(h:b≠a):aP H a o b=H b:=by unfold aP;rw[if_neg h]
theorem nQ{H:Hp}{a b:ah}{o u:HO}(h:H a=some o)(h':H b=some u)(d:o≠u):a≠b:=by intro e;subst e;rw[h]at h';exact d (ax h')
theorem aH{H:Hp}{a b:ah}{o:HO}(h:H a=some o)(h':H b=none):a≠b:=by intro e;subst e;rw[h]at h';cases h'
section
variable(P:a7)(w:bP)
def ie(H:Hp)(h:cX)(a:ah):HO->Prop
 | .be xs=>xs.length<=al/\∃(cc:List aj)(n:Nat),dq xs cc/\h.get? a=some {cls:= .type "list",data:= .seq cc.toArray n}| .bV xs=>xs.length<=al/\∃cc:List aj,dq xs cc/\IsTup h a cc.toArray| .dK kvs=>kvs.length<=al/\(a==db)=false/\∃vs,KV kvs vs/\h.DictOf (c_ P w) a vs| .dT kvs=>kvs.length<=al/\(a==db)=false/\∃xs:List (List fE×ah×aj),Paired (λ(p:List fE×V) (q:List fE×ah×aj)=>p.1=q.1/\H q.2.1=some (.bV (p.1.map kV))/\RelV p.2 q.2.2) kvs xs/\∃o es ep,h.get? a=some o/\o.ExactDict/\o.data= .dict es ep/\es.toList=xs.map (ij (iO (c_ P w)))/\(xs.map (·.1)).Nodup| .set S n=>h.SetOf (intKind P w) a S n| .gc C dx fs=>H dx=some (.own a)/\fs.length<=1000/\dx≠a/\h.get? a=some (iE C dx)/\∃mA,h.Ns1 dx mA/\(∀f,rT (fs.lookup f) (mA f))/\J7 mA (fs.map (·.1))| .own _=>∃o,h.get? a=some o| .xd fs=>∃mA,h.Ns1 a mA/\∀f,rT (fs.lookup f) (mA f)| .rng lo hi=>∃t u v,h.get? a=some {cls:= .type "range",data:= .fields #[.int lo t,.int hi u,.int 1 v]}| .nB o u=>h.get? a=some o/\ie H h a u| .Z_ ps=>h.get? a=some {cls:= .none,data:= .fields ps}| .met f x=>h.get? a=some (yd (.ref f) (.ref x))| .ext φ=>φ h/\(∃o,h.get? a=some o)/\∀h1 h2:cX,φ h1->(∀o,h1.get? a=some o->h2.get? a=some o)->φ h2
def rV(H:Hp)(h:cX):Prop:=∀a o,H a=some o->ie P w H h a o
end
section
variable{P:a7}{w:bP}{H H':Hp}{h h':cX}{a:ah}{o:HO}
theorem ie.lt(x:ie P w H h a o):a<h.objs.size:=by
 cases o with
 |be xs=>obtain⟨_,_,_,_,e⟩:=x;exact bw e
 |bV xs=>obtain⟨_,_,_,p⟩:=x;exact p.lt
 |dK kvs=>obtain⟨_,_,_,_,o,_,_,e,_⟩:=x;exact bw e
 |dT kvs=>obtain⟨_,_,_,_,o,_,_,e,_⟩:=x;exact bw e
 |set S n=>obtain⟨o,_,_,_,e,_⟩:=x;exact bw e
 |gc C dx fs=>obtain⟨_,_,_,e,_⟩:=x;exact bw e
 |own y=>obtain⟨_,e⟩:=x;exact bw e
 |xd fs=>obtain⟨_,⟨_,_,_,e,_⟩,_⟩:=x;exact bw e
 |rng lo hi=>obtain⟨_,_,_,e⟩:=x;exact bw e
 |nB ob u=>obtain⟨e,_⟩:=x;exact bw e
 |Z_ ps=>exact bw (show h.get? a=some _ from x)|met f y=>exact bw (show h.get? a=some _ from x)|ext φ=>obtain⟨_,⟨_,e⟩,_⟩:=x;exact bw e
theorem Paired.gJ{α β:Type}{F G:α->β->Prop}:∀{OR:List α}{OS:List β},Paired F OR OS->(∀a b,F a b->G a b)->Paired G OR OS
 |_,_,.nil,_=> .nil|_,_,.cons r t,f=> .cons (f _ _ r) (Paired.gJ t f)
theorem ie.BJ(x:ie P w H h a o)(k:∀b u,(b=a\/H b=some (.own a))->h.get? b=some u->h'.get? b=some u)(ho:∀b,H b=some (.own a)->H' b=some (.own a))(ht:∀b xs,H b=some (.bV xs)->H' b=some (.bV xs)):ie P w H' h' a o:=by
 induction o with
 |be xs=>obtain⟨z,cc,n,r,e⟩:=x;exact⟨z,cc,n,r,k _ _ (.inl rfl) e⟩
 |bV xs=>obtain⟨z,cc,r,ob,e,c⟩:=x;exact⟨z,cc,r,ob,k _ _ (.inl rfl) e,c⟩
 |dK kvs=>obtain⟨z,y,vs,r,ob,es,ep,e,c⟩:=x;exact⟨z,y,vs,r,ob,es,ep,k _ _ (.inl rfl) e,c⟩
 |dT kvs=>obtain⟨z,y,xs,r,ob,es,ep,e,c⟩:=x;exact⟨z,y,xs,Paired.gJ r λp q z=>⟨z.1,ht _ _ z.2.1,z.2.2⟩,ob,es,ep,k _ _ (.inl rfl) e,c⟩
 |set S n=>obtain⟨ob,es,ep,t,e,c⟩:=x;exact⟨ob,es,ep,t,k _ _ (.inl rfl) e,c⟩
 |gc C dx fs=>obtain⟨d,z,ne,e,mA,⟨od,es,ep,e2,c⟩,r⟩:=x;exact⟨ho _ d,z,ne,k _ _ (.inl rfl) e,mA,⟨od,es,ep,k _ _ (.inr d) e2,c⟩,r⟩
 |own y=>obtain⟨ob,e⟩:=x;exact⟨ob,k _ _ (.inl rfl) e⟩
 |xd fs=>obtain⟨mA,⟨od,es,ep,e,c⟩,r⟩:=x;exact⟨mA,⟨od,es,ep,k _ _ (.inl rfl) e,c⟩,r⟩
 |rng lo hi=>obtain⟨t,u,v,e⟩:=x;exact⟨t,u,v,k _ _ (.inl rfl) e⟩
 |nB ob u ih=>obtain⟨e,q⟩:=x;exact⟨k _ _ (.inl rfl) e,ih q⟩
 |Z_ ps=>have e:h.get? a=some {cls:= .none,data:= .fields ps}:=x;show h'.get? a=some {cls:= .none,data:= .fields ps};exact k a _ (.inl rfl) e|met f y=>have e:h.get? a=some (yd (.ref f) (.ref y)):=x;show h'.get? a=some (yd (.ref f) (.ref y));exact k a _ (.inl rfl) e|ext φ=>obtain⟨p,⟨o,e⟩,st⟩:=x;exact⟨st _ _ p λo q=>k _ _ (.inl rfl) q,⟨o,k _ _ (.inl rfl) e⟩,st⟩
theorem rV.lt(x:rV P w H h)(e:H a=some o):a<h.objs.size:=(x a o e).lt
theorem rV.fresh(x:rV P w H h)(e:h.objs.size<=a):H a=none:=by
 cases q:H a with|none=>rfl|some u=>exact absurd (bX (x.lt q) e) (fI _)
theorem rV.k4(x:rV P w H h)(k:∀b u,h.get? b=some u->h'.get? b=some u):rV P w H h':= λa o e=>(x a o e).BJ (λb u _ q=>k b u q) (λ_ q=>q) λ_ _ q=>q
theorem rV.rW(x:rV P w H h)(k:∀b u,h.get? b=some u->h'.get? b=some u)(hp:h.objs.size<=a)(new:ie P w (aP H a o) h' a o):rV P w (aP H a o) h':= λb u e=>by
 have hn:=x.fresh hp;by_cases hb:b=a
 ·subst hb;rw[ai]at e;cases e;exact new
 ·rw[aF hb]at e;exact(x b u e).BJ (λc v _ q=>k c v q) (λc q=>by rw[aF (aH q hn)];exact q) λc xs q=>by rw[aF (aH q hn)];exact q
end
def Rd(H:Hp)(a:ah)(u:HO):Prop:=H a=some u\/∃o,H a=some (.nB o u)
theorem Rd.ok{P:a7}{w:bP}{H:Hp}{h:cX}{a:ah}{u:HO}(r:Rd H a u)(x:rV P w H h):ie P w H h a u:=by
 rcases r with r|⟨o,r⟩
 ·exact x a u r
 ·obtain⟨_,q⟩:=x a _ r;exact q
def Wc:Option HO->Prop
 |some (.be _)=>True|some (.dK _)=>True|some (.dT _)=>True|some (.set _ _)=>True|some (.gc _ _ _)=>True|some (.ext _)=>True|_=>False
section
variable{P:a7}{w:bP}{H:Hp}{h h':cX}{x e:ah}{o':HO}
theorem rV.vk(ok:rV P w H h)(mu:Wc (H x))(he:e=x\/H e=some (.own x))(k:∀b u,b≠e->h.get? b=some u->h'.get? b=some u)(RM:∃u,h'.get? e=some u)(new:ie P w (aP H x o') h' x o'):rV P w (aP H x o') h':= λb u q=>by
 have aeA:∀c y,H c=some (.own y)->c≠x:= λc y r z=>by subst z;rw[r]at mu;exact mu
 have akk:∀c xs,H c=some (.bV xs)->c≠x:= λc xs r z=>by subst z;rw[r]at mu;exact mu
 by_cases hb:b=x
 ·subst hb;rw[ai]at q;cases q;exact new
 ·rw[aF hb]at q;by_cases Z':b=e
  ·have q':H b=some (.own x):=by
    rcases he with z|z
    ·exact absurd (Z'.trans z) hb
    ·rw[Z'];exact z
   rw[q]at q';cases q'
   obtain⟨v,hv⟩:=RM;exact⟨v,by rw[Z'];exact hv⟩
  ·refine(ok b u q).BJ (λc v hc r=>k c v ?_ r) (λc r=>by rw[aF (aeA c b r)];exact r) λc xs r=>by rw[aF (akk c xs r)];exact r
   rcases hc with rfl|hc
   ·exact Z'
   ·rintro rfl;rcases he with z|z
    ·exact aeA c b hc z
    ·rw[hc]at z;cases z;exact hb rfl
end
structure Un(fs ex:List ah)(H H':Hp)(h h':cX):Prop where
 keep:∀b o,h.get? b=some o->H b=none->b∉fs->b∉ex->h'.get? b=some o
 slot:∀b o,h.get? b=some o->H b=none->b∈fs->b∉ex->∃sl,h'.get? b=some {o with slots:=sl}
 free:∀b o,h.get? b=some o->H b=none->b∉ex->H' b=none
 ub:∀b o,h.get? b=some o->b∉ex->∃o',h'.get? b=some o'
 Dp:∀b xs,H b=some (.bV xs)->H' b=some (.bV xs)
 Ao:∀b o u,H b=some (.nB o u)->H' b=some (.nB o u)
 Dq:∀b ps,H b=some (.Z_ ps)->∃more,H' b=some (.Z_ (ps++more))
section
variable{fs fs' ex ex':List ah}{H H1 H2:Hp}{h h1 h2 h':cX}{a x e:ah}{o:HO}
theorem Un.any(u:Un fs ex H H1 h h1){b:ah}{ob:gS}(q:h.get? b=some ob)(n:H b=none)(hx:b∉ex):∃sl,h1.get? b=some {ob with slots:=sl}:=by
 by_cases hb:b∈fs
 ·exact u.slot b ob q n hb hx
 ·exact⟨ob.slots,u.keep b ob q n hb hx⟩
theorem Un.k4(k:∀b u,h.get? b=some u->h'.get? b=some u):Un fs ex H H h h':=⟨λb ob q _ _ _=>k b ob q,λb ob q _ _ _=>⟨ob.slots,k b ob q⟩,λ_ _ _ n _=>n,λb ob q _=>⟨ob,k b ob q⟩,λ_ _ q=>q,λ_ _ _ q=>q,λ_ ps q=>⟨#[],by rw[q];simp⟩⟩
theorem Un.refl:Un fs ex H H h h:=Un.k4 λ_ _ q=>q
theorem Un.rW(k:∀b u,h.get? b=some u->h'.get? b=some u)(hp:h.objs.size<=a)(hn:H a=none):Un fs ex H (aP H a o) h h' where
 keep:= λb u q _ _ _=>k b u q
 slot:= λb u q _ _ _=>⟨u.slots,k b u q⟩
 free:= λb u q n _=>by rw[aF (b4 (bX (bw q) hp))];exact n
 ub:= λb u q _=>⟨u,k b u q⟩
 Dp:= λb xs q=>by rw[aF (aH q hn)];exact q
 Ao:= λb u xs q=>by rw[aF (aH q hn)];exact q
 Dq:= λb ps q=>⟨#[],by rw[aF (aH q hn),q];simp⟩
theorem Un.vk(mu:Wc (H x))(he:e=x\/H e=some (.own x))(k:∀b u,b≠e->h.get? b=some u->h'.get? b=some u)(RM:∃u,h'.get? e=some u):Un fs ex H (aP H x o) h h':=by
 have hx:∀b,H b=none->b≠x:= λb n z=>by subst z;rw[n]at mu;exact mu
 have hb:∀b,H b=none->b≠e:= λb n z=>by
  subst z;rcases he with r|r
  ·exact hx b n r
  ·rw[n]at r;cases r
 have hm:∀b u,H b=some u->¬Wc (some u)->b≠x:= λb u q nm z=>by subst z;rw[q]at mu;exact nm mu
 refine⟨λb u q n _ _=>k b u (hb b n) q,λb u q n _ _=>⟨u.slots,k b u (hb b n) q⟩,λb u q n _=>by rw[aF (hx b n)];exact n,λb u q _=>?_,λb xs q=>by rw[aF (hm b _ q λz=>z)];exact q,λb u xs q=>by rw[aF (hm b _ q λz=>z)];exact q,λb ps q=>⟨#[],by rw[aF (hm b _ q λz=>z),q];simp⟩⟩;by_cases Z':b=e
 ·subst Z';exact RM
 ·exact⟨u,k b u Z' q⟩
end
def trk(h:cX)(H:Hp):List ah:=(bE h.objs.size).filter λa=>(H a).isSome
def Fu(h:cX)(H:Hp):cX:=PySem.W.hideAll h (trk h H)
theorem OT(h:cX)(H:Hp):(Fu h H).objs.size=h.objs.size:=PySem.W.hideAll_size _ _
theorem RS{h:cX}{H:Hp}{b:ah}{o:gS}(e:h.get? b=some o)(n:H b=none):(Fu h H).get? b=some o:=PySem.W.hideAll_get _ e λhm=>by have q:(H b).isSome=true:=(dE.mp hm).2;rw[n]at q;simp at q
theorem We{h:cX}{H:Hp}{b:ah}{o:gS}(e:(Fu h H).get? b=some o):h.get? b=some o/\H b=none:=by
 have e':h.get? b=some o:=PySem.W.of_hideAll (trk h H) e;refine⟨e',?_⟩;cases q:H b with|none=>rfl|some x=>have hm:b∈trk h H:=dE.mpr ⟨eV.mpr (bw e'),by simp[q]⟩;have z:(Fu h H).get? b=none:=PySem.W.hideAll_none (trk h H) hm;rw[z]at e;cases e
structure Mod(K:ak)(mg:bT->Option aj)(base:cX):Prop where
 kin:K.In base
 Fv:base.Ns cb mg
 blt:∃mb,base.Ns ac5 mb/\∀x:bT,x≠"__name__"->mb x=mi x
 nolimit:base.NoLimit
structure Cx where
 prog:a7
 w:bP
 K:ak
 mg:bT->Option aj
 base:cX
 A:cT
 N:List bT
 Ek:aA
 H_0:Hp
 bW:Mj
 bN:List Mj
 stack:List Mj
 ex:List ah
 fn:bT->Bool
 calm:Bool
 pn:List (ah×gS)
 xe:aj->aA->Prop
def QH(l:List Mj):List ah:=l.filterMap (·.frame)
abbrev Cx.fs(X:Cx):List ah:=QH X.bN
def Vis(sc:mY)(x:bT):Prop:=sc.names.lookup x=some .local\/sc.names.lookup x=some .cell\/sc.names.lookup x=some .free
def Loc(sc:mY)(x:bT):Prop:=sc.names.lookup x=some .local\/sc.names.lookup x=some .cell
def akm(bW:Mj)(h:cX)(m:bT->Option aj)(x:bT)(u:aj):Prop:=(bW.kindOf x=some .local/\m x=some u)\/((bW.kindOf x=some .cell\/bW.kindOf x=some .free)/\∃c,bW.cells.lookup x=some c/\h.IsCell c (some u))
structure Cx.Ok(X:Cx):Prop where
 Fw:Mod X.K X.mg X.base
 kind:X.bW.scope.kind= .function
 Fv:X.bW.globals=cb
 blt:X.bW.builtins=ac5
 above:X.Ek.heap.objs.size<=X.bW.locals
 inj:∀x y c,X.bW.cells.lookup x=some c->X.bW.cells.lookup y=some c->x=y
 has:∀x,(X.bW.kindOf x=some .cell\/X.bW.kindOf x=some .free)->∃c,X.bW.cells.lookup x=some c
 cab:∀x c,X.fn x=true->X.bW.cells.lookup x=some c->X.Ek.heap.objs.size<=c
 hd:X.calm=true->X.A.handled=none
 frames:X.A.frames=some X.stack
 stk:X.stack=X.bN\/(X.stack=X.bW::X.bN/\X.bW.frame=some X.bW.locals)
 exf:∀b∈X.ex,b≠X.bW.locals/\∀x c,X.bW.cells.lookup x=some c->c≠b
 bs:∀b o,X.base.get? b=some o->X.Ek.heap.get? b=some o/\X.H_0 b=none
 RT:X.base.objs.size<=X.Ek.heap.objs.size
 RU:∀b o,X.base.get? b=some o->b∉X.ex
 RV:∀b∈X.ex,b∉X.fs
 yE:X.Ek.heap.FunFrames X.base X.bN
 Wf:∀b∈X.fs,X.H_0 b=none
structure Inv(X:Cx)(pins:List (ah×gS))(σ:List (Option V))(H:Hp)(s:aA):Prop where
 ok:X.Ok
 os:s.os=X.Ek.os
 pG:D5 s.gens
 base:Un X.fs X.ex X.H_0 H X.Ek.heap s.heap
 Ik:∃m,s.heap.Ns X.bW.locals m/\∀(i:Nat)(x:bT)(v:V),X.N[i]? =some x->σ[i]? =some (some v)->Vis X.bW.scope x->∃u,RelV v u/\akm X.bW s.heap m x u
 cell:∀x c,X.bW.cells.lookup x=some c->∃v,s.heap.IsCell c v
 free:H X.bW.locals=none
 qR:∀x c,X.bW.cells.lookup x=some c->H c=none
 MG:∀p∈X.pn++pins,s.heap.get? p.1=some p.2/\H p.1=none/\p.1≠X.bW.locals/\p.1∉X.fs/\∀v,p.2.data≠.cell v
 d5:rV X.prog X.w H s.heap
 fD:σ.length=X.N.length
section
variable{X:Cx}{pins:List (ah×gS)}{σ:List (Option V)}{H H':Hp}{s:aA}{h':cX}
theorem Cx.Ok.akn(ok:X.Ok){b:ah}{o:gS}(e:X.base.get? b=some o):b∉X.fs:= λhb=>by have:=(ok.yE.mem hb).1;rw[e]at this;cases this
theorem Inv.bs(I:Inv X pins σ H s):∀b o,X.base.get? b=some o->s.heap.get? b=some o/\H b=none:= λb o e=>⟨I.base.keep b o (I.ok.bs b o e).1 (I.ok.bs b o e).2 (I.ok.akn e) (I.ok.RU b o e),I.base.free b o (I.ok.bs b o e).1 (I.ok.bs b o e).2 (I.ok.RU b o e)⟩
theorem Inv.bk(I:Inv X pins σ H s):∀b o,X.base.get? b=some o->s.heap.get? b=some o:= λb o e=>(I.bs b o e).1
theorem Inv.Fw(I:Inv X pins σ H s):Mod X.K X.mg X.base:=I.ok.Fw
theorem Inv.MH(I:Inv X pins σ H s):X.K.In s.heap:=I.ok.Fw.kin.keeps I.bk
theorem Inv.fr(I:Inv X pins σ H s):∃m,Fr X.base X.bW.locals s.heap m:=let⟨m,hn,_⟩:=I.Ik;⟨m,hn,I.bk,aW I.ok.RT I.ok.above⟩
theorem Inv.lt(I:Inv X pins σ H s):X.bW.locals<s.heap.objs.size:=let⟨_,hn,_⟩:=I.Ik;hn.lt
theorem Inv.sz(I:Inv X pins σ H s):X.Ek.heap.objs.size<=s.heap.objs.size:=aW I.ok.above (j6 I.lt)
theorem Inv.ako(I:Inv X pins σ H s){a:ah}(h:s.heap.objs.size<=a):a∉X.fs:= λhb=>by obtain⟨_,o,ho,_⟩:=I.ok.yE.mem hb;exact absurd (bX (bw ho) (aW I.sz h)) (fI _)
theorem Inv.cne(I:Inv X pins σ H s):∀x c,X.bW.cells.lookup x=some c->c≠X.bW.locals:= λx c e z=>by obtain⟨v,o,ho,hd⟩:=I.cell x c e;obtain⟨m,⟨o',es,ep,zH,Ai,_⟩,_⟩:=I.Ik;rw[z,zH]at ho;cases ho;rw[Ai]at hd;cases hd
theorem Inv.yE(I:Inv X pins σ H s):s.heap.FunFrames X.base X.bN:=by
 have all:∀(l:List Mj),(∀b∈QH l,b∈X.fs)->X.Ek.heap.FunFrames X.base l->s.heap.FunFrames X.base l:=by
  intro l;induction l with
  |nil=>intro _ _;trivial|cons bW r ih=>intro hs hl;obtain⟨hk,⟨L,o,hf,hn,ho,hd⟩,hr⟩:=hl;have hL:L∈X.fs:=hs L (by unfold QH;rw[bI,hf];exact aC);obtain⟨sl,e⟩:=I.base.slot L o ho (I.ok.Wf L hL) hL λz=>I.ok.RV L z hL;exact⟨hk,⟨L,_,hf,hn,e,hd⟩,ih (λb hb=>hs b (by unfold QH;rw[bI,hf];exact az _ hb)) hr⟩
 exact all X.bN (λ_ hb=>hb) I.ok.yE
theorem Inv.stack(I:Inv X pins σ H s):s.heap.FunFrames X.base X.stack:=by
 rcases I.ok.stk with e|⟨e,hf⟩
 ·rw[e];exact I.yE
 ·rw[e];obtain⟨m,hn,_⟩:=I.Ik;refine .cons (by rw[I.ok.kind];decide) hf hn ?_ I.yE;exact cX.get?_none_of_le (aW I.ok.RT I.ok.above)
theorem Inv.KH(I:Inv X pins σ H s):∀b∈QH X.stack,b∈X.bW.locals::X.fs:= λb hb=>by
 rcases I.ok.stk with e|⟨e,hf⟩
 ·rw[e]at hb;exact az _ hb
 ·rw[e]at hb;unfold QH at hb;rw[bI,hf]at hb;exact hb
theorem Inv.MI(I:Inv X pins σ H s):∀b∈QH X.stack,H b=none:= λb hb=>by
 rcases aU.mp (I.KH b hb)with e|hb
 ·rw[e];exact I.free
 ·obtain⟨_,o,ho,_⟩:=I.ok.yE.mem hb;exact I.base.free b o ho (I.ok.Wf b hb) λz=>I.ok.RV b z hb
theorem Inv.step{g':Array GenState}{t':Nat}{d':Drawn}{ch:List ah}(I:Inv X pins σ H s)(KI:∀b∈ch,(b∈X.ex\/X.Ek.heap.objs.size<=b)/\b≠X.bW.locals/\(∀x c,X.bW.cells.lookup x=some c->c≠b)/\∀p∈X.pn++pins,p.1≠b)(keep:∀b o,b≠X.bW.locals->b∉X.fs->b∉ch->s.heap.get? b=some o->H b=none->h'.get? b=some o)(slot:∀b o,b≠X.bW.locals->b∈X.fs->b∉ch->s.heap.get? b=some o->H b=none->∃sl,h'.get? b=some {o with slots:=sl})(free:∀b o,b∉ch->s.heap.get? b=some o->H b=none->H' b=none)(ub:∀b o,b∉ch->s.heap.get? b=some o->∃o',h'.get? b=some o')(Dp:∀b xs,H b=some (.bV xs)->H' b=some (.bV xs))(Ao:∀b o u,H b=some (.nB o u)->H' b=some (.nB o u))(Dq:∀b ps,H b=some (.Z_ ps)->∃more,H' b=some (.Z_ (ps++more)))(ns:∀m,s.heap.Ns X.bW.locals m->h'.Ns X.bW.locals m)(d5:rV X.prog X.w H' h')(hg:D5 g'):Inv X pins σ H' {s with heap:=h',gens:=g',drawn:=d',toks:=t'}:=by
 have neL:∀b o,X.Ek.heap.get? b=some o->b≠X.bW.locals:= λb o e=>b4 (bX (bw e) I.ok.above);have neC:∀b o,X.Ek.heap.get? b=some o->b∉X.ex->b∉ch:= λb o e hx hb=>by
  rcases(KI b hb).1 with z|z
  ·exact hx z
  ·exact absurd (bX (bw e) z) (fI _)
 have Ym:∀x c,X.bW.cells.lookup x=some c->∀v,s.heap.IsCell c v->h'.IsCell c v:= λx c e v ⟨o,ho,hd⟩=>by
  have nch:c∉ch:= λz=>(KI c z).2.2.1 x c e rfl;by_cases hc:c∈X.fs
  ·obtain⟨sl,q⟩:=slot c o (I.cne x c e) hc nch ho (I.qR x c e);exact⟨_,q,hd⟩
  ·exact⟨o,keep c o (I.cne x c e) hc nch ho (I.qR x c e),hd⟩
 refine⟨I.ok,I.os,hg,⟨λb o e n hb hx=>?_,λb o e n hb hx=>?_,λb o e n hx=>?_,λb o e hx=>?_,λb xs e=>Dp b xs (I.base.Dp b xs e),λb o xs e=>Ao b o xs (I.base.Ao b o xs e),λb ps e=>?_⟩,?_,λx c e=>?_,?_,λx c e=>?_,λp hp=>?_,d5,I.fD⟩
 ·exact keep b o (neL b o e) hb (neC b o e hx) (I.base.keep b o e n hb hx) (I.base.free b o e n hx)
 ·obtain⟨sl,e1⟩:=I.base.slot b o e n hb hx;obtain⟨sl',e2⟩:=slot b _ (neL b o e) hb (neC b o e hx) e1 (I.base.free b o e n hx);exact⟨sl',e2⟩
 ·obtain⟨o',e1⟩:=I.base.ub b o e hx;exact free b o' (neC b o e hx) e1 (I.base.free b o e n hx)
 ·obtain⟨o',e1⟩:=I.base.ub b o e hx;exact ub b o' (neC b o e hx) e1
 ·obtain⟨m1,e1⟩:=I.base.Dq b ps e;obtain⟨m2,e2⟩:=Dq b _ e1;exact⟨m1++m2,by rw[e2,Array.append_assoc]⟩
 ·obtain⟨m,hn,hl⟩:=I.Ik;refine⟨m,ns m hn,λi x v e1 e2 e3=>?_⟩;obtain⟨u,r,l⟩:=hl i x v e1 e2 e3;refine⟨u,r,?_⟩;rcases l with l|⟨k,c,e,z⟩
  ·exact .inl l
  ·exact .inr ⟨k,c,e,Ym x c e _ z⟩
 ·obtain⟨v,z⟩:=I.cell x c e;exact⟨v,Ym x c e v z⟩
 ·obtain⟨m,⟨o,_,_,ho,_⟩,_⟩:=I.Ik;exact free _ o (λz=>(KI _ z).2.1 rfl) ho I.free
 ·obtain⟨v,o,ho,hd⟩:=I.cell x c e;exact free c o (λz=>(KI c z).2.2.1 x c e rfl) ho (I.qR x c e)
 ·obtain⟨e,n,ne,nf,d⟩:=I.MG p hp;have nch:p.1∉ch:= λz=>(KI p.1 z).2.2.2 p hp rfl;exact⟨keep p.1 p.2 ne nf nch e n,free p.1 p.2 nch e n,ne,nf,d⟩
theorem Inv.un{t':Nat}(I:Inv X pins σ H s)(u:Un X.fs [] H H' s.heap h')(d5:rV X.prog X.w H' h'):Inv X pins σ H' {s with heap:=h',toks:=t'}:=by
 obtain⟨m,⟨o,es,ep,ho,r⟩,_⟩:=id I.Ik;obtain⟨sl,hL⟩:=u.any ho I.free (by simp);exact I.step (g':=s.gens) (d':=s.drawn) (ch:=[]) (λ_ z=>nomatch z) (λb o _ hb _ e n=>u.keep b o e n hb (by simp)) (λb o _ hb _ e n=>u.slot b o e n hb (by simp)) (λb o _ e n=>u.free b o e n (by simp)) (λb o _ e=>u.ub b o e (by simp)) u.Dp u.Ao u.Dq (λm' hm=>by
  obtain⟨o',Yn,Vp,zH,r'⟩:=hm;rw[ho]at zH;cases zH
  exact⟨_,Yn,Vp,hL,r'⟩) d5 I.pG
theorem Inv.call{g':Array GenState}{t':Nat}{d':Drawn}{ch:List ah}(I:Inv X pins σ H s)(u:Un (QH X.stack) ch H H' s.heap h')(d5:rV X.prog X.w H' h')(hg:D5 g')(KI:∀b∈ch,(b∈X.ex\/X.Ek.heap.objs.size<=b)/\b≠X.bW.locals/\(∀x c,X.bW.cells.lookup x=some c->c≠b)/\∀p∈X.pn++pins,p.1≠b):Inv X pins σ H' {s with heap:=h',gens:=g',drawn:=d',toks:=t'}:=by
 obtain⟨m,⟨o,es,ep,ho,r⟩,_⟩:=id I.Ik;obtain⟨sl,hL⟩:=u.any ho I.free λz=>(KI _ z).2.1 rfl;exact I.step (ch:=ch) KI (λb o hL hb hc e n=>u.keep b o e n (λz=>(aU.mp (I.KH b z)).elim hL hb) hc) (λb o _ _ hc e n=>u.any e n hc) (λb o hc e n=>u.free b o e n hc) (λb o hc e=>u.ub b o e hc) u.Dp u.Ao u.Dq (λm' hm=>by
  obtain⟨o',Yn,Vp,zH,r'⟩:=hm;rw[ho]at zH;cases zH
  exact⟨_,Yn,Vp,hL,r'⟩) d5 hg
theorem Inv.mM{t':Nat}{it:ah}(I:Inv X pins σ H s)(k:∀b o,b≠it->s.heap.get? b=some o->h'.get? b=some o)(hn:H it=none)(hL:it≠X.bW.locals)(h1:it∈X.ex\/X.Ek.heap.objs.size<=it)(h2:∀x c,X.bW.cells.lookup x=some c->c≠it)(h3:∀p∈X.pn++pins,p.1≠it):Inv X pins σ H {s with heap:=h',toks:=t'}:=by
 have nit:∀b u,H b=some u->b≠it:= λb u e z=>by rw[z,hn]at e;cases e
 refine I.step (g':=s.gens) (d':=s.drawn) (ch:=[it]) (λb hb=>?_) (λb o _ _ hc e _=>k b o (λz=>hc (by simp[z])) e) (λb o _ _ hc e _=>⟨o.slots,k b o (λz=>hc (by simp[z])) e⟩) (λ_ _ _ _ n=>n)
  (λb o hc e=>⟨o,k b o (λz=>hc (by simp[z])) e⟩) (λ_ _ e=>e) (λ_ _ _ e=>e) (λb ps e=>⟨#[],by rw[e];simp⟩) (λm hm=>?_) (λb u e=>?_) I.pG
 ·have e:b=it:=by simpa using hb
  subst e;exact⟨h1,hL,h2,h3⟩
 ·obtain⟨o,es,ep,ho,r⟩:=hm;exact⟨o,es,ep,k _ o (iN hL) ho,r⟩
 ·refine(I.d5 b u e).BJ (λc v hc q=>k c v ?_ q) (λ_ q=>q) λ_ _ q=>q;rcases hc with z|z
  ·rw[z];exact nit b u e
  ·exact nit c _ z
theorem Inv.ww(I:Inv X pins σ H s)(t:Nat):Inv X pins σ H {s with toks:=t}:=I.un (h':=s.heap) (t':=t) Un.refl I.d5
theorem Inv.k4{t':Nat}(I:Inv X pins σ H s)(k:∀b u,s.heap.get? b=some u->h'.get? b=some u):Inv X pins σ H {s with heap:=h',toks:=t'}:=I.un (Un.k4 k) (I.d5.k4 k)
theorem Inv.rW{a:ah}{o:HO}{t':Nat}(I:Inv X pins σ H s)(k:∀b u,s.heap.get? b=some u->h'.get? b=some u)(hp:s.heap.objs.size<=a)(new:ie X.prog X.w (aP H a o) h' a o):Inv X pins σ (aP H a o) {s with heap:=h',toks:=t'}:=I.un (Un.rW k hp (I.d5.fresh hp)) (I.d5.rW k hp new)
theorem Inv.vk{x e:ah}{o:HO}{t':Nat}(I:Inv X pins σ H s)(mu:Wc (H x))(he:e=x\/H e=some (.own x))(k:∀b u,b≠e->s.heap.get? b=some u->h'.get? b=some u)(RM:∃u,h'.get? e=some u)(new:ie X.prog X.w (aP H x o) h' x o):Inv X pins σ (aP H x o) {s with heap:=h',toks:=t'}:=I.un (Un.vk mu he k RM) (I.d5.vk mu he k RM new)
theorem Inv.akp{h9:List (Option V)}(I:Inv X pins σ H s)(hl:h9.length=σ.length)(w:∀(i:Nat)v,h9[i]? =some (some v)->σ[i]? =some (some v)):Inv X pins h9 H s:=⟨I.ok,I.os,I.pG,I.base,let⟨m,hn,OH⟩:=I.Ik;⟨m,hn,λi x v e1 e2 e3=>OH i x v e1 (w i v e2) e3⟩,I.cell,I.free,I.qR,I.MG,I.d5,hl.trans I.fD⟩
theorem Inv.MJ{Yo:List (ah×gS)}(I:Inv X pins σ H s)(h:∀p∈Yo,s.heap.get? p.1=some p.2/\H p.1=none/\p.1≠X.bW.locals/\p.1∉X.fs/\∀v,p.2.data≠.cell v):Inv X Yo σ H s:=⟨I.ok,I.os,I.pG,I.base,I.Ik,I.cell,I.free,I.qR,λp hp=>(bC.mp hp).elim (λz=>I.MG p (dj _ z)) (h p),I.d5,I.fD⟩
theorem BK{N:List bT}(hN:N.Nodup){i j:Nat}{x:bT}(a:N[i]? =some x)(b:N[j]? =some x):i=j:=by obtain⟨h1,e1⟩:=ao.mp a;obtain⟨h2,e2⟩:=ao.mp b;exact(VL hN).mp (e1.trans e2.symm)
theorem El{M:Model}{A:cT}{E:aj->aA->Prop}{i:Nat}{x:bT}{v:V}{u:aj}{Q:Unit->aA->Prop}(I:Inv X pins σ H s)(hN:X.N.Nodup)(hi:X.N[i]? =some x)(hx:Loc X.bW.scope x)(r:RelV v u)(h:∀s',Inv X pins (σ.set i (some v)) H s'->(∃a,df a s.heap s'.heap/\(a=X.bW.locals\/X.bW.cells.lookup x=some a))->Q () s')(hf:X.fn x=true\/X.bW.scope.names.lookup x=some .local:=by first|exact .inl rfl|exact .inr rfl|assumption):aX M A (storeName X.bW x u) Q E s:=by
 obtain⟨m,hn,hl⟩:=id I.Ik;have akq:(X.bW.scope.kind== .class||(X.bW.scope.kind== .module&&X.bW.locals !=X.bW.globals))=false:=by rw[I.ok.kind];rfl
 have aeF:i<σ.length:=by rw[I.fD];exact(ao.mp hi).1
 have cne:=I.cne;have MK:∀{a:ah}{h':cX},(∃o,s.heap.get? a=some o/\H a=none)->df a s.heap h'->rV X.prog X.w H h':= λ{a h'} ha hs b ob e=>by
  obtain⟨_,_,qS⟩:=ha;refine(I.d5 b ob e).BJ (λc w' hc q=>(hs.2 c ?_).trans q) (λ_ q=>q) λ_ _ q=>q;rintro rfl;rcases hc with rfl|hc
  ·rw[qS]at e;cases e
  ·rw[qS]at hc;cases hc
 rcases hx with hk|hk
 ·refine wpAny_storeName_local hk hn (λh' hn' hs=>?_) akq;obtain⟨oL,_,_,Wg,_⟩:=id hn;refine h _ ⟨I.ok,I.os,I.pG,⟨λb o e n hb hx=>?_,λb o e n hb hx=>?_,I.base.free,λb o e hx=>?_,I.base.Dp,I.base.Ao,I.base.Dq⟩,⟨_,hn',λj y v' e1 e2 e3=>?_⟩,λy c e=>?_,I.free,I.qR,λp hp=>?_,MK ⟨oL,Wg,I.free⟩ hs,by simpa using I.fD⟩ ⟨_,hs,.inl rfl⟩
  ·exact(hs.2 b (b4 (bX (bw e) I.ok.above))).trans (I.base.keep b o e n hb hx)
  ·obtain⟨sl,e1⟩:=I.base.slot b o e n hb hx;exact⟨sl,(hs.2 b (b4 (bX (bw e) I.ok.above))).trans e1⟩
  ·obtain⟨o',e1⟩:=I.base.ub b o e hx;exact⟨o',(hs.2 b (b4 (bX (bw e) I.ok.above))).trans e1⟩
  ·by_cases hj:j=i
   ·subst hj;rw[hi]at e1;cases e1
    rw[tH aeF]at e2;cases e2;exact⟨u,r,.inl ⟨hk,by simp⟩⟩
   ·rw[vE (iN hj)]at e2;obtain⟨u',r',q⟩:=hl j y v' e1 e2 e3;refine⟨u',r',?_⟩;rcases q with⟨k,e⟩|⟨k,c,e,z⟩
    ·refine .inl ⟨k,?_⟩;have:y≠x:= λe=>hj (BK hN e1 (e▸hi));simp[this,e]
    ·exact .inr ⟨k,c,e,z.sameBut hs (cne y c e)⟩
  ·obtain⟨w',z⟩:=I.cell y c e;exact⟨w',z.sameBut hs (cne y c e)⟩
  ·obtain⟨e,n,ne,nf,d⟩:=I.MG p hp;exact⟨(hs.2 p.1 ne).trans e,n,ne,nf,d⟩
 ·have hfn:X.fn x=true:=by
   rcases hf with z|z
   ·exact z
   ·rw[z]at hk;cases hk
  obtain⟨c,hc⟩:=I.ok.has x (.inl hk);obtain⟨w',z⟩:=I.cell x c hc;refine wpAny_storeName_cell I.ok.kind hk hc z (λh' Kw hs=>?_);obtain⟨oc,hoc,aks⟩:=id z;refine h {s with heap:=h'} ⟨I.ok,I.os,I.pG,⟨λb o e n hb hx=>?_,λb o e n hb hx=>?_,I.base.free,λb o e hx=>?_,I.base.Dp,I.base.Ao,I.base.Dq⟩,⟨m,hn.sameBut hs (iN (cne x c hc)),λj y v' e1 e2 e3=>?_⟩,λy c' e=>?_,I.free,I.qR,λp hp=>?_,MK ⟨oc,hoc,I.qR x c hc⟩ hs,by simpa using I.fD⟩ ⟨c,hs,.inr hc⟩
  ·exact(hs.2 b (b4 (bX (bw e) (I.ok.cab x c hfn hc)))).trans (I.base.keep b o e n hb hx)
  ·obtain⟨sl,e1⟩:=I.base.slot b o e n hb hx;exact⟨sl,(hs.2 b (b4 (bX (bw e) (I.ok.cab x c hfn hc)))).trans e1⟩
  ·obtain⟨o',e1⟩:=I.base.ub b o e hx;exact⟨o',(hs.2 b (b4 (bX (bw e) (I.ok.cab x c hfn hc)))).trans e1⟩
  ·by_cases hj:j=i
   ·subst hj;rw[hi]at e1;cases e1
    rw[tH aeF]at e2;cases e2;exact⟨u,r,.inr ⟨.inl hk,c,hc,Kw⟩⟩
   ·rw[vE (iN hj)]at e2;obtain⟨u',r',q⟩:=hl j y v' e1 e2 e3;refine⟨u',r',?_⟩;rcases q with q|⟨k,c',e,z'⟩
    ·exact .inl q
    ·refine .inr ⟨k,c',e,z'.sameBut hs ?_⟩;rintro rfl;exact hj (BK hN e1 (I.ok.inj _ _ _ e hc▸hi))
  ·by_cases ZZ:c'=c
   ·subst ZZ;exact⟨_,Kw⟩
   ·obtain⟨w2,z2⟩:=I.cell y c' e;exact⟨w2,z2.sameBut hs ZZ⟩
  ·obtain⟨e,n,ne,nf,d⟩:=I.MG p hp;refine⟨(hs.2 p.1 ?_).trans e,n,ne,nf,d⟩;intro q;rw[q,hoc]at e;have q':oc=p.2:=ax e;exact d w' (by rw[<-q'];exact aks)
theorem Il{M:Model}{A:cT}{E:aj->aA->Prop}{i:Nat}{x:bT}{v:V}{u:aj}{Q:Unit->aA->Prop}(I:Inv X pins σ H s)(hN:X.N.Nodup)(hi:X.N[i]? =some x)(hx:Loc X.bW.scope x)(r:RelV v u)(h:∀s',Inv X pins (σ.set i (some v)) H s'->Q () s')(hf:X.fn x=true\/X.bW.scope.names.lookup x=some .local:=by first|exact .inl rfl|exact .inr rfl|assumption):aX M A (storeName X.bW x u) Q E s:=El I hN hi hx r (λs' I' _=>h s' I') hf
theorem Inv.aeG{s':aA}{ch:List ah}(I:Inv X pins σ H s)(ho:s'.os=s.os)(u:Un (QH X.stack) ch H H' s.heap s'.heap)(d5:rV X.prog X.w H' s'.heap)(hg:D5 s'.gens)(KI:∀b∈ch,(b∈X.ex\/X.Ek.heap.objs.size<=b)/\b≠X.bW.locals/\(∀x c,X.bW.cells.lookup x=some c->c≠b)/\∀p∈X.pn++pins,p.1≠b):Inv X pins σ H' s':=by obtain⟨h',g',d',t',o'⟩:=s';have e:o'=s.os:=ho;subst e;exact I.call (g':=g') (t':=t') (d':=d') u d5 hg KI
end
abbrev XK:=aj->Option ah->Hp->Prop
abbrev St:=List (Option V)
abbrev VK:=V->Hp->Prop
abbrev TE:=St->Hp->VK->Prop
abbrev TT:=St->Hp->(Bool->Hp->Prop)->Prop
abbrev TA:=St->Hp->(List V->Hp->Prop)->Prop
structure rX where
 nx:St->Hp->Prop
 rt:VK
 bk:St->Hp->Prop:= λ_ _=>False
 ct:St->Hp->Prop:= λ_ _=>False
abbrev TS:=rX->St->Hp->Prop
def EP(X:Cx)(pins:List (ah×gS))(σ:St)(Q:VK)(u:aj)(s':aA):Prop:=∃v H',Inv X pins σ H' s'/\RelV v u/\Q v H'
def TP(X:Cx)(pins:List (ah×gS))(σ:St)(Q:Bool->Hp->Prop)(b:Bool)(s':aA):Prop:=∃H',Inv X pins σ H' s'/\Q b H'
def AP(X:Cx)(pins:List (ah×gS))(σ:St)(Q:List V->Hp->Prop)(us:List aj)(s':aA):Prop:=∃vs H',Inv X pins σ H' s'/\dq vs us/\Q vs H'
def SP(X:Cx)(pins:List (ah×gS))(D:rX)(f:Flow)(s':aA):Prop:=match f with| .next=>∃h9 H',Inv X pins h9 H' s'/\D.nx h9 H'| .brk=>∃h9 H',Inv X pins h9 H' s'/\D.bk h9 H'| .cont=>∃h9 H',Inv X pins h9 H' s'/\D.ct h9 H'| .ret u=>∃v h9 H',Inv X pins h9 H' s'/\RelV v u/\D.rt v H'
def PE(X:Cx)(e:Expr)(t:TE):Prop:=∀(pins:List (ah×gS))(s:aA)(σ:St)(H:Hp)(Q:VK),Inv X pins σ H s->t σ H Q->aX (bA X.prog X.w) X.A (fL e X.bW) (EP X pins σ Q) X.xe s
def PT(X:Cx)(e:Expr)(t:TT):Prop:=∀(pins:List (ah×gS))(s:aA)(σ:St)(H:Hp)(Q:Bool->Hp->Prop),Inv X pins σ H s->t σ H Q->aX (bA X.prog X.w) X.A (isTrue e X.bW (fL e X.bW)) (TP X pins σ Q) X.xe s
def PW(X:Cx)(e:Expr)(t:TT):Prop:=∀(whole:QV aj)(pins:List (ah×gS))(s:aA)(σ:St)(H:Hp)(Q:Bool->Hp->Prop),Inv X pins σ H s->t σ H Q->aX (bA X.prog X.w) X.A (isTrue e X.bW whole) (TP X pins σ Q) X.xe s
theorem PW.pt{X:Cx}{e:Expr}{t:TT}(h:PW X e t):PT X e t:=h _
def PA(X:Cx)(es:List Expr)(t:TA):Prop:=∀(pos:mZ)(pins:List (ah×gS))(s:aA)(σ:St)(H:Hp)(Q:List V->Hp->Prop),Inv X pins σ H s->t σ H Q->aX (bA X.prog X.w) X.A (spliced (jd pos (cn es X.bW))) (AP X pins σ Q) X.xe s
def PS(X:Cx)(st:dZ)(t:TS):Prop:=∀(pins:List (ah×gS))(s:aA)(σ:St)(H:Hp)(D:rX),Inv X pins σ H s->t D σ H->aX (bA X.prog X.w) X.A (exec st X.bW) (SP X pins D) X.xe s
def OU(X:Cx)(st:List dZ)(t:TS):Prop:=∀(pins:List (ah×gS))(s:aA)(σ:St)(H:Hp)(D:rX),Inv X pins σ H s->t D σ H->aX (bA X.prog X.w) X.A (execs st X.bW) (SP X pins D) X.xe s
theorem fJ{α:Type}{t:QV α}{Q Q':α->aA->Prop}{M:Model}{A:cT}{E:aj->aA->Prop}{s:aA}(h:aX M A t Q E s)(hQ:∀a s,Q a s->Q' a s):aX M A t Q' E s:=gp h hQ λ_ _ x=>x
section
variable{X:Cx}
theorem bin{a b:Expr}{ta tb:TE}(ha:PE X a ta)(hb:PE X b tb){pins:List (ah×gS)}{s:aA}{σ:St}{H:Hp}{R:V->V->Hp->Prop}(I:Inv X pins σ H s)(h:ta σ H λx H1=>tb σ H1 λy H2=>R x y H2){α:Type}{Q:α->aA->Prop}{f:aj->aj->QV α}(hf:∀v u s2 x y H2,Inv X pins σ H2 s2->RelV x v->RelV y u->R x y H2->aX (bA X.prog X.w) X.A (f v u) Q X.xe s2):aX (bA X.prog X.w) X.A (fL a X.bW) (λv ir=>aX (bA X.prog X.w) X.A (fL b X.bW) (λu qT=>aX (bA X.prog X.w) X.A (f v u) Q X.xe qT) X.xe ir) X.xe s:=by refine fJ (ha pins s σ H _ I h) λv s1 ⟨x,H1,I1,r1,q1⟩=>?_;refine fJ (hb pins s1 σ H1 _ I1 q1) λu s2 ⟨y,H2,I2,r2,q2⟩=>?_;exact hf v u s2 x y H2 I2 r1 r2 q2
inductive rY(i:Nat)(σ:St)(H:Hp)(Q:VK):Prop
 |mk (v:_) (_:σ[i]? =some (some v)) (_:Q v H)
def tC(v:V):TE:= λ_ H Q=>Q v H
theorem aac{i:Nat}{x:bT}{pos:mZ}(hN:X.N[i]? =some x)(hv:Vis X.bW.scope x)(hd:(x==("__debug__":bT))=false:=by decide)(RL:(x==("__classdict__":bT))=false:=by decide):PE X (.Name x pos) (rY i):=by
 intro pins s σ H Q I h;obtain⟨v,e,h⟩:=h;obtain⟨m,hn,hl⟩:=I.Ik;obtain⟨u,r,l⟩:=hl i x v hN e hv;have oH:EP X pins σ Q u s:=⟨v,H,I,r,h⟩;rcases l with⟨hk,hm⟩|⟨hk,c,hc,Yp⟩
 ·exact ac6 (wpAny_loadName_local I.ok.kind hk hn hm oH) hd
 ·rcases hk with hk|hk
  ·exact ac6 (wpAny_loadName_cell I.ok.kind hk hc Yp oH) hd
  ·exact ac6 (wpAny_loadName_free I.ok.kind hk hc Yp oH RL) hd
theorem aR{i j pos}:PE X (.Constant (.int i) j pos) (tC (.int i)):= λ_ _ _ H _ I h=>wpAny_Constant_int ⟨.int i,H,I.ww _,⟨_,rfl⟩,h⟩
theorem lD{b j pos}:PE X (.Constant (.bool b) j pos) (tC (.bl b)):= λ_ _ _ H _ I h=>Constant_bool ⟨.bl b,H,I,rfl,h⟩
theorem gd{j pos}:PE X (.Constant .none j pos) (tC .non):= λ_ _ _ H _ I h=>Constant_none ⟨.non,H,I,rfl,h⟩
def Gl(X:Cx)(x:bT):Prop:=X.bW.kindOf x=some .globalImplicit
theorem AQ{E:aj->aA->Prop}{pins:List (ah×gS)}{s:aA}{σ:St}{H:Hp}{x:bT}{u:aj}{pos:mZ}{Q:aj->aA->Prop}(I:Inv X pins σ H s)(hg:Gl X x)(hm:X.mg x=some u)(h:Q u s)(hd:(x==("__debug__":bT))=false:=by decide):aX (bA X.prog X.w) X.A (fL (.Name x pos) X.bW) Q E s:=D6 I.ok.kind hg (Calls.loadGlobal_global (by rw[I.ok.Fv];exact I.Fw.Fv.keeps I.bk) hm h) hd
theorem rZ{E:aj->aA->Prop}{pins:List (ah×gS)}{s:aA}{σ:St}{H:Hp}{x:bT}{u:aj}{pos:mZ}{Q:aj->aA->Prop}(I:Inv X pins σ H s)(hg:Gl X x)(hm:X.mg x=none)(hv:mi x=some u)(h:Q u s)(hn:x≠"__name__":=by decide)(hd:(x==("__debug__":bT))=false:=by decide):aX (bA X.prog X.w) X.A (fL (.Name x pos) X.bW) Q E s:=by obtain⟨mb,h1,h2⟩:=I.Fw.blt;exact D6 I.ok.kind hg (Calls.loadGlobal_builtin (by rw[I.ok.Fv];exact I.Fw.Fv.keeps I.bk) hm (by rw[I.ok.blt];exact h1.keeps I.bk) ((h2 x hn).trans hv) h) hd
theorem Wh{x:bT}{v:V}{u:aj}{pos:mZ}(hg:Gl X x)(hm:X.mg x=some u)(r:RelV v u)(hd:(x==("__debug__":bT))=false:=by decide):PE X (.Name x pos) (tC v):= λ_ _ _ H _ I h=>AQ I hg hm ⟨v,H,I,r,h⟩ hd
variable{a b:Expr}{ta tb:TE}{pos:mZ}
def PC(X:Cx)(op:QY)(a b:Expr)(t:TE):Prop:=∀(pins:List (ah×gS))(s:aA)(σ:St)(H:Hp)(Q:VK),Inv X pins σ H s->t σ H Q->aX (bA X.prog X.w) X.A (fL a X.bW) (λv ir=>aX (bA X.prog X.w) X.A (fL b X.bW) (λu qT=>aX (bA X.prog X.w) X.A (fj op v u) (EP X pins σ Q) X.xe qT) X.xe ir) X.xe s
inductive tB_(Q:Bool->Hp->Prop)(x:V)(H1:Hp):Prop
 |mk (c:_) (_:x= .bl c) (_:Q c H1)
def tB(t:TE):TT:= λσ H Q=>t σ H λx H1=>tB_ Q x H1
theorem Fx{op:QY}{t:TE}(h:PC X op a b t)(h1:behindInMarks op b=false:=by first|exact aeH _ (by decide) (by decide)|rfl):PT X (.Compare a [op] [b] pos) (tB t):=by intro pins s σ H Q I hw;refine VM (fJ (h pins s σ H _ I hw) λv s1 h1=>fJ h1 λu s2 h2=>fJ h2 λc s3 ⟨x,H1,I1,r1,q1⟩=>?_) h1;obtain⟨d,rfl,q⟩:=q1;cases r1;exact cR ⟨H1,I1,q⟩
theorem lN{e:Expr}{t:TE}(h:PE X e t)(he:∀whole,isTrue e X.bW whole=(do let v<-whole;D7 e.pos;re [v] (truthy v)):=by intro _;rfl):PT X e (tB t):=by intro pins s σ H Q I hw;refine isTrue_plain (fJ (h pins s σ H _ I hw) λv s1 ⟨x,H1,I1,r1,q1⟩=>?_) (he _);obtain⟨d,rfl,q⟩:=q1;cases r1;exact cR ⟨H1,I1,q⟩
variable{tA tB':TT}{dB:List Expr}
def akt(t u:TT):TT:= λσ H Q=>t σ H λc H1=>if c=true then u σ H1 Q else Q false H1
def tOr(t u:TT):TT:= λσ H Q=>t σ H λc H1=>if c=true then Q true H1 else u σ H1 Q
def aku(t:TT):TT:= λσ H Q=>t σ H λc H1=>Q (!c) H1
theorem r9(ha:PT X a tA):PW X (.BoolOp .And [a] pos) tA:=by
 intro wh pins s σ H Q I h;refine isTrue_and (fJ (ha pins s σ H Q I h) λc s1 e=>?_);cases c with|true=>exact isTrue_and_nil e|false=>exact e
theorem KJ(ha:PT X a tA):PW X (.BoolOp .Or [a] pos) tA:=by
 intro wh pins s σ H Q I h;refine isTrue_or (fJ (ha pins s σ H Q I h) λc s1 e=>?_);cases c with|false=>exact isTrue_or_nil e|true=>exact e
theorem r_(ha:PT X a tA)(hb:PW X (.BoolOp .And (b::dB) pos) tB'):PW X (.BoolOp .And (a::b::dB) pos) (akt tA tB'):=by
 intro wh pins s σ H Q I h;refine isTrue_and (fJ (ha pins s σ H _ I h) λc s1 ⟨H1,I1,q1⟩=>?_);cases c with|true=>exact hb wh pins s1 σ H1 Q I1 q1|false=>exact⟨H1,I1,q1⟩
theorem Em(ha:PT X a tA)(hb:PW X (.BoolOp .Or (b::dB) pos) tB'):PW X (.BoolOp .Or (a::b::dB) pos) (tOr tA tB'):=by
 intro wh pins s σ H Q I h;refine isTrue_or (fJ (ha pins s σ H _ I h) λc s1 ⟨H1,I1,q1⟩=>?_);cases c with|true=>exact⟨H1,I1,q1⟩|false=>exact hb wh pins s1 σ H1 Q I1 q1
theorem o_(ha:PT X a tA):PT X (.UnaryOp .Not a pos) (aku tA):=by intro pins s σ H Q I h;exact isTrue_not (ha pins s σ H (λc H1=>Q (!c) H1) I h)
inductive aad(tb:TE)(σ:St)(Q:VK)(x:V)(H1:Hp):Prop
 |mk (c:_) (_:x= .bl c) (_:if c=true then tb σ H1 Q else Q (.bl false) H1)
def aeI(ta tb:TE):TE:= λσ H Q=>ta σ H λx H1=>aad tb σ Q x H1
inductive aae(Q:VK)(x:V)(H1:Hp):Prop
 |mk (c:_) (_:x= .bl c) (_:Q (.bl (!c)) H1)
def aeJ(ta:TE):TE:= λσ H Q=>ta σ H λx H1=>aae Q x H1
theorem aaf{op}{t:TE}(h:PE X a t):PE X (.BoolOp op [a] pos) t:= λpins s σ H Q I hw=>BoolOp_one (h pins s σ H Q I hw)
theorem aag(ha:PE X a ta)(hb:PE X (.BoolOp .And (b::dB) pos) tb):PE X (.BoolOp .And (a::b::dB) pos) (aeI ta tb):=by
 intro pins s σ H Q I h;refine BoolOp_and (fJ (ha pins s σ H _ I h) λv s1 ⟨x,H1,I1,r1,q1⟩=>?_);obtain⟨c,rfl,q1⟩:=q1;cases r1;refine cR ?_;cases c with|true=>exact hb pins s1 σ H1 Q I1 q1|false=>exact⟨.bl false,H1,I1,rfl,q1⟩
theorem aah(ha:PE X a ta):PE X (.UnaryOp .Not a pos) (aeJ ta):=by intro pins s σ H Q I h;refine UnaryOp_ (fJ (ha pins s σ H _ I h) λv s1 ⟨x,H1,I1,r1,q1⟩=>?_);obtain⟨c,rfl,q1⟩:=q1;cases r1;exact not_of (cR ⟨.bl (!c),H1,I1,rfl,q1⟩)
def tIf(t:TT)(ta tb:TE):TE:= λσ H Q=>t σ H λc H1=>if c=true then ta σ H1 Q else tb σ H1 Q
theorem BL{c:Expr}(hc:PT X c tA)(ha:PE X a ta)(hb:PE X b tb):PE X (.IfExp c a b pos) (tIf tA ta tb):=by
 intro pins s σ H Q I h;refine wpAny_IfExp (fJ (hc pins s σ H _ I h) λd s1 ⟨H1,I1,q1⟩=>?_);cases d with|true=>exact ha pins s1 σ H1 Q I1 q1|false=>exact hb pins s1 σ H1 Q I1 q1
end
def cv(K:ak)(H:Hp)(a:ah)(xs:List V):Prop:=Rd H a (.be xs)\/∃(o:gS)(cc:Array aj)(n:Nat),K.lookup a=some o/\o.cls= .type "list"/\o.dict=none/\o.data= .seq cc n/\cc.size<=al/\dq xs cc.toList
def eh(K:ak)(H:Hp)(a:ah)(xs:List V):Prop:=Rd H a (.bV xs)\/∃(o:gS)(cc:Array aj)(n:Nat),K.lookup a=some o/\o.cls= .type "tuple"/\o.data= .seq cc n/\cc.size<=al/\dq xs cc.toList
def akv:aj->Option V
 | .none=>some .non| .bool b=>some (.bl b)| .int i _=>some (.int i)| .str x _=>some (.str x)| .bytes b _=>some (.G8 b)| .float b _=>some (.Yg b)| .ref a=>some (.ref a)| .type n=>some (.ty n)|_=>none
theorem RelV.abs{x:V}{u:aj}(r:RelV x u):akv u=some x:=by
 cases x with
 |non=>cases r;rfl|bl _=>cases r;rfl|int _=>obtain⟨t,rfl⟩:=r;rfl
 |str _=>obtain⟨t,rfl⟩:=r;rfl
 |G8 _=>obtain⟨t,rfl⟩:=r;rfl
 |Yg _=>obtain⟨t,rfl⟩:=r;rfl
 |ref _=>cases r;rfl|ty _=>cases r;rfl
theorem RelV.inj{x y:V}{u:aj}(r:RelV x u)(q:RelV y u):x=y:=ax (r.abs.symm.trans q.abs)
theorem dq.inj:∀{xs ys:List V}{us:List aj},dq xs us->dq ys us->xs=ys
 |_,_,_,.nil,.nil=>rfl|_,_,_,.cons r t,.cons r' t'=>by rw[r.inj r',dq.inj t t']
section
variable{X:Cx}{pins:List (ah×gS)}{σ:St}{H:Hp}{s:aA}{a:ah}{xs ys:List V}
theorem cv.of{K:ak}(h:H a=some (.be xs)):cv K H a xs:= .inl (.inl h)
theorem eh.of{K:ak}(h:H a=some (.bV xs)):eh K H a xs:= .inl (.inl h)
theorem Inv.list(I:Inv X pins σ H s)(h:cv X.K H a xs):∃cc:List aj,dq xs cc/\PlainL s.heap a cc.toArray/\xs.length<=al:=by
 rcases h with h|⟨o,cc,n,hk,hc,hd,hs,hz,r⟩
 ·obtain⟨z,cc,n,r,e⟩:=h.ok I.d5;exact⟨cc,r,⟨_,n,e,rfl,rfl,rfl⟩,z⟩
 ·refine⟨cc.toList,r,⟨o,n,I.MH a o hk,hc,hd,by simpa using hs⟩,?_⟩;have e:=r.length;simp only[cY]at e;omega
theorem Inv.tuple(I:Inv X pins σ H s)(h:eh X.K H a xs):∃cc:List aj,dq xs cc/\IsTup s.heap a cc.toArray/\xs.length<=al:=by
 rcases h with h|⟨o,cc,n,hk,hc,hs,hz,r⟩
 ·obtain⟨z,cc,r,p⟩:=h.ok I.d5;exact⟨cc,r,p,z⟩
 ·refine⟨cc.toList,r,⟨o,I.MH a o hk,hc,n,by simpa using hs⟩,?_⟩;have e:=r.length;simp only[cY]at e;omega
theorem Inv.Im(I:Inv X pins σ H s)(h:cv X.K H a xs)(h':cv X.K H a ys):xs=ys:=by
 obtain⟨cc,r,⟨o,n,e,_,_,d⟩,_⟩:=I.list h;obtain⟨its',r',⟨o',n',e',_,_,d'⟩,_⟩:=I.list h';rw[e]at e';cases e'
 rw[d]at d';injection d' with d1 _;have:cc=its':=by simpa using congrArg J8 d1
 subst this;exact r.inj r'
theorem Inv.En(I:Inv X pins σ H s)(h:eh X.K H a xs)(h':eh X.K H a ys):xs=ys:=by
 obtain⟨cc,r,⟨o,e,_,n,d⟩,_⟩:=I.tuple h;obtain⟨its',r',⟨o',e',_,n',d'⟩,_⟩:=I.tuple h';rw[e]at e';cases e'
 rw[d]at d';injection d' with d1 _;have:cc=its':=by simpa using congrArg J8 d1
 subst this;exact r.inj r'
end
abbrev Cx.Dr(X:Cx)(E:aj->aA->Prop):Cx:={X with xe:=E}
abbrev Cx.nox(X:Cx):Cx:=X.Dr λ_ _=>False
theorem Cx.Ok.Dr{X:Cx}(ok:X.Ok)(E:aj->aA->Prop):(X.Dr E).Ok:=⟨ok.Fw,ok.kind,ok.Fv,ok.blt,ok.above,ok.inj,ok.has,ok.cab,ok.hd,ok.frames,ok.stk,ok.exf,ok.bs,ok.RT,ok.RU,ok.RV,ok.yE,ok.Wf⟩
theorem Cx.Ok.uc{X:Cx}{E:aj->aA->Prop}(ok:(X.Dr E).Ok):X.Ok:=⟨ok.Fw,ok.kind,ok.Fv,ok.blt,ok.above,ok.inj,ok.has,ok.cab,ok.hd,ok.frames,ok.stk,ok.exf,ok.bs,ok.RT,ok.RU,ok.RV,ok.yE,ok.Wf⟩
section
variable{X:Cx}{pins:List (ah×gS)}{σ:St}{H:Hp}{s:aA}{E:aj->aA->Prop}
theorem Inv.Dr(I:Inv X pins σ H s)(E:aj->aA->Prop):Inv (X.Dr E) pins σ H s:=⟨I.ok.Dr E,I.os,I.pG,I.base,I.Ik,I.cell,I.free,I.qR,I.MG,I.d5,I.fD⟩
theorem Inv.uc(I:Inv (X.Dr E) pins σ H s):Inv X pins σ H s:=⟨I.ok.uc,I.os,I.pG,I.base,I.Ik,I.cell,I.free,I.qR,I.MG,I.d5,I.fD⟩
theorem SP.uc{D:rX}{f:Flow}{s':aA}(h:SP (X.Dr E) pins D f s'):SP X pins D f s':=by
 cases f with
 |next=>obtain⟨h9,H',I,q⟩:=h;exact⟨h9,H',I.uc,q⟩
 |brk=>obtain⟨h9,H',I,q⟩:=h;exact⟨h9,H',I.uc,q⟩
 |cont=>obtain⟨h9,H',I,q⟩:=h;exact⟨h9,H',I.uc,q⟩
 |ret u=>obtain⟨v,h9,H',I,r,q⟩:=h;exact⟨v,h9,H',I.uc,r,q⟩
theorem OU.nox{st:List dZ}{t:TS}(h:OU X.nox st t):OU X st t:= λpins s σ H D I hw=>gp (h pins s σ H D (I.Dr _) hw) (λ_ _ q=>q.uc) λ_ _ z=>fM z
end
section
variable{X:Cx}{st:dZ}{dB:List dZ}{t u:TS}{e:Expr}{te:TE}{pos:mZ}
def Yq:TS:= λD σ H=>D.nx σ H
def OV(t u:TS):TS:= λD σ H=>t {D with nx:=u D} σ H
theorem b5:OU X [] Yq:= λ_ _ σ H _ I h=>wD ⟨σ,H,I,h⟩
theorem am(h1:PS X st t)(h2:OU X dB u):OU X (st::dB) (OV t u):=by
 intro pins s σ H D I h;refine ahL (fJ (h1 pins s σ H {D with nx:=u D} I h) λf s1 q=>?_);cases f with
 |next=>obtain⟨h9,H',I',q⟩:=q;exact h2 pins s1 h9 H' D I' q
 |ret v=>exact q|brk=>exact q|cont=>exact q
theorem aJ(h1:PS X st t):OU X [st] t:=by
 intro pins s σ H D I h;refine ahL (fJ (h1 pins s σ H D I h) λf s1 q=>?_);cases f with|next=>exact wD q|ret v=>exact q|brk=>exact q|cont=>exact q
def aeK:TS:= λD σ H=>D.ct σ H
theorem Io:PS X (.Continue pos) aeK:= λ_ _ σ H _ I h=>wpAny_Continue ⟨σ,H,I,h⟩
theorem Inv.quiet{pins:List (ah×gS)}{σ:St}{H:Hp}{s:aA}(I:Inv X pins σ H s):interactive X.bW=false:=by simp[interactive,I.ok.kind]
def Yr(te:TE):TS:= λD σ H=>te σ H λ_ H1=>D.nx σ H1
theorem fz(he:PE X e te)(hs:rB e none pos.line X.bW=i4 false:=by rfl):PS X (.Expr e pos) (Yr te):=by intro pins s σ H D I h;exact wpAny_Expr_any (fJ (he pins s σ H _ I h) λv s1 ⟨x,H1,I1,r1,q1⟩=>⟨σ,H1,I1,q1⟩) I.quiet hs
def aeL(te:TE):TS:= λD σ H=>te σ H D.rt
theorem bG(he:PE X e te):PS X (.Return (some e) pos) (aeL te):=by intro pins s σ H D I h;exact wpAny_Return_some (fJ (he pins s σ H _ I h) λv s1 ⟨x,H1,I1,r1,q1⟩=>⟨x,σ,H1,I1,r1,q1⟩)
def aeM(c:TT)(t u:TS):TS:= λD σ H=>c σ H λb H1=>if b=true then t D σ H1 else u D σ H1
theorem dD{c:Expr}{a b:List dZ}{tc:TT}(hc:PT X c tc)(ha:OU X a t)(hb:OU X b u):PS X (.If c a b pos) (aeM tc t u):=by
 intro pins s σ H D I h;refine wpAny_If (fJ (hc pins s σ H _ I h) λd s1 ⟨H1,I1,q1⟩=>?_);cases d with|true=>exact ha pins s1 σ H1 D I1 q1|false=>exact hb pins s1 σ H1 D I1 q1
end
abbrev TG:=V->St->Hp->(St->Hp->Prop)->Prop
abbrev TGs:=List V->St->Hp->(St->Hp->Prop)->Prop
def PG(X:Cx)(yF:Expr)(t:TG):Prop:=∀(pins:List (ah×gS))(s:aA)(σ:St)(H:Hp)(v:V)(u:aj)(Q:St->Hp->Prop),Inv X pins σ H s->RelV v u->t v σ H Q->aX (bA X.prog X.w) X.A (Ml yF X.bW u) (λ_ s'=>∃h9 H',Inv X pins h9 H' s'/\Q h9 H') X.xe s
def PGs(X:Cx)(ts:List Expr)(t:TGs):Prop:=∀(pins:List (ah×gS))(s:aA)(σ:St)(H:Hp)(vs:List V)(us:List aj)(Q:St->Hp->Prop),Inv X pins σ H s->dq vs us->t vs σ H Q->aX (bA X.prog X.w) X.A (assignInOrder ((pk ts X.bW).map (·.2)) us) (λ_ s'=>∃h9 H',Inv X pins h9 H' s'/\Q h9 H') X.xe s
abbrev aai:=V->V->V->Hp->(Hp->Prop)->Prop
def aeO(X:Cx)(t:aai):Prop:=∀(pins:List (ah×gS))(s:aA)(σ:St)(H:Hp)(o i v:V)(ov iv u:aj)(Q:Hp->Prop),Inv X pins σ H s->RelV o ov->RelV i iv->RelV v u->t o i v H Q->aX (bA X.prog X.w) X.A (setItem ov iv u) (λ_ s'=>∃H',Inv X pins σ H' s'/\Q H') X.xe s
section
variable{X:Cx}{pos:mZ}
def ow(i:Nat):TG:= λv σ H Q=>Q (σ.set i (some v)) H
theorem ML{i:Nat}{x:bT}(hN:X.N.Nodup)(hi:X.N[i]? =some x)(hx:Loc X.bW.scope x)(hf:X.fn x=true\/X.bW.scope.names.lookup x=some .local:=by first|exact .inl rfl|exact .inr rfl|assumption):PG X (.Name x pos) (ow i):=by intro pins s σ H v u Q I r h;exact aeb (Il I hN hi hx r (λs' I'=>⟨_,H,I',h⟩) hf)
inductive akw(vs:List V)(σ:St)(H:Hp)(Q:St->Hp->Prop):Prop
 |mk (_:vs=[]) (_:Q σ H)
inductive aeP(t:TG)(u:TGs)(vs:List V)(σ:St)(H:Hp)(Q:St->Hp->Prop):Prop
 |mk (v r:_) (_:vs=v::r) (_:t v σ H λh9 H'=>u r h9 H' Q)
theorem pY:PGs X [] akw:=by intro pins s σ H vs us Q I r h;obtain⟨e,h⟩:=h;subst e;cases r;exact assignInOrder_nil ⟨σ,H,I,h⟩
theorem gT{e:Expr}{es:List Expr}{t:TG}{u:TGs}(h1:PG X e t)(h2:PGs X es u)(hs:(pk (e::es) X.bW).map (·.2)=Ml e X.bW::(pk es X.bW).map (·.2):=by rfl):PGs X (e::es) (aeP t u):=by
 intro pins s σ H vs us Q I r h;obtain⟨v,vr,e1,h⟩:=h;subst e1;cases r with|cons r rr=>rw[hs];refine assignInOrder_cons (fJ (h1 pins s σ H _ _ _ I r h) λ_ s1 ⟨σ1,H1,I1,q1⟩=>?_);exact h2 pins s1 σ1 H1 _ _ Q I1 rr q1
inductive aeQ(K:ak)(n:Nat)(t:TGs)(v:V)(σ:St)(H:Hp)(Q:St->Hp->Prop):Prop
 |mk (a xs:_) (_:v= .ref a) (_:eh K H a xs) (_:xs.length=n) (_:t xs σ H Q)
theorem vR{es:List Expr}{k:Nat}{t:TGs}{n:Nat}(hc:X.calm=true)(h:PGs X es t)(hn:(pk es X.bW).length=n:=by rfl)(qJ:(pk es X.bW).findIdx? (·.1)=none:=by rfl):PG X (.Tuple es k pos) (aeQ X.K n t):=by intro pins s σ H v u Q I r hw;obtain⟨a,xs,e1,hq,hl,hw⟩:=hw;subst e1;cases r;obtain⟨cc,rv,ht,hz⟩:=I.tuple hq;refine assign_Tuple_tuple (I.ok.hd hc) ht (by simp[hn,<-hl,rv.length]) qJ λh' hx=>?_;have I1:Inv X pins σ H {s with heap:=h'}:=I.k4 (t':=s.toks) λb o e=>hx b o (b4 (bw e)) e;exact h pins _ σ H xs _ Q I1 (by simpa using rv) hw
def akx(to ti:TE)(t:aai):TG:= λv σ H Q=>to σ H λo H1=>ti σ H1 λi H2=>t o i v H2 λH3=>Q σ H3
theorem BM{o i:Expr}{to ti:TE}{t:aai}(ho:PE X o to)(hi:PE X i ti)(hs:aeO X t)(ha:∀v,Ml (.Subscript o i pos) X.bW v=(do
 let ov<-re [v] (fL o X.bW);let iv<-re [v,ov] (fL i X.bW)
 D7 pos
 re [v,ov,iv] (setItem ov iv v)
 release [v,ov,iv] []):=by intro _;rfl):PG X (.Subscript o i pos) (akx to ti t):=by
 intro pins s σ H v u Q I r h;rw[ha];refine ae (dP (fJ (ho pins s σ H _ I h) λov s1 ⟨x,H1,I1,r1,q1⟩=>?_));refine ae (dP (fJ (hi pins s1 σ H1 _ I1 q1) λiv s2 ⟨y,H2,I2,r2,q2⟩=>?_));refine ae (A5 (ae (dP (fJ (hs pins s2 σ H2 x y v ov iv u _ I2 r1 r2 r q2) λ_ s3 ⟨H3,I3,q3⟩=>?_))));exact wpAny_release ⟨σ,H3,I3,q3⟩
def KL(te:TE)(g:TG):TS:= λD σ H=>te σ H λx H1=>g x σ H1 D.nx
theorem BN{tg e:Expr}{te:TE}{g:TG}(he:PE X e te)(hg:PG X tg g)(hs:swapsWithSole [tg] e pos.line X.bW=i4 false:=by rfl)(hw:swappedStores [tg] e X.bW=i4 none:=by rfl)(h1:(pk [tg] X.bW).map (·.2)=[Ml tg X.bW]:=by rfl):PS X (.Assign [tg] e pos) (KL te g):=by intro pins s σ H D I h;refine wpAny_Assign_stores (fJ (he pins s σ H _ I h) λv s1 ⟨x,H1,I1,r1,q1⟩=>?_) hs hw;rw[h1];exact fJ (hg pins s1 σ H1 x v _ I1 r1 q1) λ_ s2 q=>q
theorem vS{i:Nat}{x:bT}{e:Expr}{te:TE}{sd:mZ}(hN:X.N.Nodup)(hi:X.N[i]? =some x)(hx:Loc X.bW.scope x)(he:PE X e te)(hs:rB e (some (.Name x sd)) pos.line X.bW=i4 false:=by rfl)(hf:X.fn x=true\/X.bW.scope.names.lookup x=some .local:=by first|exact .inl rfl|exact .inr rfl|assumption):PS X (.Assign [.Name x sd] e pos) (KL te (ow i)):=by intro pins s σ H D I h;refine wpAny_Assign_Name (fJ (he pins s σ H _ I h) λv s1 ⟨y,H1,I1,r1,q1⟩=>?_) hs;exact Il I1 hN hi hx r1 (λs2 I2=>⟨_,H1,I2,q1⟩) hf
end
section
variable{X:Cx}{pos:mZ}
def RW(c:TT)(tb:TS):TS:= λD σ H=>∃W:Nat->St->Hp->Prop,(∃m,W m σ H)/\∀m σ H,W m σ H->c σ H λb H1=>if b=true then∃N:St->Hp->Prop,(∀h9 H',N h9 H'->∃m',m'<m/\W m' h9 H')/\tb {D with nx:=N,ct:=N,bk:=D.nx} σ H1 else D.nx σ H1
theorem mN{c:Expr}{body:List dZ}{tc:TT}{tb:TS}(hp:PassesOwn (bA X.prog X.w) X.A X.bW X.xe)(hc:PT X c tc)(hb:OU X body tb):PS X (.While c body [] pos) (RW tc tb):=by
 intro pins s σ H D I h;obtain⟨W,⟨m0,w0⟩,KN⟩:=h;refine wpAny_While (codeAny_whileLoop (λn s'=>∃h9 H',Inv X pins h9 H' s'/\W n h9 H') ?_ m0 ⟨σ,H,I,w0⟩);rintro n s1 ⟨σ1,H1,I1,w1⟩;refine k_ hp (fJ (hc pins s1 σ1 H1 _ I1 (KN n σ1 H1 w1)) λb s2 ⟨H2,I2,q2⟩=>?_);cases b with
 |true=>
  obtain⟨N,hN,q2⟩:=q2;rw[if_pos rfl];refine k_ hp (fJ (hb pins s2 σ1 H2 _ I2 q2) λf s3 q3=>?_);cases f with
  |next=>obtain⟨RX,H3,I3,n3⟩:=q3;obtain⟨m',hm,w3⟩:=hN RX H3 n3;exact⟨m',hm,RX,H3,I3,w3⟩
  |cont=>obtain⟨RX,H3,I3,n3⟩:=q3;obtain⟨m',hm,w3⟩:=hN RX H3 n3;exact⟨m',hm,RX,H3,I3,w3⟩
  |brk=>exact q3|ret v=>exact q3
 |false=>rw[if_neg bn];exact wD ⟨σ1,H2,I2,q2⟩
end
structure It where
 go:Nat->Hp->Prop
 Ip:Nat->Hp->V->Hp->Prop
 stop:Nat->Hp->Prop
def BO(X:Cx)(pins:List (ah×gS))(H:Hp)(b:ah):Prop:=H b=none/\b≠X.bW.locals/\b∉X.fs/\(b∈X.ex\/X.Ek.heap.objs.size<=b)/\(∀x c,X.bW.cells.lookup x=some c->c≠b)/\∀p∈X.pn++pins,p.1≠b
theorem Inv.OW{X:Cx}{pins:List (ah×gS)}{σ:St}{H H':Hp}{s:aA}{b:ah}(I:Inv X pins σ H s)(hb:s.heap.objs.size<=b)(hn:H' b=none):BO X pins H' b:=by
 refine⟨hn,pO (bX I.lt hb),I.ako hb,.inr (aW I.sz hb),λx c e z=>?_,λp hp z=>?_⟩
 ·obtain⟨v,q⟩:=I.cell x c e;exact absurd (bX q.lt (by rw[z];exact hb)) (fI _)
 ·exact absurd (bX (bw (I.MG p hp).1) (by rw[z];exact hb)) (fI _)
structure Fy(P:a7)(w:bP)(K:ak)(tg:Expr)(J:It)(fp:List ah)(it:ah)(tn:Nat->cX->Prop):Prop where
 mem:it∈fp
 obj:∀i h,tn i h->∀b∈fp,∃o,h.get? b=some o/\∀v,o.data≠.cell v
 keep:∀i h h',tn i h->(∀b∈fp,∀o,h.get? b=some o->h'.get? b=some o)->tn i h'
 item:∀(X:Cx),X.prog=P->X.w=w->X.K=K->X.calm=true->∀(i:Nat)(pins:List (ah×gS))(s:aA)(σ:St)(H:Hp)(E:aj->aA->Prop),Inv X pins σ H s->(∀b∈fp,BO X pins H b)->tn i s.heap->J.go i H->
  aX (bA P w) X.A (jF (.ref it)) (λr s1=>∃u,r=some u/\aX (bA P w) X.A (wE tg (.ref it) u) (λ_ s2=>∃x H',Inv X pins σ H' s2/\RelV x u/\J.Ip i H x H'/\tn (i+1) s2.heap/\∀b∈fp,H' b=none) E s1) E s
 done:∀(X:Cx),X.prog=P->X.w=w->X.K=K->X.calm=true->∀(i:Nat)(pins:List (ah×gS))(s:aA)(σ:St)(H:Hp)(E:aj->aA->Prop),Inv X pins σ H s->(∀b∈fp,BO X pins H b)->tn i s.heap->J.stop i H->
  aX (bA P w) X.A (jF (.ref it)) (λr s1=>r=none/\Inv X pins σ H s1) E s
 Ds:∀(A:cT)(i:Nat)(s:aA)(Q:aj->aA->Prop)(E:aj->aA->Prop),tn i s.heap->Q (.ref it) s->aX (bA P w) A (zk (.ref it)) Q E s
abbrev TI:=St->Hp->(It->Hp->Prop)->Prop
def PIE(X:Cx)(pins:List (ah×gS))(σ:St)(tg:Expr)(R:It->Hp->Prop)(itv:aj)(s2:aA):Prop:=∃(it:ah)(fp:List ah)(tn:Nat->cX->Prop)(J:It)(H':Hp),itv= .ref it/\Inv X pins σ H' s2/\Fy X.prog X.w X.K tg J fp it tn/\tn 0 s2.heap/\(∀b∈fp,BO X pins H' b)/\R J H'
def PI(X:Cx)(tg nq:Expr)(wi:TI):Prop:=∀(pins:List (ah×gS))(s:aA)(σ:St)(H:Hp)(R:It->Hp->Prop),Inv X pins σ H s->wi σ H R->aX (bA X.prog X.w) X.A (fL nq X.bW) (λv s1=>aX (bA X.prog X.w) X.A (zk v) (PIE X pins σ tg R) X.xe s1) X.xe s
theorem Iq{M:Model}{A:cT}{E:aj->aA->Prop}{s:aA}{tg:Expr}{it:ah}{u:aj}{o:gS}{n:String}{vs:Array aj}{Q:Unit->aA->Prop}(ho:s.heap.get? it=some o)(hc:o.cls= .type n)(hd:o.data= .fields vs)(hn:["enumerate","zip","dict_itemiterator","dict_reverseitemiterator","odict_iterator","itertools.zip_longest","itertools.pairwise"].contains n=false)(hQ:Q () s):aX M A (wE tg (.ref it) u) Q E s:=by
 unfold wE;cases tg<;>first
  |exact au hQ
  |(cases u<;>first
   |exact au hQ
   |(refine ae (wpAny_load ho ?_);rw[hc,hd];show aX M A (if(["enumerate","zip","dict_itemiterator","dict_reverseitemiterator","odict_iterator","itertools.zip_longest","itertools.pairwise"].contains n&&vs[0]? ==some (pi _))=true then _ else _) Q E s;rw[if_neg (by intro h;rw[hn,EU]at h;cases h)];exact au hQ))
def Ys(K:ak)(a:ah):It:=⟨λi H=>∃xs x,cv K H a xs/\xs[i]? =some x,λi H x H'=>H'=H/\∀xs,cv K H a xs->xs[i]? =some x,λi H=>∃xs,cv K H a xs/\xs.length<=i⟩
def Yt(K:ak)(a:ah):It:=⟨λi H=>∃xs x,eh K H a xs/\xs[i]? =some x,λi H x H'=>H'=H/\∀xs,eh K H a xs->xs[i]? =some x,λi H=>∃xs,eh K H a xs/\xs.length<=i⟩
def Vr(lo:Int)(n:Nat):It:=⟨λi _=>i<n,λi H x H'=>H'=H/\x= .int (lo+i),λi _=>n<=i⟩
theorem OX{P:a7}{w:bP}{K:ak}{tg:Expr}(a it:ah):Fy P w K tg (Ys K a) [it] it (λi h=>h.IsListIter it a i) where
 mem:=by simp
 obj:= λi h st b hb=>by
  have e:b=it:=by simpa using hb
  subst e;obtain⟨o,e,c,d⟩:=st;exact⟨o,e,λv z=>by rw[d]at z;cases z⟩
 keep:= λi h h' st k=>st.at λo e=>k it (by simp) o e
 item:=by intro X hP hw hK hc i pins s σ H E I hf st hg;subst hP hw hK;obtain⟨xs,x,hq,hx⟩:=hg;obtain⟨cc,rv,p,hz⟩:=I.list hq;obtain⟨u,hu,ru⟩:=rv.get hx;obtain⟨f0,f1,f2,f3,f4,f5⟩:=hf it (by simp);refine wpAny_pyNext_list_item st p.isList (x:=u) (by simpa using hu) λh' zJ sb=>?_;have I1:Inv X pins σ H {s with heap:=h'}:=I.mM (t':=s.toks) (λb o hb e=>(sb.2 b hb).trans e) f0 f1 f3 f4 f5;obtain⟨o,e,c,d⟩:=id zJ;exact⟨u,rfl,Iq (s:={s with heap:=h'}) e c d (by decide) ⟨x,H,I1,ru,⟨rfl,λys hy=>by rw[I.Im hy hq];exact hx⟩,zJ,λb hb=>(hf b hb).1⟩⟩
 done:=by intro X hP hw hK hc i pins s σ H E I hf st hg;subst hP hw hK;obtain⟨xs,hq,hx⟩:=hg;obtain⟨cc,rv,p,hz⟩:=I.list hq;obtain⟨f0,f1,f2,f3,f4,f5⟩:=hf it (by simp);have hl:=rv.length;exact wpAny_pyNext_list_end (I.ok.hd hc) st p.isList (by simp;omega) λh' eb=>⟨rfl,I.mM (t':=s.toks) (λb o hb e=>eb b o hb e) f0 f1 f3 f4 f5⟩
 Ds:= λ_ _ _ _ _ st h=>wpAny_pyIter_listiter st h
theorem KO{P:a7}{w:bP}{K:ak}{tg:Expr}(a it:ah):Fy P w K tg (Yt K a) [it] it (λi h=>h.IsTupleIter it a i) where
 mem:=by simp
 obj:= λi h st b hb=>by
  have e:b=it:=by simpa using hb
  subst e;obtain⟨o,e,c,d⟩:=st;exact⟨o,e,λv z=>by rw[d]at z;cases z⟩
 keep:= λi h h' st k=>st.at λo e=>k it (by simp) o e
 item:=by intro X hP hw hK hc i pins s σ H E I hf st hg;subst hP hw hK;obtain⟨xs,x,hq,hx⟩:=hg;obtain⟨cc,rv,p,hz⟩:=I.tuple hq;obtain⟨u,hu,ru⟩:=rv.get hx;obtain⟨f0,f1,f2,f3,f4,f5⟩:=hf it (by simp);refine wpAny_pyNext_tuple_item st (show s.heap.IsTuple a cc.toArray from p) (x:=u) (by simpa using hu) λh' zJ sb=>?_;have I1:Inv X pins σ H {s with heap:=h'}:=I.mM (t':=s.toks) (λb o hb e=>(sb.2 b hb).trans e) f0 f1 f3 f4 f5;obtain⟨o,e,c,d⟩:=id zJ;exact⟨u,rfl,Iq (s:={s with heap:=h'}) e c d (by decide) ⟨x,H,I1,ru,⟨rfl,λys hy=>by rw[I.En hy hq];exact hx⟩,zJ,λb hb=>(hf b hb).1⟩⟩
 done:=by intro X hP hw hK hc i pins s σ H E I hf st hg;subst hP hw hK;obtain⟨xs,hq,hx⟩:=hg;obtain⟨cc,rv,p,hz⟩:=I.tuple hq;obtain⟨f0,f1,f2,f3,f4,f5⟩:=hf it (by simp);have hl:=rv.length;exact wpAny_pyNext_tuple_end (I.ok.hd hc) st (show s.heap.IsTuple a cc.toArray from p) (by simp;omega) λh' eb=>⟨rfl,I.mM (t':=s.toks) (λb o hb e=>eb b o hb e) f0 f1 f3 f4 f5⟩
 Ds:= λ_ _ _ _ _ st h=>wpAny_pyIter_tupleiter st h
theorem KP{P:a7}{w:bP}{K:ak}{tg:Expr}(it:ah)(lo:Int)(n:Nat):Fy P w K tg (Vr lo n) [it] it (λi h=>Hm h it (lo+(i:Nat)*1) ((n:Int)-(i:Nat)) 1) where
 mem:=by simp
 obj:= λi h st b hb=>by
  have e:b=it:=by simpa using hb
  subst e;exact⟨_,st,λv z=>by have z':Data.fields _=Data.cell v:=z;cases z'⟩
 keep:= λi h h' st k=>k it (by simp) _ st
 item:=by intro X hP hw hK hc i pins s σ H E I hf st hg;subst hP hw hK;obtain⟨f0,f1,f2,f3,f4,f5⟩:=hf it (by simp);have W:=aec (prog:=X.prog) (w:=X.w) (I.ok.hd hc) it lo 1 n;refine W.item i s _ _ hg st λv h' tk hv zJ kk=>?_;obtain⟨t,rfl⟩:=hv;have I1:Inv X pins σ H {s with heap:=h',toks:=tk}:=I.mM (λb o hb e=>kk b o (by simpa using hb) e) f0 f1 f3 f4 f5;refine⟨_,rfl,Iq (s:={s with heap:=h',toks:=tk}) (n:="range_iterator") zJ rfl rfl (by decide) ⟨.int (lo+i),H,I1,⟨t,?_⟩,⟨rfl,rfl⟩,zJ,λb hb=>(hf b hb).1⟩⟩;rw[Int.mul_one]
 done:=by intro X hP hw hK hc i pins s σ H E I hf st hg;subst hP hw hK;obtain⟨f0,f1,f2,f3,f4,f5⟩:=hf it (by simp);exact Vd (I.ok.hd hc) st (by have:n<=i:=hg;omega) λh' eb=>⟨rfl,I.mM (t':=s.toks) (λb o hb e=>eb b o hb e) f0 f1 f3 f4 f5⟩
 Ds:= λ_ _ _ _ _ st h=>Ve st h
section
variable{X:Cx}{tg:Expr}
inductive aaj(K:ak)(R:It->Hp->Prop)(x:V)(H1:Hp):Prop
 |mk (a:_) (_:x= .ref a) (_:(∃xs,cv K H1 a xs)) (_:R (Ys K a) H1)
def RY(K:ak)(tl:TE):TI:= λσ H R=>tl σ H λx H1=>aaj K R x H1
inductive aeR(K:ak)(R:It->Hp->Prop)(x:V)(H1:Hp):Prop
 |mk (a:_) (_:x= .ref a) (_:(∃xs,eh K H1 a xs)) (_:R (Yt K a) H1)
def akz(K:ak)(tl:TE):TI:= λσ H R=>tl σ H λx H1=>aeR K R x H1
theorem fA{l:Expr}{tl:TE}(hl:PE X l tl):PI X tg l (RY X.K tl):=by
 intro pins s σ H R I h;refine fJ (hl pins s σ H _ I h) λv s1 ⟨x,H1,I1,r1,q1⟩=>?_;obtain⟨a,e,⟨xs,hq⟩,q⟩:=q1;subst e;cases r1;obtain⟨cc,rv,p,hz⟩:=I1.list hq;refine aed p.isList ?_;refine⟨s1.heap.objs.size,[s1.heap.objs.size],_,_,H1,rfl,I1.k4 (t':=s1.toks) λb o e=>aI _ e,OX a _,⟨_,ba _ rfl,rfl,rfl⟩,λb hb=>?_,q⟩;have e:b=s1.heap.objs.size:=by simpa using hb
 subst e;exact I1.OW (aB _) (I1.d5.fresh (aB _))
theorem yG{l:Expr}{tl:TE}(hl:PE X l tl):PI X tg l (akz X.K tl):=by
 intro pins s σ H R I h;refine fJ (hl pins s σ H _ I h) λv s1 ⟨x,H1,I1,r1,q1⟩=>?_;obtain⟨a,e,⟨xs,hq⟩,q⟩:=q1;subst e;cases r1;obtain⟨cc,rv,p,hz⟩:=I1.tuple hq;refine wpAny_pyIter_tuple (show s1.heap.IsTuple a cc.toArray from p) ?_;refine⟨s1.heap.objs.size,[s1.heap.objs.size],_,_,H1,rfl,I1.k4 (t':=s1.toks) λb o e=>aI _ e,KO a _,⟨_,ba _ rfl,rfl,rfl⟩,λb hb=>?_,q⟩;have e:b=s1.heap.objs.size:=by simpa using hb
 subst e;exact I1.OW (aB _) (I1.d5.fresh (aB _))
theorem Ir{pins:List (ah×gS)}{σ:St}{H:Hp}{s:aA}{R:It->Hp->Prop}{E:aj->aA->Prop}{lo hi:Int}{t u v:Tok}{tk:Nat}(I:Inv X pins σ H s)(h1: -(2^62)<=lo)(h2:lo<2^62)(h3: -(2^62)<=hi)(h4:hi<2^62)(q:R (Vr lo (hi-lo).toNat) H):aX (bA X.prog X.w) X.A (zk (.ref s.heap.objs.size)) (PIE X pins σ tg R) E {s with heap:=s.heap.push {cls:= .type "range",data:= .fields #[.int lo t,.int hi u,.int 1 v]},toks:=tk}:=by
 refine ac7 (ZL ..) (small_one h1 h2 h3 h4) ?_;have I1:Inv X pins σ H {s with heap:=s.heap.push {cls:= .type "range",data:= .fields #[.int lo t,.int hi u,.int 1 v]},toks:=tk}:=I.k4 λb o e=>aI _ e;refine⟨(s.heap.push {cls:= .type "range",data:= .fields #[.int lo t,.int hi u,.int 1 v]}).objs.size,[(s.heap.push {cls:= .type "range",data:= .fields #[.int lo t,.int hi u,.int 1 v]}).objs.size],_,_,H,rfl,I1.k4 (t':=tk) λb o e=>aI _ e,KP _ lo (hi-lo).toNat,?_,λb hb=>?_,q⟩
 ·have e1:lo+((0:Nat):Int)*1=lo:=by simp
  have e2:(((hi-lo).toNat:Nat):Int)-((0:Nat):Int)=ln lo hi 1:=by rw[rangeSize_one];split<;>omega
  show Hm _ _ (lo+((0:Nat):Int)*1) ((((hi-lo).toNat:Nat):Int)-((0:Nat):Int)) 1;rw[e1,e2];exact ba _ rfl
 ·have e:b=(s.heap.push {cls:= .type "range",data:= .fields #[.int lo t,.int hi u,.int 1 v]}).objs.size:=by simpa using hb
  subst e;exact I1.OW (aB _) (I1.d5.fresh (aB _))
inductive aak(R:It->Hp->Prop)(vs:List V)(H1:Hp):Prop
 |mk (j:Int) (_:vs=[.int j]) (_: -(2^62)<=j) (_:j<2^62) (_:R (Vr 0 j.toNat) H1)
def aeS(ta:TA):TI:= λσ H R=>ta σ H λvs H1=>aak R vs H1
inductive aal(R:It->Hp->Prop)(vs:List V)(H1:Hp):Prop
 |mk (i j:Int) (_:vs=[.int i,.int j]) (_:(-(2^62)<=i/\i<2^62/\-(2^62)<=j/\j<2^62)) (_:R (Vr i (j-i).toNat) H1)
def aeT(ta:TA):TI:= λσ H R=>ta σ H λvs H1=>aal R vs H1
theorem uO{a:Expr}{ta:TA}{p pos:mZ}(hg:Gl X "range")(hm:X.mg "range"=none)(ha:PA X [a] ta)(hs:cn [a] X.bW=[(false,fL a X.bW)]:=by rfl):PI X tg (.Call (.Name "range" p) [a] [] pos) (aeS ta):=by
 intro pins s σ H R I h;refine Call_ (rZ I hg hm ac8 (fC (fJ (ha pos pins s σ H _ I h) λus s1 ⟨vs,H1,I1,r1,q1⟩=>?_) hs rfl));obtain⟨j,e,q1,q2,q⟩:=q1;subst e;cases r1 with
 |cons r rr=>cases rr;obtain⟨t,rfl⟩:=r;exact call_range_1 (Ir I1 (by omega) (by omega) q1 q2 (by simpa using q))
theorem Eo{a b:Expr}{ta:TA}{p pos:mZ}(hg:Gl X "range")(hm:X.mg "range"=none)(ha:PA X [a,b] ta)(hs:cn [a,b] X.bW=[(false,fL a X.bW),(false,fL b X.bW)]:=by rfl)(hs2:cn [b] X.bW=[(false,fL b X.bW)]:=by rfl):PI X tg (.Call (.Name "range" p) [a,b] [] pos) (aeT ta):=by
 intro pins s σ H R I h;refine Call_ (rZ I hg hm ac8 (fC (fJ (ha pos pins s σ H _ I h) λus s1 ⟨vs,H1,I1,r1,q1⟩=>?_) (by rw[hs,hs2]) (by rw[hs2];rfl)));obtain⟨i,j,e,⟨q1,q2,q3,q4⟩,q⟩:=q1;subst e;cases r1 with
 |cons r rr=>
  cases rr with
  |cons r' rr=>cases rr;obtain⟨t,rfl⟩:=r;obtain⟨t',rfl⟩:=r';exact call_range_2 (Ir I1 q1 q2 q3 q4 q)
def aan(wi:TI)(g:TG)(tb:TS):TS:= λD σ H=>wi σ H λJ H1=>∃W:Nat->Nat->St->Hp->Prop,(∃m,W 0 m σ H1)/\∀i m σ H,W i m σ H->(J.stop i H/\D.nx σ H)\/(J.go i H/\∃N:St->Hp->Prop,(∀h9 H',N h9 H'->∃m',m'<m/\W (i+1) m' h9 H')/\∀x H',J.Ip i H x H'->g x σ H' λkh H2=>tb {D with nx:=N,ct:=N,bk:=D.nx} kh H2)
def BP(fp:List ah)(h:cX):List (ah×gS):=fp.filterMap λb=>(h.get? b).map λo=>(b,o)
theorem vT{fp:List ah}{h:cX}{b:ah}{o:gS}(hb:b∈fp)(e:h.get? b=some o):(b,o)∈BP fp h:=b3.mpr ⟨b,hb,by rw[e];rfl⟩
theorem OY{fp:List ah}{h:cX}{p:ah×gS}(hp:p∈BP fp h):p.1∈fp/\h.get? p.1=some p.2:=by
 obtain⟨b,hb,e⟩:=b3.mp hp;cases q:h.get? b with|none=>rw[q]at e;cases e|some o=>rw[q]at e;have e':(b,o)=p:=ax e;subst e';exact⟨hb,q⟩
theorem Inv.RZ{pins:List (ah×gS)}{σ:St}{H:Hp}{s:aA}{fp:List ah}(I:Inv X pins σ H s)(hf:∀b∈fp,BO X pins H b)(ho:∀b∈fp,∃o,s.heap.get? b=some o/\∀v,o.data≠.cell v):Inv X (pins++BP fp s.heap) σ H s:=I.MJ λp hp=>(bC.mp hp).elim (λz=>I.MG p (cG _ z)) λz=>by
 obtain⟨hb,e⟩:=OY z;obtain⟨f0,f1,f2,_⟩:=hf p.1 hb;obtain⟨o,e',d⟩:=ho p.1 hb;rw[e]at e';cases e'
 exact⟨e,f0,f1,f2,d⟩
theorem Inv.xa{pins pl:List (ah×gS)}{σ:St}{H:Hp}{s:aA}(I:Inv X (pins++pl) σ H s):Inv X pins σ H s:=I.MJ λp hp=>I.MG p (cG _ (dj _ hp))
theorem fQ{nq:Expr}{body:List dZ}{wi:TI}{g:TG}{tb:TS}{pos:mZ}(hp:PassesOwn (bA X.prog X.w) X.A X.bW X.xe)(hc:X.calm=true)(hi:PI X tg nq wi)(hg:PG X tg g)(hb:OU X body tb)(hs:∀x,foldedSetIterable nq X.bW x=i4 x:=by intro _;rfl):PS X (.For tg nq body [] pos) (aan wi g tb):=by
 intro pins s σ H D I h;refine wpAny_For (fJ (hi pins s σ H _ I h) λv s1 h1=>fJ h1 λitv s2 h2=>?_) hs;obtain⟨it,fp,tn,J,H2,e,I2,T,st2,f2,W,⟨m0,w0⟩,KN⟩:=h2;subst e;have KQ:∀{H':Hp},(∀b∈fp,H' b=none)->∀b∈fp,BO X pins H' b:= λhn b hb=>⟨hn b hb,(f2 b hb).2⟩;refine codeAny_forLoop_any (λn s'=>∃i h9 H',Inv X pins h9 H' s'/\tn i s'.heap/\(∀b∈fp,H' b=none)/\W i n h9 H') ?_ m0 ⟨0,σ,H2,I2,st2,λb hb=>(f2 b hb).1,w0⟩;rintro n s3 ⟨i,RX,H3,I3,st3,fr3,w3⟩;rcases KN i n RX H3 w3 with⟨stop,qn⟩|⟨go,N,hN,step⟩
 ·refine k_ hp (fJ (T.done X rfl rfl rfl hc i pins s3 RX H3 X.xe I3 (KQ fr3) st3 stop) λr s4 ⟨hr,I4⟩=>?_);subst hr;exact wD ⟨RX,H3,I4,qn⟩
 ·refine k_ hp (fJ (T.item X rfl rfl rfl hc i pins s3 RX H3 X.xe I3 (KQ fr3) st3 go) λr s4 ⟨u,hr,h4⟩=>?_);subst hr;refine k_ hp (fJ h4 λ_ s5 ⟨x,H5,I5,r5,y5,st5,fr5⟩=>?_);have I5':=I5.RZ (KQ fr5) (T.obj _ _ st5);refine k_ hp (fJ (hg _ s5 RX H5 x u _ I5' r5 (step x H5 y5)) λ_ s6 ⟨σ6,H6,I6,q6⟩=>?_);refine k_ hp (fJ (hb _ s6 σ6 H6 _ I6 q6) λf s7 q7=>?_);have again:∀{R0:St}{H7:Hp},Inv X (pins++BP fp s5.heap) R0 H7 s7->N R0 H7->∃m,m<n/\∃i h9 H',Inv X pins h9 H' s7/\tn i s7.heap/\(∀b∈fp,H' b=none)/\W i m h9 H':= λ{R0 H7} I7 n7=>by obtain⟨m',hm,w7⟩:=hN R0 H7 n7;refine⟨m',hm,i+1,R0,H7,I7.xa,T.keep _ _ _ st5 λb hb o e=>(I7.MG (b,o) (cG _ (cG _ (vT hb e)))).1,λb hb=>?_,w7⟩;obtain⟨o,e,d⟩:=T.obj _ _ st5 b hb;exact(I7.MG (b,o) (cG _ (cG _ (vT hb e)))).2.1
  cases f with
  |next=>obtain⟨R0,H7,I7,n7⟩:=q7;exact again I7 n7
  |cont=>obtain⟨R0,H7,I7,n7⟩:=q7;exact again I7 n7
  |brk=>obtain⟨R0,H7,I7,q7⟩:=q7;exact⟨R0,H7,I7.xa,q7⟩
  |ret v=>obtain⟨x7,R0,H7,I7,r7,q7⟩:=q7;exact⟨x7,R0,H7,I7.xa,r7,q7⟩
end
theorem ig{K:ak}{a:ah}{xs:List V}{g:TG}{tb:TS}{D:rX}{σ:St}{H:Hp}(Pv:Nat->St->Hp->Prop)(h0:Pv 0 σ H)(hl:∀i σ H,i<=xs.length->Pv i σ H->cv K H a xs)(hs:∀i x σ H,xs[i]? =some x->Pv i σ H->g x σ H λkh H2=>tb {D with nx:=Pv (i+1),ct:=Pv (i+1),bk:=D.nx} kh H2)(hd:∀σ H,Pv xs.length σ H->D.nx σ H):∃W:Nat->Nat->St->Hp->Prop,(∃m,W 0 m σ H)/\∀i m σ H,W i m σ H->((Ys K a).stop i H/\D.nx σ H)\/((Ys K a).go i H/\∃N:St->Hp->Prop,(∀h9 H',N h9 H'->∃m',m'<m/\W (i+1) m' h9 H')/\∀x H',(Ys K a).Ip i H x H'->g x σ H' λkh H2=>tb {D with nx:=N,ct:=N,bk:=D.nx} kh H2):=by
 refine⟨λi m σ H=>m=xs.length-i/\i<=xs.length/\Pv i σ H,⟨xs.length,by simp,bj _,h0⟩,?_⟩;rintro i m σ H ⟨rfl,hi,p⟩;have q:=hl i σ H hi p;by_cases f8:i<xs.length
 ·refine .inr ⟨⟨xs,xs[i],q,by simp[f8]⟩,Pv (i+1),λh9 H' p'=>⟨xs.length-(i+1),by omega,rfl,f8,p'⟩,λx H' y=>?_⟩;obtain⟨e,y⟩:=y;subst e;exact hs i x σ _ (y xs q) p
 ·have e:i=xs.length:=by omega
  subst e;exact .inl ⟨⟨xs,q,aB _⟩,hd σ H p⟩
theorem MM{K:ak}{a:ah}{xs:List V}{g:TG}{tb:TS}{D:rX}{σ:St}{H:Hp}(Pv:Nat->St->Hp->Prop)(h0:Pv 0 σ H)(hl:∀i σ H,i<=xs.length->Pv i σ H->eh K H a xs)(hs:∀i x σ H,xs[i]? =some x->Pv i σ H->g x σ H λkh H2=>tb {D with nx:=Pv (i+1),ct:=Pv (i+1),bk:=D.nx} kh H2)(hd:∀σ H,Pv xs.length σ H->D.nx σ H):∃W:Nat->Nat->St->Hp->Prop,(∃m,W 0 m σ H)/\∀i m σ H,W i m σ H->((Yt K a).stop i H/\D.nx σ H)\/((Yt K a).go i H/\∃N:St->Hp->Prop,(∀h9 H',N h9 H'->∃m',m'<m/\W (i+1) m' h9 H')/\∀x H',(Yt K a).Ip i H x H'->g x σ H' λkh H2=>tb {D with nx:=N,ct:=N,bk:=D.nx} kh H2):=by
 refine⟨λi m σ H=>m=xs.length-i/\i<=xs.length/\Pv i σ H,⟨xs.length,by simp,bj _,h0⟩,?_⟩;rintro i m σ H ⟨rfl,hi,p⟩;have q:=hl i σ H hi p;by_cases f8:i<xs.length
 ·refine .inr ⟨⟨xs,xs[i],q,by simp[f8]⟩,Pv (i+1),λh9 H' p'=>⟨xs.length-(i+1),by omega,rfl,f8,p'⟩,λx H' y=>?_⟩;obtain⟨e,y⟩:=y;subst e;exact hs i x σ _ (y xs q) p
 ·have e:i=xs.length:=by omega
  subst e;exact .inl ⟨⟨xs,q,aB _⟩,hd σ H p⟩
theorem uP{lo:Int}{n:Nat}{g:TG}{tb:TS}{D:rX}{σ:St}{H:Hp}(Pv:Nat->St->Hp->Prop)(h0:Pv 0 σ H)(hs:∀i σ H,i<n->Pv i σ H->g (.int (lo+i)) σ H λkh H2=>tb {D with nx:=Pv (i+1),ct:=Pv (i+1),bk:=D.nx} kh H2)(hd:∀σ H,Pv n σ H->D.nx σ H):∃W:Nat->Nat->St->Hp->Prop,(∃m,W 0 m σ H)/\∀i m σ H,W i m σ H->((Vr lo n).stop i H/\D.nx σ H)\/((Vr lo n).go i H/\∃N:St->Hp->Prop,(∀h9 H',N h9 H'->∃m',m'<m/\W (i+1) m' h9 H')/\∀x H',(Vr lo n).Ip i H x H'->g x σ H' λkh H2=>tb {D with nx:=N,ct:=N,bk:=D.nx} kh H2):=by
 refine⟨λi m σ H=>m=n-i/\i<=n/\Pv i σ H,⟨n,by simp,bj _,h0⟩,?_⟩;rintro i m σ H ⟨rfl,hi,p⟩;by_cases f8:i<n
 ·refine .inr ⟨f8,Pv (i+1),λh9 H' p'=>⟨n-(i+1),by omega,rfl,f8,p'⟩,λx H' y=>?_⟩;obtain⟨e,y⟩:=y;subst e y;exact hs i σ _ f8 p
 ·have e:i=n:=by omega
  subst e;exact .inl ⟨aB _,hd σ H p⟩
abbrev R2:=V->V->Hp->VK->Prop
def uQ(X:Cx)(f:aj->aj->QV aj)(r:R2):Prop:=∀(pins:List (ah×gS))(s:aA)(σ:St)(H:Hp)(x y:V)(v u:aj)(Q:VK),Inv X pins σ H s->RelV x v->RelV y u->r x y H Q->aX (bA X.prog X.w) X.A (f v u) (EP X pins σ Q) X.xe s
def UnR(X:Cx)(f:aj->QV aj)(r:V->Hp->VK->Prop):Prop:=∀(pins:List (ah×gS))(s:aA)(σ:St)(H:Hp)(x:V)(v:aj)(Q:VK),Inv X pins σ H s->RelV x v->r x H Q->aX (bA X.prog X.w) X.A (f v) (EP X pins σ Q) X.xe s
def ud(X:Cx)(f:aj)(r:List V->Hp->VK->Prop):Prop:=∀(pins:List (ah×gS))(s:aA)(σ:St)(H:Hp)(xs:List V)(us:List aj)(Q:VK),Inv X pins σ H s->dq xs us->r xs H Q->aX (bA X.prog X.w) X.A (call f us) (EP X pins σ Q) X.xe s
def akB(X:Cx)(r:V->Hp->(Bool->Hp->Prop)->Prop):Prop:=∀(pins:List (ah×gS))(s:aA)(σ:St)(H:Hp)(x:V)(v:aj)(Q:Bool->Hp->Prop),Inv X pins σ H s->RelV x v->r x H Q->aX (bA X.prog X.w) X.A (truthy v) (TP X pins σ Q) X.xe s
def Yu(r:R2)(ta tb:TE):TE:= λσ H Q=>ta σ H λx H1=>tb σ H1 λy H2=>r x y H2 Q
def tUn(r:V->Hp->VK->Prop)(ta:TE):TE:= λσ H Q=>ta σ H λx H1=>r x H1 Q
inductive rI(C:Int->Int->Prop)(g:Int->Int->V)(x y:V)(H:Hp)(Q:VK):Prop
 |mk (i j:_) (_:x= .int i) (_:y= .int j) (_:C i j) (_:Q (g i j) H)
inductive Vs(g:Int->Int->V)(x y:V)(H:Hp)(Q:VK):Prop
 |mk (i j:_) (_:x= .int i) (_:y= .int j) (_:Q (g i j) H)
inductive rU(g:Int->V)(x:V)(H:Hp)(Q:VK):Prop
 |mk (i:_) (_:x= .int i) (_:Q (g i) H)
section
variable{X:Cx}{a b c:Expr}{ta tb tc:TE}{pos:mZ}
theorem aao(ha:PE X a ta)(hb:PE X b tb){pins:List (ah×gS)}{s:aA}{σ:St}{H:Hp}{R:V->V->Hp->Prop}(I:Inv X pins σ H s)(h:ta σ H λx H1=>tb σ H1 λy H2=>R x y H2){Q:aj->aA->Prop}{f:aj->aj->QV aj}(hf:∀v u s2 x y H2,Inv X pins σ H2 s2->RelV x v->RelV y u->R x y H2->aX (bA X.prog X.w) X.A (f v u) Q X.xe s2):aX (bA X.prog X.w) X.A (fL a X.bW) (λv ir=>aX (bA X.prog X.w) X.A (fL b X.bW) (λu qT=>aX (bA X.prog X.w) X.A (f v u) Q X.xe qT) X.xe ir) X.xe s:=by refine fJ (ha pins s σ H _ I h) λv s1 ⟨x,H1,I1,r1,q1⟩=>?_;refine fJ (hb pins s1 σ H1 _ I1 q1) λu s2 ⟨y,H2,I2,r2,q2⟩=>?_;exact hf v u s2 x y H2 I2 r1 r2 q2
theorem e7{op:Operator}{r:R2}(ho:uQ X (lV op) r)(ha:PE X a ta)(hb:PE X b tb):PE X (.BinOp a op b pos) (Yu r ta tb):=by intro pins s σ H Q I h;exact wpAny_BinOp (aao ha hb I h λv u s2 x y H2 I2 rx ry q=>ho pins s2 σ H2 x y v u Q I2 rx ry q)
theorem MN{op:UnaryOp}{r:V->Hp->VK->Prop}(ho:UnR X (unaryOp op) r)(ha:PE X a ta):PE X (.UnaryOp op a pos) (tUn r ta):=by intro pins s σ H Q I h;exact UnaryOp_ (fJ (ha pins s σ H _ I h) λv s1 ⟨x,H1,I1,r1,q1⟩=>ho pins s1 σ H1 x v Q I1 r1 q1)
theorem opI{f:aj->aj->QV aj}{C:Int->Int->Prop}{g:Int->Int->Int}(rule:∀(i j:Int)(t u:Tok)(s:aA)(Q:aj->aA->Prop)(E:aj->aA->Prop),C i j->Q (.int (g i j) s.toks) {s with toks:=s.toks+1}->aX (bA X.prog X.w) X.A (f (.int i t) (.int j u)) Q E s):uQ X f (rI C λi j=> .int (g i j)):=by intro pins s σ H x y v u Q I rx ry h;obtain⟨i,j,rfl,rfl,hc,q⟩:=h;obtain⟨t,rfl⟩:=rx;obtain⟨t',rfl⟩:=ry;exact rule i j t t' s _ _ hc ⟨.int (g i j),H,I.ww _,⟨_,rfl⟩,q⟩
theorem Wi{f:aj->aj->QV aj}{g:Int->Int->Int}(rule:∀(i j:Int)(t u:Tok)(s:aA)(Q:aj->aA->Prop)(E:aj->aA->Prop),Q (.int (g i j) s.toks) {s with toks:=s.toks+1}->aX (bA X.prog X.w) X.A (f (.int i t) (.int j u)) Q E s):uQ X f (Vs λi j=> .int (g i j)):=by intro pins s σ H x y v u Q I rx ry h;obtain⟨i,j,rfl,rfl,q⟩:=h;obtain⟨t,rfl⟩:=rx;obtain⟨t',rfl⟩:=ry;exact rule i j t t' s _ _ ⟨.int (g i j),H,I.ww _,⟨_,rfl⟩,q⟩
theorem Wj{f:aj->aj->QV aj}{g:Int->Int->Bool}(rule:∀(i j:Int)(t u:Tok)(s:aA)(Q:aj->aA->Prop)(E:aj->aA->Prop),Q (.bool (g i j)) s->aX (bA X.prog X.w) X.A (f (.int i t) (.int j u)) Q E s):uQ X f (Vs λi j=> .bl (g i j)):=by intro pins s σ H x y v u Q I rx ry h;obtain⟨i,j,rfl,rfl,q⟩:=h;obtain⟨t,rfl⟩:=rx;obtain⟨t',rfl⟩:=ry;exact rule i j t t' s _ _ ⟨.bl (g i j),H,I,rfl,q⟩
def akD(i j:Int):Prop:=0<=j/\j<=1000000/\i.natAbs<2^64
theorem KR(k:Nat):(0:Int)<=2^k:=by rw[two_pow_cast];exact Int.natCast_nonneg _
theorem i9:uQ X (lV .Add) (Vs λi j=> .int (i+j)):=Wi λ_ _ _ _ _ _ _ q=>add_int q
theorem yH:uQ X (lV .Sub) (Vs λi j=> .int (i-j)):=Wi λ_ _ _ _ _ _ _ q=>sub_int q
theorem aap:uQ X (lV .Mod) (rI (λ_ j=>0<j) λi j=> .int (i%j)):=opI λi j _ _ _ _ _ hc q=>by have h1:(0:Int)<j:=hc;exact mod_int' (by omega) (by rw[Int.fmod_eq_emod_of_nonneg i (by omega)];exact q)
theorem KS:uQ X (lV .LShift) (rI akD λi j=> .int (i*2^j.toNat)):=opI λ_ _ _ _ _ _ _ hc q=>lshift_int_small hc.1 hc.2.1 hc.2.2 q
theorem aaq:uQ X (lV .RShift) (rI (λ_ j=>0<=j) λi j=> .int (i/2^j.toNat)):=opI λi j _ _ _ _ _ hc q=>rshift_int hc (by rw[Int.fdiv_eq_ediv_of_nonneg i (KR _)];exact q)
theorem aar:uQ X (lV .BitAnd) (Vs λi j=> .int (Vf i j)):=Wi λ_ _ _ _ _ _ _ q=>and_int q
theorem aeW:uQ X (lV .BitOr) (Vs λi j=> .int (D8 i j)):=Wi λ_ _ _ _ _ _ _ q=>or_int q
theorem unI{f:aj->QV aj}{g:Int->Int}(rule:∀(i:Int)(t:Tok)(s:aA)(Q:aj->aA->Prop)(E:aj->aA->Prop),Q (.int (g i) s.toks) {s with toks:=s.toks+1}->aX (bA X.prog X.w) X.A (f (.int i t)) Q E s):UnR X f (rU λi=> .int (g i)):=by intro pins s σ H x v Q I rx h;obtain⟨i,rfl,q⟩:=h;obtain⟨t,rfl⟩:=rx;exact rule i t s _ _ ⟨.int (g i),H,I.ww _,⟨_,rfl⟩,q⟩
theorem Fz:UnR X (unaryOp .USub) (rU λi=> .int (-i)):=unI λ_ _ _ _ _ q=>neg_int q
end
def aeX:V->V->Bool
 | .non,.non=>true| .non,.int _=>true| .int _,.non=>true| .non,.bl _=>true| .bl _,.non=>true| .non,.str _=>true| .str _,.non=>true
 | .int _,.int _=>true| .bl _,.bl _=>true| .str _,.str _=>true| .G8 _,.G8 _=>true
 | .int _,.str _=>true| .str _,.int _=>true| .bl _,.str _=>true| .str _,.bl _=>true
 |_,_=>false
inductive rEq(x y:V)(H:Hp)(Q:VK):Prop
 |mk (_:aeX x y=true) (_:Q (.bl (decide (x=y))) H)
inductive rNe(x y:V)(H:Hp)(Q:VK):Prop
 |mk (_:aeX x y=true) (_:Q (.bl (!decide (x=y))) H)
theorem MP{i j:Int}:decide (V.int i=V.int j)=(i==j):=by rw[eu];simp
theorem R7{i j:Bool}:decide (V.bl i=V.bl j)=(i==j):=by rw[eu];simp
theorem MQ{i j:bT}:decide (V.str i=V.str j)=(i==j):=by rw[eu];simp
theorem MR{i j:Array UInt8}:decide (V.G8 i=V.G8 j)=(i.toList==j.toList):=by rw[eu];cases i;cases j;simp
section
variable{X:Cx}{a b c:Expr}{ta tb tc:TE}{pos:mZ}
theorem fe{pins:List (ah×gS)}{σ:St}{H:Hp}{s:aA}{Q:VK}{k k':Bool}(I:Inv X pins σ H s)(q:Q (.bl k) H)(e:k=k'):EP X pins σ Q (.bool k') s:=by subst e;exact⟨.bl k,H,I,rfl,q⟩
theorem g8:uQ X (fj .Eq) rEq:=by
 intro pins s σ H x y v u Q I rx ry h;obtain⟨hs,q⟩:=h;cases x with
 |non=>
  cases rx;cases y with
  |non=>cases ry;exact ajq (fe I q (by simp))|bl j=>cases ry;exact ajr (fe I q (by simp))|int j=>obtain⟨t',rfl⟩:=ry;exact ajs (fe I q (by simp))
  |str j=>obtain⟨t',rfl⟩:=ry;exact ajt (fe I q (by simp))
  |_=>exact absurd (show false=true from hs) bn
 |bl i=>
  cases rx;cases y with
  |non=>cases ry;exact aju (fe I q (by simp))|bl j=>cases ry;exact eq_bool (fe I q R7)|str j=>obtain⟨t',rfl⟩:=ry;exact ahM (fe I q (by simp))
  |_=>exact absurd (show false=true from hs) bn
 |int i=>
  obtain⟨t,rfl⟩:=rx;cases y with
  |non=>cases ry;exact ajv (fe I q (by simp))|int j=>obtain⟨t',rfl⟩:=ry;exact eq_int (fe I q MP)
  |str j=>obtain⟨t',rfl⟩:=ry;exact ahN (fe I q (by simp))
  |_=>exact absurd (show false=true from hs) bn
 |str i=>
  obtain⟨t,rfl⟩:=rx;cases y with
  |non=>cases ry;exact ajw (fe I q (by simp))|bl j=>cases ry;exact ahO (fe I q (by simp))|int j=>obtain⟨t',rfl⟩:=ry;exact ahP (fe I q (by simp))
  |str j=>obtain⟨t',rfl⟩:=ry;exact eq_str (fe I q MQ)
  |_=>exact absurd (show false=true from hs) bn
 |G8 i=>
  obtain⟨t,rfl⟩:=rx;cases y with
  |G8 j=>obtain⟨t',rfl⟩:=ry;exact PySem.W.eq_bytes (fe I q MR)
  |_=>exact absurd (show false=true from hs) bn
 |_=>cases y<;>exact absurd (show false=true from hs) bn
theorem Iu:uQ X (fj .NotEq) rNe:=by
 intro pins s σ H x y v u Q I rx ry h;obtain⟨hs,q⟩:=h;cases x with
 |non=>
  cases rx;cases y with
  |non=>cases ry;exact ajx (fe I q (by simp))|bl j=>cases ry;exact ajy (fe I q (by simp))|int j=>obtain⟨t',rfl⟩:=ry;exact ajz (fe I q (by simp))
  |str j=>obtain⟨t',rfl⟩:=ry;exact ajA (fe I q (by simp))
  |_=>exact absurd (show false=true from hs) bn
 |bl i=>
  cases rx;cases y with
  |non=>cases ry;exact ajB (fe I q (by simp))|bl j=>cases ry;exact ne_bool (fe I q (congrArg not R7))|str j=>obtain⟨t',rfl⟩:=ry;exact ahQ (fe I q (by simp))
  |_=>exact absurd (show false=true from hs) bn
 |int i=>
  obtain⟨t,rfl⟩:=rx;cases y with
  |non=>cases ry;exact ajC (fe I q (by simp))|int j=>obtain⟨t',rfl⟩:=ry;exact ne_int (fe I q (congrArg not MP))
  |str j=>obtain⟨t',rfl⟩:=ry;exact ahR (fe I q (by simp))
  |_=>exact absurd (show false=true from hs) bn
 |str i=>
  obtain⟨t,rfl⟩:=rx;cases y with
  |non=>cases ry;exact ajD (fe I q (by simp))|bl j=>cases ry;exact ahS (fe I q (by simp))|int j=>obtain⟨t',rfl⟩:=ry;exact ahT (fe I q (by simp))
  |str j=>obtain⟨t',rfl⟩:=ry;exact ne_str (fe I q (congrArg not MQ))
  |_=>exact absurd (show false=true from hs) bn
 |G8 i=>
  obtain⟨t,rfl⟩:=rx;cases y with
  |G8 j=>obtain⟨t',rfl⟩:=ry;exact PySem.W.ne_bytes (fe I q (congrArg not MR))
  |_=>exact absurd (show false=true from hs) bn
 |_=>cases y<;>exact absurd (show false=true from hs) bn
theorem ue:uQ X (fj .Lt) (Vs λi j=> .bl (decide (i<j))):=Wj λ_ _ _ _ _ _ _ q=>lt_int q
theorem mO:uQ X (fj .LtE) (Vs λi j=> .bl (decide (i<=j))):=Wj λ_ _ _ _ _ _ _ q=>le_int q
theorem Iv:uQ X (fj .Gt) (Vs λi j=> .bl (decide (j<i))):=Wj λ_ _ _ _ _ _ _ q=>gt_int q
theorem aeY:uQ X (fj .GtE) (Vs λi j=> .bl (decide (j<=i))):=Wj λ_ _ _ _ _ _ _ q=>ge_int q
theorem og:uQ X (fj .Is) (λx y H Q=>y= .non/\Q (.bl (decide (x= .non))) H):=by
 intro pins s σ H x y v u Q I rx ry h;obtain⟨rfl,q⟩:=h;cases ry;refine is_none_gen (fe I q ?_);cases x<;>first
  |(cases rx;rfl)
  |(obtain⟨t,rfl⟩:=rx;rfl)
theorem MS:uQ X (fj .IsNot) (λx y H Q=>y= .non/\Q (.bl (!decide (x= .non))) H):=by
 intro pins s σ H x y v u Q I rx ry h;obtain⟨rfl,q⟩:=h;cases ry;refine isnot_none_gen (fe I q ?_);cases x<;>first
  |(cases rx;rfl)
  |(obtain⟨t,rfl⟩:=rx;rfl)
theorem ck(b:Expr){op:QY}(h:op≠.In:=by decide)(h2:op≠.NotIn:=by decide):behindInMarks op b=false:=by
 have e1:(op==QY.In)=false:=by cases op<;>first|rfl|exact absurd rfl h
 have e2:(op==QY.NotIn)=false:=by cases op<;>first|rfl|exact absurd rfl h2
 cases b<;>simp[behindInMarks,e1,e2]
theorem xb{op:QY}{r:R2}(ho:uQ X (fj op) r)(ha:PE X a ta)(hb:PE X b tb)(hm:behindInMarks op b=false):PE X (.Compare a [op] [b] pos) (Yu r ta tb):=by intro pins s σ H Q I h;exact wpAny_Compare1 (aao ha hb I h λv u s2 x y H2 I2 rx ry q=>ho pins s2 σ H2 x y v u Q I2 rx ry q) hm
inductive aas(Q:Bool->Hp->Prop)(x:V)(H':Hp):Prop
 |mk (k:_) (_:x= .bl k) (_:Q k H')
def R_(t:TE):TT:= λσ H Q=>t σ H λx H'=>aas Q x H'
theorem bY{op:QY}{r:R2}(ho:uQ X (fj op) r)(ha:PE X a ta)(hb:PE X b tb)(hm:behindInMarks op b=false):PT X (.Compare a [op] [b] pos) (R_ (Yu r ta tb)):=by intro pins s σ H Q I h;refine VM (fJ (ha pins s σ H _ I h) λv s1 ⟨x,H1,I1,r1,q1⟩=>fJ (hb pins s1 σ H1 _ I1 q1) λu s2 ⟨y,H2,I2,r2,q2⟩=>fJ (ho pins s2 σ H2 x y v u _ I2 r1 r2 q2) λc s3 ⟨z,H3,I3,r3,k,e,q3⟩=>?_) hm;subst e;cases r3;exact cR ⟨H3,I3,q3⟩
def Sa(r r':R2)(ta tb tc:TE):TE:= λσ H Q=>ta σ H λx H1=>tb σ H1 λy H2=>r x y H2 λz H3=>∃k,z= .bl k/\(if k=true then tc σ H3 λw' H4=>r' y w' H4 Q else Q (.bl false) H3)
theorem Iw{op Sb:QY}{r r':R2}(ho:uQ X (fj op) r)(zH:uQ X (fj Sb) r')(ha:PE X a ta)(hb:PE X b tb)(hc:PE X c tc)(hm:lastMarks [op,Sb] [b,c]=false:=by with_unfolding_all rfl):PE X (.Compare a [op,Sb] [b,c] pos) (Sa r r' ta tb tc):=by
 intro pins s σ H Q I h;refine Compare_chain (fJ (ha pins s σ H _ I h) λv s1 ⟨x,H1,I1,r1,q1⟩=>chain_link (fJ (hb pins s1 σ H1 _ I1 q1) λu s2 ⟨y,H2,I2,r2,q2⟩=>fJ (ho pins s2 σ H2 x y v u _ I2 r1 r2 q2) λd s3 ⟨z,H3,I3,r3,k,e,q3⟩=>?_)) hm;subst e;cases r3;refine cR ?_;cases k with|false=>exact ite_ff ⟨.bl false,H3,I3,rfl,q3⟩|true=>exact ite_tt (chain_last (fJ (hc pins s3 σ H3 _ I3 q3) λw' s4 ⟨z',H4,I4,r4,q4⟩=>zH pins s4 σ H4 y z' u w' Q I4 r2 r4 q4))
theorem pb{op Sb:QY}{r r':R2}(ho:uQ X (fj op) r)(zH:uQ X (fj Sb) r')(ha:PE X a ta)(hb:PE X b tb)(hc:PE X c tc)(hm:lastMarks [op,Sb] [b,c]=false:=by with_unfolding_all rfl):PT X (.Compare a [op,Sb] [b,c] pos) (R_ (Sa r r' ta tb tc)):=by
 intro pins s σ H Q I h;refine isTrue_chain (fJ (ha pins s σ H _ I h) λv s1 ⟨x,H1,I1,r1,q1⟩=>test_link (fJ (hb pins s1 σ H1 _ I1 q1) λu s2 ⟨y,H2,I2,r2,q2⟩=>fJ (ho pins s2 σ H2 x y v u _ I2 r1 r2 q2) λd s3 ⟨z,H3,I3,r3,k,e,q3⟩=>?_)) hm;subst e;cases r3;refine cR ?_;cases k with
 |false=>obtain⟨k',e',q'⟩:=q3;cases e';exact ite_ff ⟨H3,I3,q'⟩
 |true=>refine ite_tt (test_last (fJ (hc pins s3 σ H3 _ I3 q3) λw' s4 ⟨z',H4,I4,r4,q4⟩=>fJ (zH pins s4 σ H4 y z' u w' _ I4 r2 r4 q4) λd' s5 ⟨z2,H5,I5,r5,k2,e2,q5⟩=>?_));subst e2;cases r5;exact cR ⟨H5,I5,q5⟩
def aeZ(K:ak)(x:V)(H:Hp)(k:Bool):Prop:=match x with| .non=>k=false| .bl b=>k=b| .int i=>k=(i !=0)| .str y=>y.length<=al/\k=((y.length:Int) !=0)| .G8 y=>y.size<=al/\k=((y.size:Int) !=0)| .ref p=>(∃xs,cv K H p xs/\k= !xs.isEmpty)\/(∃xs,eh K H p xs/\k= !xs.isEmpty)\/∃kvs,H p=some (.dK kvs)/\k= !kvs.isEmpty|_=>False
theorem KU{κ:Type}{kvs:List (κ×V)}{vs:List (κ×aj)}(r:KV kvs vs):(!vs.isEmpty)= !kvs.isEmpty:=by cases r<;>rfl
theorem BQ{xs:List V}{cc:List aj}(r:dq xs cc):(!cc.toArray.isEmpty)= !xs.isEmpty:=by cases r<;>simp
theorem vU:(al:Nat)<2^63:=by rw[bR];decide
theorem aat:akB X (λx H Q=>∃k,aeZ X.K x H k/\Q k H):=by
 intro pins s σ H x v Q I rx h;obtain⟨k,e,q⟩:=h;have hl:=vU;have hs:al=16777216:=bR;cases x with
 |non=>cases rx;have e':k=false:=e;subst e';exact truthy_none ⟨H,I,q⟩|bl b=>cases rx;have e':k=b:=e;subst e';exact cR ⟨H,I,q⟩|int i=>obtain⟨t,rfl⟩:=rx;have e':k=(i !=0):=e;subst e';exact PySem.P.truthy_int ⟨H,I,q⟩
 |str y=>obtain⟨t,rfl⟩:=rx;obtain⟨hy,e'⟩:y.length<=al/\k=((y.length:Int) !=0):=e;subst e';exact PySem.P.truthy_str (by omega) ⟨H,I.ww _,q⟩
 |G8 y=>obtain⟨t,rfl⟩:=rx;obtain⟨hy,e'⟩:y.size<=al/\k=((y.size:Int) !=0):=e;subst e';exact PySem.W.truthy_bytes (by omega) ⟨H,I.ww _,q⟩
 |ref p=>
  cases rx;have e':(∃xs,cv X.K H p xs/\k= !xs.isEmpty)\/(∃xs,eh X.K H p xs/\k= !xs.isEmpty)\/∃kvs,H p=some (.dK kvs)/\k= !kvs.isEmpty:=e;rcases e' with⟨xs,hx,e'⟩|⟨xs,hx,e'⟩|⟨kvs,hx,e'⟩
  ·subst e';obtain⟨cc,r,pl,hz⟩:=I.list hx;have dX:=r.length;exact wpAny_truthy_list pl.isList (by simp only[a9];omega) ⟨H,I.ww _,by rw[BQ r];exact q⟩
  ·subst e';obtain⟨cc,r,pl,hz⟩:=I.tuple hx;have dX:=r.length;exact truthy_tuple pl (by simp only[a9];omega) ⟨H,I.ww _,by rw[BQ r];exact q⟩
  ·subst e';obtain⟨hz,hS,vs,r,m⟩:kvs.length<=al/\(p==db)=false/\∃vs,KV kvs vs/\s.heap.DictOf (c_ X.prog X.w) p vs:=I.d5 p _ hx;have dX:kvs.length=vs.length:=fw r;exact wpAny_truthy_dict hS m (by omega) ⟨H,I.ww _,by rw[KU r];exact q⟩
 |_=>exact(show False from e).elim
theorem xc(ha:PE X a ta)(he:∀whole,isTrue a X.bW whole=(do let v<-whole;D7 a.pos;re [v] (truthy v))):PT X a (λσ H Q=>ta σ H λx H'=>∃k,aeZ X.K x H' k/\Q k H'):=by intro pins s σ H Q I h;exact isTrue_plain (fJ (ha pins s σ H _ I h) λv s1 ⟨x,H1,I1,r1,q1⟩=>aat pins s1 σ H1 x v Q I1 r1 q1) (he _)
theorem vals1{x:V}{us:List aj}(r:dq [x] us):∃u,us=[u]/\RelV x u:=by
 cases r with|cons r1 r2=>cases r2;exact⟨_,rfl,r1⟩
theorem vals2{x y:V}{us:List aj}(r:dq [x,y] us):∃u w',us=[u,w']/\RelV x u/\RelV y w':=by
 cases r with
 |cons r1 r2=>
  cases r2 with|cons r3 r4=>cases r4;exact⟨_,_,rfl,r1,r3⟩
end
structure KW(h:cX)(x dx C:ah)(mA:bT->Option aj):Prop where
 obj:h.get? x=some (iE C dx)
 ns:h.Ns1 dx mA
 ne:dx≠x
theorem OZ{h:cX}{dx:ah}{mA:bT->Option aj}(n:h.Ns1 dx mA):∃od,h.get? dx=some od/\∀name,uF name od=some (mA name):=by
 obtain⟨o,es,ep,ho,hd,hk,_,hm⟩:=n;refine⟨o,ho,λname=>?_⟩;have e:=hm name;unfold nsFind findBy at e;rw[<-Array.find?_toList]at e;unfold uF;rw[hd];dsimp only;split
 ·rename_i y q;rw[q]at e;exact congrArg some e
 ·rename_i q;rw[q]at e;have a:es.toList.any (·.refKey)=false:=by rw[z_];intro y hy;obtain⟨z,t,rS⟩:=hk y (Array.mem_toList_iff.mp hy);simp[fP.refKey,rS]
  have a':¬es.toList.any (·.refKey)=true:=by rw[a];exact bn
  rw[if_neg a'];exact congrArg some e
theorem KW.O0{h:cX}{x dx C:ah}{mA:bT->Option aj}(I:KW h x dx C mA):∃od,PySem.W.InstAt h x (iE C dx) C (some od)/\∀name,uF name od=some (mA name):=let⟨od,ho,hl⟩:=OZ I.ns;⟨od,⟨I.obj,rfl,rfl,ho⟩,hl⟩
section
variable{prog:a7}{w:bP}{A:cT}{E:aj->aA->Prop}{s:aA}{K:ak}{x dx C f:ah}{mA:bT->Option aj}{name:bT}{v:aj}
theorem Wk{expr:Bool}{Q:aj->aA->Prop}(X:K.In s.heap)(I:KW s.heap x dx C mA)(hg:nz K C name=true)(hh:qk K C=true)(ha:eQ K (.ref C) name=some none)(hv:mA name=some v)(Vm:QC v=true)(h:Q v {s with toks:=s.toks+1}):aX (bA prog w) A (getAttr (.ref x) name expr) Q E s:=by obtain⟨od,J,hl⟩:=I.O0;exact PySem.W.get_value X J (va hg).1 (PySem.W.findObj_own hh ha rfl (by rw[hl,hv])) Vm h
theorem Sc{pl:QV Bool}{Q:aj×List aj->aA->Prop}(X:K.In s.heap)(I:KW s.heap x dx C mA)(hg:nz K C name=true)(hf:eQ K (.ref C) name=some (some (.ref f)))(ht:sE K (.ref f)=true)(hv:mA name=none)(h:Q (.ref f,[.ref x]) s):aX (bA prog w) A (G1 (.ref x) name pl) Q E s:=by obtain⟨od,J,hl⟩:=I.O0;exact PySem.W.method_fn X J (va hg).1 (va hg).2 hf (beq_iff_eq.mp ht) (by show(uF name od).map (·.isSome)=some false;rw[hl,hv];rfl) h
theorem Wl{ns:List bT}{Q:Unit->aA->Prop}(X:K.In s.heap)(I:KW s.heap x dx C mA)(hs:eQ K (.ref C) "__setattr__"=some (some (.builtin "object.__setattr__")))(hp:ye K C=true)(ht:AH K C name=some none)(hh:qk K C=true)(hw:J7 mA ns)(hsz:ns.length<=al)(h:∀h',KW h' x dx C (λy=>if y=name then some v else mA y)->df dx s.heap h'->Q () {s with heap:=h',toks:=s.toks+2}):aX (bA prog w) A (setAttr (.ref x) name v) Q E s:=by obtain⟨od,J,hl⟩:=I.O0;refine PySem.W.set_plain X J hs (PySem.W.osa_open (s:={s with toks:=s.toks+1}) (r:=none) X J hp ht λb=>?_);obtain⟨cd,hc,Ai⟩:=PySem.W.any_some hh;have hx:s.heap.get? x=some ⟨.ref C,some dx,.plain,#[]⟩:=I.obj;refine ae (au (ae (ae (wpAny_loadPart hx (ae (ahW (s:={s with toks:=s.toks+1}) (PySem.W.looks_clsIn X hc) ?_))))));rw[Ai];refine au (a:=some dx) (ae (au (ae ?_)));refine wpAny_nsSet1 (s:={s with toks:=s.toks+1}) I.ns λh' hn2 hs2=>?_;obtain⟨oD,esD,epD,hoD,hdD,hcD⟩:=hn2.count (ajE name v hw);refine ae (wpAny_lookBehind hoD (by rw[hdD];exact pastItsLine_dict (aW hcD (by rw[aZ];omega))) ?_);exact au (h _ ⟨(hs2.2 _ (iN I.ne)).trans I.obj,hn2,I.ne⟩ hs2)
theorem Sd{R:Vb->aA->Prop}{vs:List aj}{kw:List (bT×aj)}(X:K.In s.heap)(hm:AI K C=true)(hi:eQ K (.ref C) "__init__"=some (some (.ref f)))(hf:PySem.W.typeIn K (.ref f)=some (.type "function"))(h:pB (bA prog w) (A.under (.builtin "type.__call__" ⟨.ref C::vs,kw⟩)) (.call (.ref f) ⟨.ref (s.heap.objs.size+1)::vs,kw⟩) (PySem.W.InitBack (s.heap.objs.size+1) R) {s with heap:=(s.heap.push fW).push (iE C s.heap.objs.size)}):pB (bA prog w) A (.call (.ref C) ⟨vs,kw⟩) R s:=by obtain⟨hh,g,d,t,os⟩:=s;exact PySem.W.make_core (PySem.W.makes_of X hm) (PySem.W.looks_findIn X hi) (λDs=>PySem.W.bind_fn X Ds hf) (.inl rfl) h
end
def me(f:bT)(v:V):List (bT×V)->List (bT×V)
 | []=>[(f,v)]|(g,x)::r=>if g=f then(g,v)::r else(g,x)::me f v r
theorem zK(f g:bT)(v:V):∀fs:List (bT×V),(me f v fs).lookup g=if g=f then some v else fs.lookup g
 | []=>by
  show jO g [(f,v)]=_;by_cases h:g=f
  ·have hb:(g==f)=true:=beq_iff_eq.mpr h;simp only[jO,hb,if_pos h]
  ·have hb:(g==f)=false:=beq_eq_false_iff_ne.mpr h;simp only[jO,hb,if_neg h]
 |(k,x)::r=>by
  have ih:=zK f g v r;rw[show me f v ((k,x)::r)=(if k=f then(k,v)::r else(k,x)::me f v r)from rfl];by_cases hk:k=f
  ·rw[if_pos hk];by_cases h:g=k
   ·have hb:(g==k)=true:=beq_iff_eq.mpr h;simp only[jO,hb,if_pos (h.trans hk)]
   ·have hb:(g==k)=false:=beq_eq_false_iff_ne.mpr h;simp only[jO,hb,if_neg (λe:g=f=>h (e.trans hk.symm))]
  ·rw[if_neg hk];by_cases h:g=k
   ·have hb:(g==k)=true:=beq_iff_eq.mpr h;simp only[jO,hb,if_neg (λe:g=f=>hk (h.symm.trans e))]
   ·have hb:(g==k)=false:=beq_eq_false_iff_ne.mpr h;simp only[jO,hb];exact ih
theorem yI(f:bT)(v:V):∀fs:List (bT×V),f∈(me f v fs).map (·.1)/\∀g,g∈fs.map (·.1)->g∈(me f v fs).map (·.1)
 | []=>⟨by simp[me],λg h=>by simp at h⟩|(k,x)::r=>by
  obtain⟨i1,i2⟩:=yI f v r;rw[show me f v ((k,x)::r)=(if k=f then(k,v)::r else(k,x)::me f v r)from rfl];by_cases hk:k=f
  ·rw[if_pos hk];subst hk;exact⟨by simp,λg h=>by simpa using h⟩
  ·rw[if_neg hk];refine⟨?_,λg h=>?_⟩
   ·rw[aS];exact az _ i1
   ·rw[aS]at h ⊢;rcases aU.mp h with e|e
    ·exact aU.mpr (.inl e)
    ·exact az _ (i2 g e)
theorem zL(f:bT)(v:V):∀fs:List (bT×V),(me f v fs).length<=fs.length+1
 | []=>by simp[me]|(k,x)::r=>by
  have ih:=zL f v r;rw[show me f v ((k,x)::r)=(if k=f then(k,v)::r else(k,x)::me f v r)from rfl];by_cases hk:k=f
  ·rw[if_pos hk,aZ,aZ];omega
  ·rw[if_neg hk,aZ,aZ];omega
theorem rT.FA{v:V}{o:Option aj}(r:rT (some v) o):∃u,o=some u/\RelV v u:=by
 cases o with|none=>exact(show False from r).elim|some u=>exact⟨u,rfl,r⟩
theorem rT.Wm{o:Option aj}(r:rT none o):o=none:=by
 cases o with|none=>rfl|some u=>exact(show False from r).elim
theorem O1{v:V}{u:aj}(r:RelV v u):QC u=true:=by
 cases v with
 |non=>cases (show u=dI from r);rfl|bl b=>cases (show u=n0 b from r);rfl|int i=>obtain⟨t,e⟩:=(show∃t,u=vD i t from r);cases e;rfl
 |str x=>obtain⟨t,e⟩:=(show∃t,u=Hj x t from r);cases e;rfl
 |G8 b=>obtain⟨t,e⟩:=(show∃t,u=ad8 b t from r);cases e;rfl
 |Yg b=>obtain⟨t,e⟩:=(show∃t,u=ad9 b t from r);cases e;rfl
 |ref a=>cases (show u=aY a from r);rfl|ty n=>cases (show u=pP n from r);rfl
section
variable{P:a7}{w:bP}{H H':Hp}{h h':cX}{a C dx:ah}{fs fs':List (bT×V)}
theorem FC(d5:rV P w H h)(e:H a=some (.gc C dx fs)):∃mA,KW h a dx C mA/\(∀f,rT (fs.lookup f) (mA f))/\J7 mA (fs.map (·.1))/\fs.length<=1000/\H dx=some (.own a):=by obtain⟨d,z,ne,ob,mA,n,r,q⟩:=(show ie P w H h a (.gc C dx fs)from d5 a _ e);exact⟨mA,⟨ob,n,ne⟩,r,q,z,d⟩
end
structure KY(K:ak)(C:ah):Prop where
 pg:nz K C bT.empty=true
 hd:qk K C=true
 po:ye K C=true
 sa:eQ K (.ref C) "__setattr__"=some (some (.builtin "object.__setattr__"))
theorem KY.get{K:ak}{C:ah}(c:KY K C)(f:bT):nz K C f=true:=c.pg
def ff(K:ak)(C:ah)(f:bT):Prop:=eQ K (.ref C) f=some none
theorem ff.ae0{K:ak}{C:ah}{f:bT}(n:ff K C f):AH K C f=some none:=by unfold AH;rw[show eQ K (.ref C) f=some none from n];rfl
structure Wn(K:ak)(C:ah)(m:bT)(f:ah):Prop where
 xf:eQ K (.ref C) m=some (some (.ref f))
 fn:sE K (.ref f)=true
 kp:fk K (.ref f)=true
section
variable{X:Cx}{pins:List (ah×gS)}{σ:St}{H:Hp}{s:aA}{a C dx:ah}{fs:List (bT×V)}{f:bT}{v:V}{A:cT}{E:aj->aA->Prop}
theorem KZ{b:Bool}{Q:aj->aA->Prop}(I:Inv X pins σ H s)(e:H a=some (.gc C dx fs))(c:KY X.K C)(n:ff X.K C f)(l:fs.lookup f=some v)(h:∀u s',Inv X pins σ H s'->RelV v u->Q u s'):aX (bA X.prog X.w) A (getAttr (.ref a) f b) Q E s:=by obtain⟨mA,O,r,_,_,_⟩:=FC I.d5 e;obtain⟨u,hu,ru⟩:=rT.FA (v:=v) (o:=mA f) (by rw[<-l];exact r f);exact Wk I.MH O (c.get f) c.hd n hu (O1 ru) (h u _ (I.ww _) ru)
theorem BR{m:bT}{g:ah}{pl:QV Bool}{Q:aj×List aj->aA->Prop}(I:Inv X pins σ H s)(e:H a=some (.gc C dx fs))(c:KY X.K C)(k:Wn X.K C m g)(l:fs.lookup m=none)(h:Q (.ref g,[.ref a]) s):aX (bA X.prog X.w) A (G1 (.ref a) m pl) Q E s:=by obtain⟨mA,O,r,_,_,_⟩:=FC I.d5 e;have hn:mA m=none:=rT.Wm (by rw[<-l];exact r m);exact Sc I.MH O (c.get m) k.xf k.fn hn h
theorem K0{y:V}{u:aj}{Q:Unit->aA->Prop}(I:Inv X pins σ H s)(e:H a=some (.gc C dx fs))(c:KY X.K C)(n:ff X.K C f)(hl:fs.length<1000)(ry:RelV y u)(h:∀s',Inv X pins σ (aP H a (.gc C dx (me f y fs))) s'->Q () s'):aX (bA X.prog X.w) A (setAttr (.ref a) f u) Q E s:=by
 obtain⟨mA,O,r,wi,_,ho⟩:=FC I.d5 e;have hz:(fs.map (·.1)).length<=al:=by rw[aq,bR];omega
 refine Wl I.MH O c.sa c.po n.ae0 c.hd wi hz λh' O' sb=>h _ ?_;have hd:∃o,h'.get? dx=some o:=let⟨o,_,_,e',_⟩:=O'.ns;⟨o,e'⟩
 refine I.vk (x:=a) (e:=dx) (by rw[e];exact g1) (.inr ho) (λb q hb z=>(sb.2 b hb).trans z) hd ?_;refine⟨by rw[aF O.ne];exact ho,?_,O.ne,O'.obj,_,O'.ns,λg=>?_,λg hg=>?_⟩
 ·have:=zL f y fs;omega
 ·show rT ((me f y fs).lookup g) (if g=f then some u else mA g);rw[zK];by_cases q:g=f
  ·rw[if_pos q,if_pos q];exact ry
  ·rw[if_neg q,if_neg q];exact r g
 ·by_cases q:g=f
  ·rw[q];exact(yI f y fs).1
  ·refine(yI f y fs).2 g (wi g λz=>hg ?_);show(if g=f then some u else mA g)=none;rw[if_neg q];exact z
theorem Inv.K1(I:Inv X pins σ H s):Inv X pins σ (aP (aP H s.heap.objs.size (.own (s.heap.objs.size+1))) (s.heap.objs.size+1) (.gc C s.heap.objs.size [])) {s with heap:=(s.heap.push fW).push (iE C s.heap.objs.size)}:=by
 have e1:(s.heap.push fW).get? s.heap.objs.size=some fW:=ba s.heap rfl;have e2:((s.heap.push fW).push (iE C s.heap.objs.size)).get? (s.heap.objs.size+1)=some (iE C s.heap.objs.size):=by
  have:=ba (s.heap.push fW) (o:=iE C s.heap.objs.size) rfl
  rwa [dU]at this
 have e3:(s.heap.push fW).Ns s.heap.objs.size (λ_=>none):=⟨fW,#[],_,e1,rfl,(λe he=>absurd he (by simp)),λ_=>rfl⟩;have I1:=I.rW (a:=s.heap.objs.size) (o:= .own (s.heap.objs.size+1)) (h':=s.heap.push fW) (t':=s.toks) (λb u q=>aI _ q) (aB _) ⟨_,e1⟩;refine I1.rW (a:=s.heap.objs.size+1) (o:= .gc C s.heap.objs.size []) (t':=s.toks) (λb u q=>aI _ q) (AJ (dU _ _)) ?_;have ne:s.heap.objs.size≠s.heap.objs.size+1:=b4 (iu _);refine⟨by rw[aF ne,ai],bj _,ne,e2,λ_=>none,(cX.Ns1.of_empty e3).at λo q=>aI _ q,λ_=>g1,λy hy=>absurd rfl hy⟩
theorem Wo{prog:a7}{w:bP}{bW:Mj}{e:Expr}{f:bT}{pos:mZ}{s:aA}{Q:aj->aA->Prop}(hb:lp e f bW (fL e bW)=fL e bW)(h:aX (bA prog w) A (fL e bW) (λo ir=>aX (bA prog w) A (getAttr o f true) Q E ir) E s):aX (bA prog w) A (fL (.Attribute e f pos) bW) Q E s:=Attribute_any_ h (by rw[arm_eval_Attribute,hb])
end
inductive ae1(K:ak)(f:bT)(Q:VK)(x:V)(H1:Hp):Prop
 |mk (a C dx fs v:_) (_:x= .ref a) (_:H1 a=some (.gc C dx fs)) (_:KY K C) (_:ff K C f) (_:fs.lookup f=some v) (_:Q v H1)
def aau(K:ak)(ta:TE)(f:bT):TE:= λσ H Q=>ta σ H λx H1=>ae1 K f Q x H1
inductive ae2(K:ak)(f:bT)(D:rX)(σ:St)(y x:V)(H2:Hp):Prop
 |mk (a C dx fs:_) (_:x= .ref a) (_:H2 a=some (.gc C dx fs)) (_:KY K C) (_:ff K C f) (_:fs.length<1000) (_:D.nx σ (aP H2 a (.gc C dx (me f y fs))))
def akF(K:ak)(ta tv:TE)(f:bT):TS:= λD σ H=>tv σ H λy H1=>ta σ H1 λx H2=>ae2 K f D σ y x H2
section
variable{X:Cx}{o e kI:Expr}{f:bT}{pos sd Dt:mZ}{ta tv:TE}
theorem cE(he:PE X e ta)(hb:lp e f X.bW (fL e X.bW)=fL e X.bW):PE X (.Attribute e f pos) (aau X.K ta f):=by intro pins s σ H Q I h;refine Wo hb (fJ (he pins s σ H _ I h) λu s1 ⟨x,H1,I1,rx,a,C,dx,fs,v,ex,ea,c,n,l,q⟩=>?_);subst ex;obtain rfl:u=aY a:=rx;exact KZ I1 ea c n l λu' s2 I2 ru=>⟨v,H1,I2,ru,q⟩
theorem j0(ha:PE X o ta)(hv:PE X kI tv)(hs:rB kI (some (.Attribute o f sd)) pos.line X.bW=i4 false):PS X (.Assign [.Attribute o f sd] kI pos) (akF X.K ta tv f):=by intro pins s σ H D I h;refine plainObj_wpAny_Assign_Attribute (fJ (hv pins s σ H _ I h) λu s1 ⟨y,H1,I1,ry,q⟩=>fJ (ha pins s1 σ H1 _ I1 q) λov s2 ⟨x,H2,I2,rx,a,C,dx,fs,ex,ea,c,n,l,q2⟩=>?_) hs;subst ex;obtain rfl:ov=aY a:=rx;exact K0 I2 ea c n l ry λs3 I3=>⟨σ,_,I3,q2⟩
theorem Yv{pl:QV Bool}{m:bT}{lE:mZ}{args:List Expr}{pins:List (ah×gS)}{s:aA}{σ:St}{H:Hp}{Q:aj->aA->Prop}{te:TE}(he:PE X e te)(I:Inv X pins σ H s)(h:te σ H λx H1=>∃a C dx fs g,x= .ref a/\H1 a=some (.gc C dx fs)/\KY X.K C/\Wn X.K C m g/\fs.lookup m=none/\∀s1,Inv X pins σ H1 s1->aX (bA X.prog X.w) X.A (Mm pos (.ref g) [.ref a] (jd pos (cn args X.bW)) (sF pos (lW [] X.bW))) Q X.xe s1)(ht:fL (.Call (.Attribute e m lE) args [] pos) X.bW=(do
 let ov<-fL e X.bW
 D7 lE.atName
 let(f,first)<-re [ov] (G1 ov m pl)
 Mm pos f first (jd pos (cn args X.bW)) (sF pos (lW [] X.bW)))):aX (bA X.prog X.w) X.A (fL (.Call (.Attribute e m lE) args [] pos) X.bW) Q X.xe s:=by
 refine Hn (pl:=pl) (fJ (he pins s σ H _ I h) λu s1 ⟨x,H1,I1,rx,a,C,dx,fs,g,ex,ea,c,k,l,q⟩=>?_) ht;subst ex;obtain rfl:u=aY a:=rx;exact BR I1 ea c k l (q s1 I1)
end
structure lO(k:Nat)(A:cT):Prop where
 hd:A.handled=none
 dp:A.depth+3*k+5<recursionLimit
 un:A.units+16*k+200<iw
theorem lO.kg{j k:Nat}{A:cT}(r:lO k A)(h:j<=k):lO j A:=⟨r.hd,by have:=r.dp;omega,by have:=r.un;omega⟩
theorem lO.deeper{k:Nat}{A:cT}(r:lO (k+1) A)(bW:Mj):lO k (A.deeper bW):=⟨r.hd,by have:=r.dp;show A.depth+1+3*k+5<_;omega,by have:=r.un;show A.units+3+16*k+200<_;omega⟩
theorem K2{A:cT}{C:ah}{us:List aj}{kw:List (bT×aj)}:(A.under (.builtin "type.__call__" ⟨.ref C::us,kw⟩)).depth=A.depth+1:=by first|rfl|simp[Hq,Code.weight,Code.isCreation,Code.isGuard,Code.isCaller,ahX,Kf,guardIds]
theorem K3{A:cT}{C:ah}{us:List aj}{kw:List (bT×aj)}:(A.under (.builtin "type.__call__" ⟨.ref C::us,kw⟩)).units=A.units+1:=by first|rfl|simp[Hq,Code.cUnits,ahX,Kf]
theorem lO.aav{k:Nat}{A:cT}(r:lO (k+1) A)(C:ah)(us:List aj)(kw:List (bT×aj)):lO k (A.under (.builtin "type.__call__" ⟨.ref C::us,kw⟩)):=⟨r.hd,by have:=r.dp;rw[K2];omega,by have:=r.un;rw[K3];omega⟩
theorem lO.depth{k:Nat}{A:cT}(r:lO k A):A.depth<recursionLimit:=by have:=r.dp;omega
theorem lO.units{k:Nat}{A:cT}(r:lO k A):A.units+64<iw:=by have:=r.un;omega
def Du:TA:= λ_ H Q=>Q [] H
def xg(ta:TE)(tr:TA):TA:= λσ H Q=>ta σ H λx H1=>tr σ H1 λxs H2=>Q (x::xs) H2
section
variable{X:Cx}{e:Expr}{es:List Expr}{te:TE}{t:TA}{pos:mZ}
theorem aD:PA X [] Du:= λ_ _ _ _ H Q I h=>qL ⟨[],H,I,.nil,h⟩
theorem af(ha:PE X e te)(hr:PA X es t)(hs:cn (e::es) X.bW=(false,fL e X.bW)::cn es X.bW:=by rfl):PA X (e::es) (xg te t):=by intro pos pins s σ H Q I h;rw[hs];show aX _ _ (spliced ((false,fL e X.bW)::jd pos (cn es X.bW))) _ _ s;refine jP (fJ (ha pins s σ H _ I h) λu s1 ⟨x,H1,I1,r1,q1⟩=>?_);exact fJ (hr pos pins s1 σ H1 _ I1 q1) λus s2 ⟨xs,H2,I2,r2,q2⟩=>⟨x::xs,H2,I2,.cons r1 r2,q2⟩
inductive ae3(Q:VK)(xs:List V)(H1:Hp):Prop
 |mk (_:xs.length<=al) (_:∀p,H1 p=none->Q (.ref p) (aP H1 p (.bV xs)))
def akG(t:TA):TE:= λσ H Q=>t σ H λxs H1=>ae3 Q xs H1
inductive ae4(Q:VK)(xs:List V)(H1:Hp):Prop
 |mk (_:xs.length<=al) (_:∀p,H1 p=none->Q (.ref p) (aP H1 p (.be xs)))
def ae5(t:TA):TE:= λσ H Q=>t σ H λxs H1=>ae4 Q xs H1
theorem ii{x1}(h:PA X es t):PE X (.Tuple es x1 pos) (akG t):=by intro pins s σ H Q I hq;refine wpAny_Tuple_spliced (fJ (h pos pins s σ H _ I hq) λus s1 ⟨xs,H1,I1,r,z,q⟩=>⟨by rw[<-r.length];exact z,?_⟩);have hf:H1 s1.heap.objs.size=none:=I1.d5.fresh (aB _);refine⟨.ref s1.heap.objs.size,aP H1 s1.heap.objs.size (.bV xs),I1.rW (t':=s1.toks) (λb u e=>aI _ e) (aB _) ?_,rfl,q _ hf⟩;exact⟨z,us,r,⟨_,ba _ rfl,rfl,_,rfl⟩⟩
theorem cV(h:PA X es t):PE X (.List es pos) (ae5 t):=by intro pins s σ H Q I hq;refine wpAny_List_spliced (fJ (h pos pins s σ H _ I hq) λus s1 ⟨xs,H1,I1,r,z,q⟩=>⟨by rw[<-r.length];exact z,?_⟩);have hf:H1 s1.heap.objs.size=none:=I1.d5.fresh (aB _);refine⟨.ref s1.heap.objs.size,aP H1 s1.heap.objs.size (.be xs),I1.rW (t':=s1.toks) (λb u e=>aI _ e) (aB _) ?_,rfl,q _ hf⟩;exact⟨z,us,0,r,ba _ rfl⟩
end
abbrev Sp:=List V->Hp->VK->XK->Prop
abbrev QI:=List Mj->Hp->aA->XK->aj->aA->Prop
structure Ix(P:a7)(w:bP)(K:ak)(mg:bT->Option aj)(base:cX)(A:cT)(bN:List Mj)(s:aA)(H:Hp):Prop where
 frames:A.frames=some bN
 Fw:Mod K mg base
 bs:∀b o,base.get? b=some o->s.heap.get? b=some o/\H b=none
 RT:base.objs.size<=s.heap.objs.size
 yE:s.heap.FunFrames base bN
 Wf:∀b∈QH bN,H b=none
 d5:rV P w H s.heap
 pG:D5 s.gens
def CE(bN:List Mj)(P:a7)(w:bP)(H:Hp)(s:aA)(Q:VK)(u:aj)(s':aA):Prop:=∃v H',s'.os=s.os/\D5 s'.gens/\Un (QH bN) [] H H' s.heap s'.heap/\rV P w H' s'.heap/\RelV v u/\Q v H'
def CR(CX:QI)(bN:List Mj)(P:a7)(w:bP)(H:Hp)(s:aA)(Q:VK)(E:XK)(r:Vb)(s':aA):Prop:=match r with| .ok (.ret u)=>CE bN P w H s Q u s'| .ok _=>False| .error e=>CX bN H s E e s'
structure dQ(P:a7)(w:bP)(K:ak)(mg:bT->Option aj)(base:cX)(CX:QI)(k:Nat)(f:ah)(fd:fR)(ps:List bT)(sp:Sp):Prop where
 fD:∀vs H Q E,sp vs H Q E->vs.length=ps.length
 run:∀(A:cT)(bN:List Mj)(s:aA)(H:Hp)(args:Args)(us:List aj)(vs:List V)(Q:VK)(E:XK),lO k A->Ix P w K mg base A bN s H->Kg s fd args (ps.zip us)->dq vs us->sp vs H Q E->
  pB (bA P w) A (.call (.ref f) args) (CR CX bN P w H s Q E) s
theorem Ix.aav{P:a7}{w:bP}{K:ak}{mg:bT->Option aj}{base:cX}{A:cT}{bN:List Mj}{s:aA}{H:Hp}(e:Ix P w K mg base A bN s H)(C:ah)(us:List aj)(kw:List (bT×aj)):Ix P w K mg base (A.under (.builtin "type.__call__" ⟨.ref C::us,kw⟩)) bN s H:=⟨by first|exact e.frames|(simpa[Hq,Code.envs,Kf,pushEnvs]using e.frames),e.Fw,e.bs,e.RT,e.yE,e.Wf,e.d5,e.pG⟩
section
variable{X:Cx}{pins:List (ah×gS)}{σ:St}{H:Hp}{s s':aA}
theorem Inv.ae6(I:Inv X pins σ H s):Ix X.prog X.w X.K X.mg X.base X.A X.stack s H:=⟨I.ok.frames,I.ok.Fw,I.bs,aW I.ok.RT I.sz,I.stack,I.MI,I.d5,I.pG⟩
theorem Inv.Yw{Q:VK}{u:aj}(I:Inv X pins σ H s)(h:CE X.stack X.prog X.w H s Q u s'):EP X pins σ Q u s':=by obtain⟨v,H',os,pG,un,d5,r,q⟩:=h;obtain⟨hh,g,d,t,os'⟩:=s';obtain rfl:os'=s.os:=os;exact⟨v,H',I.call (h':=hh) (g':=g) (d':=d) (t':=t) (ch:=[]) un d5 pG (λb z=>absurd z (by simp)),r,q⟩
end
def Se(sp:Sp)(BS:List V)(E:XK)(t:TA):TE:= λσ H Q=>t σ H λvs H1=>sp (vs++BS) H1 Q E
inductive aaw(C:ah)(m:bT)(sp:Sp)(BS:List V)(E:XK)(t:TA)(σ:St)(Q:VK)(x:V)(H1:Hp):Prop
 |mk (a dx fs:_) (_:x= .ref a) (_:H1 a=some (.gc C dx fs)) (_:fs.lookup m=none) (_:t σ H1 λvs H2=>sp (x::(vs++BS)) H2 Q E)
def Yx(C:ah)(m:bT)(sp:Sp)(BS:List V)(E:XK)(ta:TE)(t:TA):TE:= λσ H Q=>ta σ H λx H1=>aaw C m sp BS E t σ Q x H1
def MT(C:ah)(sp:Sp)(BS:List V)(E:XK)(t:TA):TE:= λσ H Q=>t σ H λvs H1=>∀x dx,H1 x=none->H1 dx=none->dx≠x->sp (.ref x::(vs++BS)) (aP (aP H1 dx (.own x)) x (.gc C dx [])) (λv H2=>v= .non/\Q (.ref x) H2) E
def Binds(K:ak)(fd:fR)(ps:List bT)(ds:List aj):Prop:=∀(s:aA)(us:List aj),K.In s.heap->(us++ds).length=ps.length->Kg s fd ⟨us,[]⟩ (ps.zip (us++ds))
theorem Binds.all{K:ak}{fd:fR}{ps:List bT}(h:∀us:List aj,us.length=ps.length->Mn fd ⟨us,[]⟩=i4 (ps.zip us)):Binds K fd ps []:= λs us _ hl=>by rw[cz]at hl ⊢;exact .of_eq (h us hl)
def vV(CX:QI)(X:Cx)(E:XK):Prop:=∀(pins:List (ah×gS))(σ:St)(H:Hp)(s:aA)(e:aj)(s':aA),Inv X pins σ H s->CX X.stack H s E e s'->X.xe e s'
section
variable{X:Cx}{CX:QI}{k:Nat}{f C:ah}{fd:fR}{ps:List bT}{sp:Sp}{BS:List V}{ds:List aj}{E:XK}{x m:bT}{p pos lE:mZ}{e o:Expr}{es:List Expr}{ta:TE}{t:TA}
theorem Sf{pins:List (ah×gS)}{σ:St}{H:Hp}{s:aA}{Q:VK}{us:List aj}{vs:List V}(F:dQ X.prog X.w X.K X.mg X.base CX k f fd ps sp)(hr:lO k X.A)(hb:Binds X.K fd ps ds)(hd:dq BS ds)(hx:vV CX X E)(I:Inv X pins σ H s)(r:dq vs us)(h:sp (vs++BS) H Q E):aX (bA X.prog X.w) X.A (call (.ref f) us) (EP X pins σ Q) X.xe s:=by
 have r2:dq (vs++BS) (us++ds):=r.append hd;have hl:(us++ds).length=ps.length:=by rw[<-r2.length];exact F.fD _ _ _ _ h
 refine wpAny_call (wn (F.run X.A X.stack s H ⟨us,[]⟩ (us++ds) (vs++BS) Q E hr I.ae6 (hb s us I.MH hl) r2 h) λr s' hq=>?_);cases r with
 |error e=>exact hx pins σ H s e s' I hq|ok fl=>
  cases fl with|ret u=>exact I.Yw hq|next=>exact fM hq|brk=>exact fM hq|cont=>exact fM hq
theorem Wp(F:dQ X.prog X.w X.K X.mg X.base CX k f fd ps sp)(hr:lO k X.A)(hg:Gl X x)(hm:X.mg x=some (.ref f))(hk:fk X.K (.ref f)=true)(hb:Binds X.K fd ps ds)(hd:dq BS ds)(hx:vV CX X E)(ha:PA X (e::es) t)(H_:(x==("__debug__":bT))=false:=by decide)(he:cn (e::es) X.bW=(false,fL e X.bW)::cn es X.bW:=by rfl)(wx:(jd pos (cn es X.bW)).any (·.1)=false:=by rfl):PE X (.Call (.Name x p) (e::es) [] pos) (Se sp BS E t):=by intro pins s σ H Q I h;refine iX (AQ I hg hm ?_ H_);refine Mo (h₀:=X.base) I.ok.Fw.kin hk (fJ (ha pos pins s σ H _ I h) λus s1 ⟨vs,H1,I1,r,q⟩=>⟨I1.MH,?_⟩) he wx;exact Sf F hr hb hd hx I1 r q
theorem Sg{pl:QV Bool}(he:PE X o ta)(c:KY X.K C)(hm:Wn X.K C m f)(F:dQ X.prog X.w X.K X.mg X.base CX k f fd ps sp)(hr:lO k X.A)(hb:Binds X.K fd ps ds)(hd:dq BS ds)(hx:vV CX X E)(ht:fL (.Call (.Attribute o m lE) [] [] pos) X.bW=(do
 let ov<-fL o X.bW
 D7 lE.atName
 let(f,first)<-re [ov] (G1 ov m pl)
 Mm pos f first (jd pos (cn [] X.bW)) (sF pos (lW [] X.bW))):=by rfl):PE X (.Call (.Attribute o m lE) [] [] pos) (Yx C m sp BS E ta Du):=by
 intro pins s σ H Q I h;refine Hn (pl:=pl) (fJ (he pins s σ H _ I h) λu s1 ⟨x,H1,I1,rx,a,dx,fs,ex,ea,l,q⟩=>?_) ht;subst ex;obtain rfl:u=aY a:=rx;refine BR I1 ea c hm l ?_;exact Kh (first:=[.ref a]) I1.MH hm.kp (Sf (us:=[.ref a]) (vs:=[.ref a]) F hr hb hd hx I1 (.cons rfl .nil) q)
structure Mk(K:ak)(C f:ah):Prop where
 makes:AI K C=true
 yn:eQ K (.ref C) "__init__"=some (some (.ref f))
 fn:sE K (.ref f)=true
 kp:fk K (.ref C)=true
theorem Iy{pins:List (ah×gS)}{σ:St}{H:Hp}{s:aA}{Q:VK}{us:List aj}{vs:List V}(M:Mk X.K C f)(F:dQ X.prog X.w X.K X.mg X.base CX k f fd ps sp)(hr:lO (k+1) X.A)(hb:Binds X.K fd ps ds)(hd:dq BS ds)(hx:vV CX X E)(I:Inv X pins σ H s)(r:dq vs us)(h:∀x dx,H x=none->H dx=none->dx≠x->sp (.ref x::(vs++BS)) (aP (aP H dx (.own x)) x (.gc C dx [])) (λv H2=>v= .non/\Q (.ref x) H2) E):aX (bA X.prog X.w) X.A (call (.ref C) us) (EP X pins σ Q) X.xe s:=by
 have hq:=h (s.heap.objs.size+1) s.heap.objs.size (I.d5.fresh (Nat.le_succ _)) (I.d5.fresh (aB _)) (b4 (iu _));have I2:=Inv.K1 (C:=C) I;have r2:dq (V.ref (s.heap.objs.size+1)::(vs++BS)) (aY (s.heap.objs.size+1)::(us++ds)):= .cons rfl (r.append hd);have hl:(aY (s.heap.objs.size+1)::us++ds).length=ps.length:=by have e:=r2.length;rw[F.fD _ _ _ _ hq]at e;exact e.symm
 refine wpAny_call (Sd (f:=f) I.MH M.makes M.yn (beq_iff_eq.mp M.fn) (wn (F.run _ X.stack _ _ ⟨aY (s.heap.objs.size+1)::us,[]⟩ (aY (s.heap.objs.size+1)::(us++ds)) _ _ E (hr.aav C us []) (I2.ae6.aav C us []) (hb _ (aY (s.heap.objs.size+1)::us) I2.MH hl) r2 hq) λr s' wu=>?_));cases r with
 |error e=>exact hx pins σ _ _ e s' I2 wu|ok fl=>
  cases fl with
  |ret u=>obtain⟨v,H',I3,rv,ev,q3⟩:=I2.Yw wu;subst ev;exact⟨rv,⟨V.ref (s.heap.objs.size+1),H',I3,rfl,q3⟩⟩
  |next=>exact fM wu|brk=>exact fM wu|cont=>exact fM wu
theorem Wq(M:Mk X.K C f)(F:dQ X.prog X.w X.K X.mg X.base CX k f fd ps sp)(hr:lO (k+1) X.A)(hg:Gl X x)(hm:X.mg x=some (.ref C))(hb:Binds X.K fd ps ds)(hd:dq BS ds)(hx:vV CX X E)(ha:PA X (e::es) t)(H_:(x==("__debug__":bT))=false:=by decide)(he:cn (e::es) X.bW=(false,fL e X.bW)::cn es X.bW:=by rfl)(wx:(jd pos (cn es X.bW)).any (·.1)=false:=by rfl):PE X (.Call (.Name x p) (e::es) [] pos) (MT C sp BS E t):=by intro pins s σ H Q I h;refine iX (AQ I hg hm ?_ H_);refine Mo (h₀:=X.base) I.ok.Fw.kin M.kp (fJ (ha pos pins s σ H _ I h) λus s1 ⟨vs,H1,I1,r,q⟩=>⟨I1.MH,?_⟩) he wx;exact Iy M F hr hb hd hx I1 r q
theorem Sh(M:Mk X.K C f)(F:dQ X.prog X.w X.K X.mg X.base CX k f fd ps sp)(hr:lO (k+1) X.A)(hg:Gl X x)(hm:X.mg x=some (.ref C))(hb:Binds X.K fd ps ds)(hd:dq BS ds)(hx:vV CX X E)(H_:(x==("__debug__":bT))=false:=by decide):PE X (.Call (.Name x p) [] [] pos) (MT C sp BS E Du):=by intro pins s σ H Q I h;refine iX (AQ I hg hm ?_ H_);exact Kh I.MH M.kp (Iy (us:=[]) M F hr hb hd hx I .nil h)
end
def PK(X:Cx)(kws:List Aa)(t:TA):Prop:=∀(pos:mZ)(pins:List (ah×gS))(s:aA)(σ:St)(H:Hp)(Q:List V->Hp->Prop),Inv X pins σ H s->t σ H Q->aX (bA X.prog X.w) X.A (evalAll ((sF pos (lW kws X.bW)).map (·.2))) (AP X pins σ Q) X.xe s
section
variable{X:Cx}{CX:QI}{k:Nat}{f C:ah}{fd:fR}{ps ks:List bT}{sp:Sp}{E:XK}{x m:bT}{p pos lE akH:mZ}{e o:Expr}{es:List Expr}{kws:List Aa}{te ta:TE}{t tk:TA}{nm:Option bT}
theorem FD:PK X [] Du:= λ_ _ _ _ H Q I h=>wpAny_evalAll_nil ⟨[],H,I,.nil,h⟩
theorem AR(ha:PE X e te)(hr:PK X kws t):PK X (⟨nm,e,akH⟩::kws) (xg te t):=by intro pos pins s σ H Q I h;show aX _ _ (evalAll ((do let v<-fL e X.bW;D7 pos;i4 v)::(sF pos (lW kws X.bW)).map (·.2))) _ _ s;refine wpAny_evalAll_cons (ae (fJ (ha pins s σ H _ I h) λu s1 ⟨x,H1,I1,r1,q1⟩=>ae (A5 (au ?_))));exact fJ (hr pos pins s1 σ H1 _ I1 q1) λus s2 ⟨xs,H2,I2,r2,q2⟩=>⟨x::xs,H2,I2,.cons r1 r2,q2⟩
variable{g:List aj->List aj->List aj}{gV:List V->List V->List V}
end
structure bU(N P:List bT)(sc:mY):Prop where
 kind:sc.kind= .function
 co:sc.isCoroutine=false
 gen:sc.isGenerator=false
 nd:N.Nodup
 pre:N.take P.length=P
 par:∀x∈P,sc.names.lookup x=some .local\/sc.names.lookup x=some .cell
 aax:∀y∈sc.names,y.2≠.free
theorem Ep{qG:bT->Option jk}{x:bT}:∀{xh:List (bT×aj)}{m:bT->Option aj},(∀v,(x,v)∉xh)->QZ qG xh m x=m x
 | [],_,_=>rfl|(n,v)::r,m,h=>by
  unfold QZ;rw[Ep λw hw=>h w (az _ hw)];split
  ·have:x≠n:=by rintro rfl;exact h v aC
   simp[this]
  ·rfl
theorem Er{qG:bT->Option jk}{x:bT}:∀{xh:List (bT×aj)}{m:bT->Option aj},(∀v,(x,v)∉xh)->Q0 qG xh m x=m x
 | [],_,_=>rfl|(n,v)::r,m,h=>by
  unfold Q0;rw[Er λw hw=>h w (az _ hw)];split
  ·rfl
  ·have:x≠n:=by rintro rfl;exact h v aC
   simp[this]
theorem Es{qG:bT->Option jk}{x:bT}{v:aj}:∀{P:List bT}{vs:List aj}{i:Nat}{m:bT->Option aj},P.Nodup->P[i]? =some x->vs[i]? =some v->qG x=some .local->QZ qG (P.zip vs) m x=some v
 | [],_,_,_,_,h,_,_=>by simp at h|_::_,[],_,_,_,_,h,_=>by simp at h|p::P,w::vs,0,m,nd,h1,h2,hk=>by
  simp at h1 h2;subst h1;subst h2
  show QZ qG ((p,w)::P.zip vs) m p=_;unfold QZ;rw[Ep λv hv=>(oU.mp nd).1 (C3 hv).1,if_pos hk];simp
 |p::P,w::vs,i+1,m,nd,h1,h2,hk=>by show QZ qG ((p,w)::P.zip vs) m x=_;unfold QZ;exact Es (i:=i) (oU.mp nd).2 (by simpa using h1) (by simpa using h2) hk
theorem Et{qG:bT->Option jk}{x:bT}{v:aj}:∀{P:List bT}{vs:List aj}{i:Nat}{m:bT->Option aj},P.Nodup->P[i]? =some x->vs[i]? =some v->qG x≠some .local->Q0 qG (P.zip vs) m x=some v
 | [],_,_,_,_,h,_,_=>by simp at h|_::_,[],_,_,_,_,h,_=>by simp at h|p::P,w::vs,0,m,nd,h1,h2,hk=>by
  simp at h1 h2;subst h1;subst h2
  show Q0 qG ((p,w)::P.zip vs) m p=_;unfold Q0;rw[Er λv hv=>(oU.mp nd).1 (C3 hv).1,if_neg hk];simp
 |p::P,w::vs,i+1,m,nd,h1,h2,hk=>by show Q0 qG ((p,w)::P.zip vs) m x=_;unfold Q0;exact Et (i:=i) (oU.mp nd).2 (by simpa using h1) (by simpa using h2) hk
def start(N:List bT)(vs:List V):St:=vs.map some++bz (N.length-vs.length) none
def O2(CX:QI)(P:a7)(w:bP)(K:ak)(mg:bT->Option aj)(base:cX)(N:List bT)(qual:bT)(scope:mY)(f:ah)(cd:aj)(A:cT)(bN:List Mj)(s:aA)(H:Hp)(E:XK):Cx where
 prog:=P
 w:=w
 K:=K
 mg:=mg
 base:=base
 A:=A.deeper (CS qual scope s.heap.objs.size f cd)
 N:=N
 Ek:=s
 H_0:=H
 bW:=CS qual scope s.heap.objs.size f cd
 bN:=bN
 stack:=CS qual scope s.heap.objs.size f cd::bN
 ex:=[]
 calm:=true
 fn:= λ_=>true
 pn:=[]
 xe:= λe s'=>aX (bA P w) (A.deeper (CS qual scope s.heap.objs.size f cd)) (leaving (CS qual scope s.heap.objs.size f cd) e) (λ_ s''=>CX bN H s E e s'') (λe' s''=>CX bN H s E e' s'') s'
theorem Iz{sc:mY}{n:Nat}{x:bT}(h:sc.names.lookup x=some .cell):∃c,(fm n sc.names []).lookup x=some c:=by have q:=G2 sc.names n [] (.inl h);exact EV.mp q
theorem O3{CX:QI}{P:a7}{w:bP}{K:ak}{mg:bT->Option aj}{base:cX}{N ps:List bT}{qual:bT}{scope:mY}{f:ah}{cd:aj}{A:cT}{bN:List Mj}{s s1:aA}{H:Hp}{E:XK}{us:List aj}{vs:List V}(S:bU N ps scope)(hd:A.handled=none)(e0:Ix P w K mg base A bN s H)(hl:vs.length=ps.length)(r:dq vs us)(x:InCallC s s.heap.objs.size (QZ (CS qual scope s.heap.objs.size f cd).kindOf (ps.zip us) λ_=>none) (fm (s.heap.objs.size+1) scope.names []) (Q0 (CS qual scope s.heap.objs.size f cd).kindOf (ps.zip us) λ_=>none) s1):Inv (O2 CX P w K mg base N qual scope f cd A bN s H E) [] (start N vs) H s1:=by
 have wx:ps.length<=N.length:=by have:=congrArg i0 S.pre;rw[a4]at this;omega
 obtain⟨h1,tk,rfl,hk⟩:=x.done;have noA:∀b:ah,b∉(O2 CX P w K mg base N qual scope f cd A bN s H E).ex:= λb z=>absurd (show b∈([]:List ah)from z) (by simp);refine⟨⟨e0.Fw,S.kind,rfl,rfl,aB _,λy z c h1 h2=>?_,λy hy=>?_,λy c _ h=>?_,λ_=>hd,cT.frames_deeper e0.frames,.inr ⟨rfl,rfl⟩,λb z=>absurd z (noA b),e0.bs,e0.RT,λb _ _=>noA b,λb z=>absurd z (noA b),e0.yE,e0.Wf⟩,rfl,e0.pG,Un.k4 hk,⟨_,x.toInCall.ns,λi y v h1 h2 h3=>?_⟩,λy c h=>⟨_,x.cell y c h⟩,e0.d5.fresh (aB _),λy c h=>?_,λp hp=>absurd (show p∈([]:List (ah×gS))from hp) (by simp),e0.d5.k4 hk,?_⟩
 ·exact name_of_addr x.apart (cI h1) (cI h2)
 ·have hy:scope.names.lookup y=some .cell\/scope.names.lookup y=some .free:=hy;rcases hy with hy|hy
  ·exact Iz hy
  ·exact absurd rfl (S.aax _ (cI hy))
 ·exact j6 (x.above y c (cI h))
 ·have hi:i<vs.length:=by
   unfold start at h2;by_cases hi:i<vs.length
   ·exact hi
   ·rw[eW (by simpa using hi)]at h2;rw[jq]at h2;split at h2<;>cases h2
  have ha:vs[i]? =some v:=by
   unfold start at h2;rw[cW (by simpa using hi),aM]at h2;cases e:vs[i]? with|none=>rw[e]at h2;cases h2|some a=>rw[e]at h2;cases h2;rfl
  obtain⟨u,hu,rv⟩:=r.get ha;have hp:ps[i]? =some y:=by rw[<-S.pre,fH (by omega)];exact h1
  have ndP:ps.Nodup:=by rw[<-S.pre];exact S.nd.sublist (List.take_sublist _ _)
  refine⟨u,rv,?_⟩;rcases S.par y (aG hp)with k|k
  ·exact .inl ⟨k,Es ndP hp hu k⟩
  ·obtain⟨c,e⟩:=Iz (n:=s.heap.objs.size+1) k;refine .inr ⟨.inl k,c,e,?_⟩;have q:=x.cell y c e;rw[Et ndP hp hu (by show scope.names.lookup y≠_;rw[k];decide)]at q;exact q
 ·exact e0.d5.fresh (j6 (x.above y c (cI h)))
 ·unfold start;show _=N.length;rw[aw,aq,nZ];omega
theorem ae8{CX:QI}{P:a7}{w:bP}{K:ak}{mg:bT->Option aj}{base:cX}{k:Nat}{f:ah}{name qual:bT}{params:Arguments}{body:List dZ}{scope:mY}{dV kV doc pm gl ct oc:aj}{an od:Option ah}{BU:Array (Option aj)}{N ps:List bT}{sp:Sp}(lk:K.lookup f=some ⟨oc,od,.func (eZ name qual params body scope dV kV doc pm an gl ct),BU⟩)(RL:je K gl qual=true)(S:bU N ps scope)(fD:∀vs H Q E,sp vs H Q E->vs.length=ps.length)(Si:∀(A:cT)(bN:List Mj)(s:aA)(H:Hp)(vs:List V)(Q:VK)(E:XK),lO k (A.deeper (CS qual scope s.heap.objs.size f gl))->sp vs H Q E->∃t,OU (O2 CX P w K mg base N qual scope f gl A bN s H E) body t/\t {nx:= λ_ H'=>Q .non H',rt:=Q} (start N vs) H):dQ P w K mg base CX (k+1) f (eZ name qual params body scope dV kV doc pm an gl ct) ps sp:=by
 refine⟨fD,λA bN s H args us vs Q E hr e0 hb r O4=>?_⟩;have hl:=fD _ _ _ _ O4;have KX:K.In s.heap:=e0.Fw.kin.keeps λb o e=>(e0.bs b o e).1;have lim:s.heap.NoLimit:=e0.Fw.nolimit.keeps λb o e=>(e0.bs b o e).1;have ae9:∀y∈ps.zip us,scope.names.lookup y.1=some .local\/(scope.names.lookup y.1=some .cell/\((fm (s.heap.objs.size+1) scope.names []).lookup y.1).isSome=true):= λ⟨n,v⟩ hy=>by
  rcases S.par n (C3 hy).1 with q|q
  ·exact .inl q
  ·exact .inr ⟨q,G2 _ _ _ (.inl q)⟩
 refine codeAny_call_function hr.depth (KX _ _ lk) rfl S.co S.gen rfl (PySem.W.codeRec_of KX RL) (hb _ _ _ _ ?_);refine wpAny_newFunctionEnv_cells S.kind ae9 λbW he s1 x=>?_;subst he;refine⟨lim.keeps x.toInCall.keep,codeAny_func ?_⟩;obtain⟨t,ht,hq⟩:=Si A bN s H vs Q E (hr.deeper _) O4;have I:Inv (O2 CX P w K mg base N qual scope f gl A bN s H E) [] (start N vs) H s1:=O3 S hr.hd e0 hl r x;refine gp (ht [] s1 (start N vs) H _ I hq) (λfl s' hs=>?_) λe s' hs=>hs;have oH:∀{h9:St}{H':Hp}{v:V}{u:aj},Inv (O2 CX P w K mg base N qual scope f gl A bN s H E) [] h9 H' s'->RelV v u->Q v H'->CE bN P w H s Q u s':=
  λ{h9 H' v u} J rv q=>⟨v,H',J.os,J.pG,J.base,J.d5,rv,q⟩
 cases fl with
 |ret u=>obtain⟨v,h9,H',J,rv,q⟩:=hs;exact oH J rv q
 |next=>obtain⟨h9,H',J,q⟩:=hs;exact oH (v:=V.non) (u:=dI) J rfl q
 |brk=>obtain⟨_,_,_,q⟩:=hs;exact fM q
 |cont=>obtain⟨_,_,_,q⟩:=hs;exact fM q
section
variable{X:Cx}{x:bT}{p pos:mZ}{e:Expr}{es:List Expr}{t:TA}{id T:String}{r:List V->Hp->VK->Prop}
def tCB(r:List V->Hp->VK->Prop)(t:TA):TE:= λσ H Q=>t σ H λvs H1=>r vs H1 Q
theorem cg(hc:ud X (.builtin id) r)(hg:Gl X x)(hm:X.mg x=none)(hv:mi x=some (.builtin id))(ha:PA X (e::es) t)(hn:x≠"__name__":=by decide)(H_:(x==("__debug__":bT))=false:=by decide)(he:cn (e::es) X.bW=(false,fL e X.bW)::cn es X.bW:=by rfl)(wx:(jd pos (cn es X.bW)).any (·.1)=false:=by rfl):PE X (.Call (.Name x p) (e::es) [] pos) (tCB r t):=by intro pins s σ H Q I h;refine iX (rZ I hg hm hv ?_ hn H_);exact ajF (fJ (ha pos pins s σ H _ I h) λus s1 ⟨vs,H1,I1,r1,q1⟩=>hc pins s1 σ H1 vs us Q I1 r1 q1) he wx
theorem qU(hc:ud X (.type T) r)(hg:Gl X x)(hm:X.mg x=none)(hv:mi x=some (.type T))(ha:PA X (e::es) t)(hn:x≠"__name__":=by decide)(H_:(x==("__debug__":bT))=false:=by decide)(he:cn (e::es) X.bW=(false,fL e X.bW)::cn es X.bW:=by rfl)(wx:(jd pos (cn es X.bW)).any (·.1)=false:=by rfl):PE X (.Call (.Name x p) (e::es) [] pos) (tCB r t):=by intro pins s σ H Q I h;refine iX (rZ I hg hm hv ?_ hn H_);exact fC (fJ (ha pos pins s σ H _ I h) λus s1 ⟨vs,H1,I1,r1,q1⟩=>hc pins s1 σ H1 vs us Q I1 r1 q1) he wx
end
end L2
namespace HT
open PySem PyProof.Rows
section
variable{prog:a7}{w:bP}{A:cT}{E:aj->aA->Prop}{s:aA}
def u6(n d:Nat):Option Int->Nat
 |none=>d|some v=>if v<0 then(v+(n:Int)).toNat else min v.toNat n
end
end HT
namespace L2
open PySem PySem.Spec PyProof.Rows
abbrev TO:=St->Hp->(Option Int->Hp->Prop)->Prop
def PO(X:Cx)(e:Option Expr)(t:TO):Prop:=∀(pins:List (ah×gS))(s:aA)(σ:St)(H:Hp)(Q:Option Int->Hp->Prop),Inv X pins σ H s->t σ H Q->aX (bA X.prog X.w) X.A (evalPart e X.bW) (λu s'=>∃o H',Inv X pins σ H' s'/\IsPart u o/\Q o H') X.xe s
def Wr:TO:= λ_ H Q=>Q none H
inductive aay(Q:Option Int->Hp->Prop)(x:V)(H1:Hp):Prop
 |mk (i:_) (_:x= .int i) (_:Q (some i) H1)
def afa(t:TE):TO:= λσ H Q=>t σ H λx H1=>aay Q x H1
section
variable{X:Cx}{e:Expr}{te:TE}{lo hi:Option Expr}{tl th:TO}{pos p2:mZ}
theorem MU:PO X none Wr:=by intro pins s σ H Q I h;rw[evalPart_none];exact au ⟨none,H,I,.none,h⟩
theorem pZ(h:PE X e te):PO X (some e) (afa te):=by intro pins s σ H Q I hw;rw[evalPart_some];refine fJ (h pins s σ H _ I hw) λu s1 ⟨x,H1,I1,r1,q1⟩=>?_;obtain⟨i,rfl,q⟩:=q1;obtain⟨t,rfl⟩:=r1;exact⟨some i,H1,I1,.int i t,q⟩
def SlR(X:Cx)(r:V->Option Int->Option Int->Hp->VK->Prop):Prop:=∀(pins:List (ah×gS))(s:aA)(σ:St)(H:Hp)(x:V)(v vl vu:aj)(lo hi:Option Int)(sl:ah)(Q:VK),Inv X pins σ H s->RelV x v->s.heap.IsSliceOf sl vl vu .none->IsPart vl lo->IsPart vu hi->r x lo hi H Q->∃T id,ac4 (.type T) "__getitem__"=i4 (some (.builtin id))/\s.TypeIs v T/\aX (bA X.prog X.w) X.A (Ki v (.ref sl)) (EP X pins σ Q) X.xe s
def tSl(r:V->Option Int->Option Int->Hp->VK->Prop)(te:TE)(tl th:TO):TE:= λσ H Q=>te σ H λx H1=>tl σ H1 λl H2=>th σ H2 λu H3=>r x l u H3 Q
theorem uf{r:V->Option Int->Option Int->Hp->VK->Prop}(hr:SlR X r)(he:PE X e te)(hl:PO X lo tl)(hu:PO X hi th):PE X (.Subscript e (.Slice lo hi none p2) pos) (tSl r te tl th):=by intro pins s σ H Q I h;refine ac9 (fJ (he pins s σ H _ I h) λv s1 ⟨x,H1,I1,r1,q1⟩=>?_);refine wpAny_Slice (fJ (hl pins s1 σ H1 _ I1 q1) λvl s2 ⟨l,H2,I2,pl,q2⟩=>fJ (hu pins s2 σ H2 _ I2 q2) λvu s3 ⟨u,H3,I3,pu,q3⟩=>?_);rw[evalPart_none];refine au ?_;have I4:Inv X pins σ H3 {s3 with heap:=s3.heap.push {cls:= .type "slice",data:= .fields #[vl,vu,.none]}}:=I3.k4 (t':=s3.toks) λb ob q=>aI _ q;obtain⟨T,id,hT,ht,hg⟩:=hr pins {s3 with heap:=s3.heap.push {cls:= .type "slice",data:= .fields #[vl,vu,.none]}} σ H3 x v vl vu l u s3.heap.objs.size Q I4 r1 (aee ..) pl pu q3;show aX (bA X.prog X.w) X.A (QD e (.Slice lo hi none p2) v (.ref s3.heap.objs.size)) (EP X pins σ Q) X.xe {s3 with heap:=s3.heap.push {cls:= .type "slice",data:= .fields #[vl,vu,.none]}};exact tail_any (ops:=[.ref s3.heap.objs.size,v]) ht hT hg (by with_unfolding_all rfl)
def qV(xs:List V)(lo hi:Option Int):List V:=(xs.drop (HT.u6 xs.length 0 lo)).take (HT.u6 xs.length xs.length hi-HT.u6 xs.length 0 lo)
theorem IA(xs:List V)(lo hi:Option Int):(qV xs lo hi).length<=xs.length:=by unfold qV;rw[a4,eC];omega
end
def Sj(n:Nat)(i:Int):Option Nat:=if 0<=i then(if i<n then some i.toNat else none)else if-(n:Int)<=i then some (i+n).toNat else none
def Ws{α:Type}(xs:List α)(i:Int):Option α:=(Sj xs.length i).bind λj=>xs[j]?
theorem MV{n:Nat}{i:Int}{j:Nat}(h:Sj n i=some j):seqIndex? i n=some j/\j<n/\-(n:Int)<=i/\i<n:=by
 unfold Sj at h;by_cases h0:0<=i
 ·rw[if_pos h0]at h;by_cases h1:i<n
  ·rw[if_pos h1]at h;have e:i.toNat=j:=ax h;exact⟨by rw[X_ h0 h1,e],by omega,by omega,h1⟩
  ·rw[if_neg h1]at h;cases h
 ·rw[if_neg h0]at h;by_cases h1: -(n:Int)<=i
  ·rw[if_pos h1]at h;have e:(i+n).toNat=j:=ax h;exact⟨by rw[Vg (by omega) h1,e],by omega,h1,by omega⟩
  ·rw[if_neg h1]at h;cases h
theorem MW{α:Type}{xs:List α}{i:Int}{v:α}(h:Ws xs i=some v):∃j,seqIndex? i xs.length=some j/\xs[j]? =some v/\j<xs.length/\-(xs.length:Int)<=i/\i<xs.length:=by
 unfold Ws at h;cases e:Sj xs.length i with
 |none=>rw[e]at h;cases h|some j=>rw[e]at h;obtain⟨h1,h2,h3,h4⟩:=MV e;exact⟨j,h1,h,h2,h3,h4⟩
theorem aN{α:Type}{xs:List α}{j:Nat}{v:α}(h:xs[j]? =some v):Ws xs (j:Int)=some v:=by
 have hj:j<xs.length:=(ao.mp h).1;have e:Sj xs.length (j:Int)=some j:=by unfold Sj;rw[if_pos (by omega),if_pos (by omega)];simp
 unfold Ws;rw[e];exact h
theorem IB{α:Type}(xs:List α)(v:α):Ws (xs++[v]) (-1)=some v:=by
 have hl:(xs++[v]).length=xs.length+1:=by simp
 have e:Sj (xs++[v]).length (-1)=some xs.length:=by unfold Sj;rw[hl,if_neg (by decide),if_pos (by omega)];congr 1;omega
 unfold Ws;rw[e];show(xs++[v])[xs.length]? =some v;simp
def MX(b:Expr):Prop:=∀o i,Hr b false o i=operate [o,i] (Ki o i)
def IxR(X:Cx)(r:R2):Prop:=∀(kI dN:Expr)(pins:List (ah×gS))(s:aA)(σ:St)(H:Hp)(x y:V)(v u:aj)(Q:VK),Inv X pins σ H s->RelV x v->RelV y u->r x y H Q->Hr dN false v u=operate [v,u] (Ki v u)->aX (bA X.prog X.w) X.A (QD kI dN v u) (EP X pins σ Q) X.xe s
def MtR(X:Cx)(id:String)(r:V->List V->Hp->VK->Prop):Prop:=∀(pins:List (ah×gS))(s:aA)(σ:St)(H:Hp)(x:V)(xs:List V)(v:aj)(us:List aj)(Q:VK),Inv X pins σ H s->RelV x v->dq xs us->r x xs H Q->aX (bA X.prog X.w) X.A (call (.builtin id) (v::us)) (EP X pins σ Q) X.xe s
section
variable{X:Cx}{a b:Expr}{ta tb:TE}{pos:mZ}
theorem Eu{r:R2}(hr:IxR X r)(ha:PE X a ta)(hb:PE X b tb)(hs:MX b):PE X (.Subscript a b pos) (Yu r ta tb):=by intro pins s σ H Q I h;exact ac9 (aao ha hb I h λv u s2 x y H2 I2 rx ry q=>hr a b pins s2 σ H2 x y v u Q I2 rx ry q (hs _ _))
inductive Wt(K:ak)(x y:V)(H:Hp)(Q:VK):Prop
 |mk (p xs i v:_) (_:x= .ref p) (_:y= .int i) (_:cv K H p xs) (_:Ws xs i=some v) (_:Q v H)
inductive aaz(K:ak)(x y:V)(H:Hp)(Q:VK):Prop
 |mk (p xs i v:_) (_:x= .ref p) (_:y= .int i) (_:eh K H p xs) (_:Ws xs i=some v) (_:Q v H)
theorem b_:IxR X (Wt X.K):=by
 intro kI dN pins s σ H x y v u Q I rx ry h hs;obtain⟨p,xs,i,z,rfl,rfl,hq,he,q⟩:=h;cases rx;obtain⟨t,rfl⟩:=ry;obtain⟨cc,r,pl,hz⟩:=I.list hq;obtain⟨j,h1,h2,h3,h4,h5⟩:=MW he;obtain⟨w,ew,IC⟩:=r.get h2;have hl:=r.length;have hn:=vU;have oH:EP X pins σ Q w s:=⟨z,H,I,IC,q⟩;by_cases h0:0<=i
 ·have hj:i.toNat=j:=by rw[X_ h0 h5]at h1;exact ax h1
  exact item_listR pl.isList h0 (by omega) (by rw[hj];simpa using ew) oH hs
 ·have hj:(i+(cc.toArray.size:Int)).toNat=j:=by rw[Vg (by omega) h4]at h1;rw[a9,<-hl];exact ax h1
  exact Vh (x:=w) pl.isList.typeIs aef.lookup
   (wpAny_getItem_list_neg (Q:= λr s'=>r=w/\EP X pins σ Q r s') pl.isList (by omega) (by rw[a9]<;>omega) (by omega) (by rw[hj];simpa using ew) ⟨rfl,oH⟩) hs
theorem cw:IxR X (aaz X.K):=by
 intro kI dN pins s σ H x y v u Q I rx ry h hs;obtain⟨p,xs,i,z,rfl,rfl,hq,he,q⟩:=h;cases rx;obtain⟨t,rfl⟩:=ry;obtain⟨cc,r,pl,hz⟩:=I.tuple hq;obtain⟨j,h1,h2,h3,h4,h5⟩:=MW he;obtain⟨w,ew,IC⟩:=r.get h2;have hl:=r.length;have hn:=vU;have oH:EP X pins σ Q w s:=⟨z,H,I,IC,q⟩;exact Vh (x:=w) pl.typeIs CQ.lookup
  (getItem_tuple (j:=j) (Q:= λr s'=>r=w/\EP X pins σ Q r s') pl (by omega) (by omega) (by rw[a9,<-hl];exact h1) (by simpa using ew) ⟨rfl,oH⟩) hs
theorem K4(cc:List aj)(n j:Nat)(u:aj):mR (·.setIfInBounds j u) {cls:= .type "list",data:= .seq cc.toArray n}={cls:= .type "list",data:= .seq (cc.set j u).toArray n}:=by simp[mR]
theorem Inv.be{pins:List (ah×gS)}{σ:St}{H:Hp}{s:aA}{p:ah}{xs:List V}(I:Inv X pins σ H s)(h:H p=some (.be xs)):∃(cc:List aj)(n:Nat),dq xs cc/\s.heap.get? p=some {cls:= .type "list",data:= .seq cc.toArray n}/\xs.length<=al:=by obtain⟨z,cc,n,r,e⟩:=I.d5 p _ h;exact⟨cc,n,r,e,z⟩
theorem Inv.aaA{pins:List (ah×gS)}{σ:St}{H:Hp}{s:aA}{p:ah}{xs ys:List V}{cc its':List aj}{n n':Nat}{f:gS->gS}(I:Inv X pins σ H s)(h:H p=some (.be xs))(ho:s.heap.get? p=some {cls:= .type "list",data:= .seq cc.toArray n})(hf:f {cls:= .type "list",data:= .seq cc.toArray n}={cls:= .type "list",data:= .seq its'.toArray n'})(r:dq ys its')(hz:ys.length<=al)(t:Nat):Inv X pins σ (aP H p (.be ys)) {s with heap:=s.heap.update p f,toks:=t}:=by
 have e:(s.heap.update p f).get? p=some {cls:= .type "list",data:= .seq its'.toArray n'}:=by rw[cu f ho (by rw[hf]<;>rfl),hf]
 refine I.vk (x:=p) (e:=p) (by rw[h];trivial) (.inl rfl) (λb u hb q=>(bF _ _ (iN hb)).trans q) ⟨_,e⟩ ?_;exact⟨hz,its',n',r,e⟩
inductive afc(o i v:V)(H:Hp)(Q:(Hp->Prop)):Prop
 |mk (p xs k j:_) (_:o= .ref p) (_:i= .int k) (_:H p=some (.be xs)) (_:Sj xs.length k=some j) (_:Q (aP H p (.be (xs.set j v))))
theorem ug:aeO X afc:=by
 intro pins s σ H o i v ov iv u Q I ro ri rv h;obtain⟨p,xs,k,j,rfl,rfl,hp,hj,q⟩:=h;cases ro;obtain⟨t,rfl⟩:=ri;obtain⟨cc,n,r,ho,hz⟩:=I.be hp;obtain⟨h1,h2,h3,h4⟩:=MV hj;have hl:=r.length;have hn:=vU;have I':Inv X pins σ (aP H p (.be (xs.set j v))) {s with heap:=s.heap.update p (mR (·.setIfInBounds j u))}:=
  I.aaA hp ho (K4 cc n j u) (r.set rv j) (by rw[C4];exact hz) s.toks
 by_cases h0:0<=k
 ·have hk:k.toNat=j:=by rw[X_ h0 h4]at h1;exact ax h1
  exact PySem.W.ki_setAt ho h0 (by omega) (by rw[a9,<-hl];exact h4) (by rw[hk];exact⟨_,I',q⟩)
 ·have hk:(k+(cc.toArray.size:Int)).toNat=j:=by rw[Vg (by omega) h3]at h1;rw[a9,<-hl];exact ax h1
  exact PySem.W.ki_setBack ho (by omega) (by rw[a9,<-hl];exact h3) (by omega) (by rw[hk];exact⟨_,I',q⟩)
theorem FE(lo hi:Option Int)(n:Nat):(pQ lo hi none n).1=((HT.u6 n 0 lo:Nat):Int)/\(pQ lo hi none n).2.1=((HT.u6 n n hi:Nat):Int)/\(pQ lo hi none n).2.2=1:=by
 refine⟨?_,?_,rfl⟩
 ·cases lo with
  |none=>simp[pQ,HT.u6]|some i=>
   simp only[pQ,HT.u6,Q1,show(1:Int)>0 by decide,if_true];by_cases h:i<0
   ·simp only[h,if_true]<;>omega
   ·simp only[h,if_false]<;>omega
 ·cases hi with
  |none=>simp[pQ,HT.u6]|some i=>
   simp only[pQ,HT.u6,Q1,show(1:Int)>0 by decide,if_true];by_cases h:i<0
   ·simp only[h,if_true]<;>omega
   ·simp only[h,if_false]<;>omega
theorem Dv(cc:List aj)(lo hi:Option Int):slicePick cc.toArray lo hi none=((cc.drop (HT.u6 cc.length 0 lo)).take (HT.u6 cc.length cc.length hi-HT.u6 cc.length 0 lo)).toArray:=by obtain⟨h1,h2,h3⟩:=FE lo hi cc.toArray.size;unfold slicePick;rw[h1,h2,h3];simp only[sliceRange_one,pick_run,a9]<;>rfl
inductive akJ(K:ak)(x:V)(lo hi:Option Int)(H:Hp)(Q:VK):Prop
 |mk (a xs:_) (_:x= .ref a) (_:cv K H a xs) (_:∀p,H p=none->Q (.ref p) (aP H p (.be (qV xs lo hi))))
theorem xi:SlR X (akJ X.K):=by intro pins s σ H x v vl vu lo hi sl Q I rx hs pl pu h;obtain⟨a,xs,rfl,hx,q⟩:=h;cases rx;obtain⟨cc,r,ht,hz⟩:=I.list hx;have dX:=r.length;refine⟨"list",_,aef.lookup,ht.isList.typeIs,?_⟩;refine wpAny_getItem_list_slice ht.isList hs pl pu .none (by simp) ?_ (by rw[a9]<;>omega);rw[Dv,<-dX];refine⟨.ref s.heap.objs.size,_,I.rW (t':=s.toks) (o:= .be (qV xs lo hi)) (λb ob q=>aI _ q) (aB _) ?_,rfl,q _ (I.d5.fresh (aB _))⟩;exact⟨aW (IA xs lo hi) hz,_,0,(r.drop (HT.u6 xs.length 0 lo)).take (HT.u6 xs.length xs.length hi-HT.u6 xs.length 0 lo),ba _ rfl⟩
def zM:V->Bool
 | .non=>true| .bl _=>true| .int _=>true| .str _=>true|_=>false
def Yy:V->V->Bool
 | .non,.non=>true| .bl a,.bl b=>a==b| .bl a,.int b=>(if a then 1 else 0)==b| .int a,.bl b=>a==(if b then 1 else 0)| .int a,.int b=>a==b| .str a,.str b=>a==b|_,_=>false
theorem aaB{A:cT}{s:aA}{y x:V}{u v:aj}(ry:RelV y u)(rx:RelV x v)(fy:zM y=true)(fx:zM x=true):ahY A s u v (Yy y x):=by
 cases y with
 |non=>
  cases ry;cases x with
  |non=>cases rx;exact ahY.same _|bl b=>cases rx;exact ahY.none_bool b|int b=>obtain⟨t,rfl⟩:=rx;exact G3 b t
  |str b=>obtain⟨t,rfl⟩:=rx;exact G4 b t
  |_=>exact absurd (show false=true from fx) bn
 |bl a=>
  cases ry;cases x with
  |non=>cases rx;exact ahY.bool_none a|bl b=>cases rx;exact ahY.bool_bool a b|int b=>obtain⟨t,rfl⟩:=rx;exact ahY.bool_int a b t
  |str b=>obtain⟨t,rfl⟩:=rx;exact ahY.bool_str a b t
  |_=>exact absurd (show false=true from fx) bn
 |int a=>
  obtain⟨t',rfl⟩:=ry;cases x with
  |non=>cases rx;exact G5 a t'|bl b=>cases rx;exact ahY.int_bool a t' b|int b=>obtain⟨t,rfl⟩:=rx;exact ahY.int_int a t' b t
  |str b=>obtain⟨t,rfl⟩:=rx;exact Hk a t' b t
  |_=>exact absurd (show false=true from fx) bn
 |str a=>
  obtain⟨t',rfl⟩:=ry;cases x with
  |non=>cases rx;exact G6 a t'|bl b=>cases rx;exact ahY.str_bool a t' b|int b=>obtain⟨t,rfl⟩:=rx;exact Hl a t' b t
  |str b=>obtain⟨t,rfl⟩:=rx;exact ahY.str_str a t' b t
  |_=>exact absurd (show false=true from fx) bn
 |_=>exact absurd (show false=true from fy) bn
def Wu(x:V)(u:aj):Bool:=match u with| .none=>Yy .non x| .bool b=>Yy (.bl b) x| .int i _=>Yy (.int i) x| .str z _=>Yy (.str z) x|_=>false
theorem Sk{x y:V}{u:aj}(r:RelV y u)(f:zM y=true):Wu x u=Yy y x:=by
 cases y with
 |non=>cases r;rfl|bl b=>cases r;rfl|int i=>obtain⟨t,rfl⟩:=r;rfl
 |str z=>obtain⟨t,rfl⟩:=r;rfl
 |_=>exact absurd (show false=true from f) bn
theorem FF{x:V}:∀{xs:List V}{us:List aj},dq xs us->xs.all zM=true->us.any (Wu x)=xs.any λy=>Yy y x
 |_,_,.nil,_=>rfl|y::xs,u::us,.cons r t,f=>by rw[l5,bg]at f;rw[kx,kx,Sk r f.1,FF t f.2]
theorem BV{A:cT}{s:aA}{x:V}{v:aj}(rx:RelV x v)(fx:zM x=true):∀{xs:List V}{us:List aj},dq xs us->xs.all zM=true->∀u∈us,ahY A s u v (Wu x u)
 |_,_,.nil,_=> λu hu=>by cases hu
 |y::xs,u::us,.cons r t,f=> λu' hu=>by
  rw[l5,bg]at f;rcases aU.mp hu with rfl|hu
  ·rw[Sk r f.1];exact aaB r rx f.1 fx
  ·exact BV rx fx t f.2 u' hu
def inV(x:V)(xs:List V):Bool:=xs.any λy=>Yy y x
inductive rIn(K:ak)(neg:Bool)(x y:V)(H:Hp)(Q:VK):Prop
 |mk (p xs:_) (_:y= .ref p) (_:(cv K H p xs\/eh K H p xs)) (_:zM x=true) (_:xs.all zM=true) (_:Q (.bl (if neg then !inV x xs else inV x xs)) H)
theorem O5:uQ X (fj .In) (rIn X.K false):=by
 intro pins s σ H x y v u Q I rx ry h;obtain⟨p,xs,rfl,hq,fx,fs,q⟩:=h;cases ry;rcases hq with hq|hq
 ·obtain⟨cc,r,pl,hz⟩:=I.list hq;refine SeqAt.in_listAt (Wu x) pl.isList (λw hw=>BV rx fx r fs w (by simpa using hw)) ⟨.bl _,H,I,rfl,?_⟩;rw[show cc.toArray.any (Wu x)=cc.any (Wu x) by simp,FF r fs];exact q
 ·obtain⟨cc,r,pl,hz⟩:=I.tuple hq;refine SeqAt.in_tupleAt (Wu x) pl (λw hw=>BV rx fx r fs w (by simpa using hw)) ⟨.bl _,H,I,rfl,?_⟩;rw[show cc.toArray.any (Wu x)=cc.any (Wu x) by simp,FF r fs];exact q
theorem bM:ud X (.builtin "len") (λxs H Q=>∃p ys,xs=[.ref p]/\(cv X.K H p ys\/eh X.K H p ys)/\Q (.int ys.length) H):=by
 intro pins s σ H xs us Q I r h;obtain⟨p,ys,rfl,hq,q⟩:=h;obtain⟨u,rfl,rx⟩:=vals1 r;cases rx;have hn:=vU;rcases hq with hq|hq
 ·obtain⟨cc,r',pl,hz⟩:=I.list hq;have dX:=r'.length;exact Calls.call_len_list pl.isList (by simp only[a9]<;>omega) ⟨.int ys.length,H,I.ww _,⟨s.toks+1,by rw[a9,dX]⟩,q⟩
 ·obtain⟨cc,r',pl,hz⟩:=I.tuple hq;have dX:=r'.length;exact len_tuple pl (by simp only[a9]<;>omega) ⟨.int ys.length,H,I.ww _,⟨s.toks+1,by rw[a9,dX]⟩,q⟩
theorem FG:ud X (.type "list") (λxs H Q=>∃p ys,xs=[.ref p]/\(cv X.K H p ys\/eh X.K H p ys)/\∀l,H l=none->Q (.ref l) (aP H l (.be ys))):=by
 intro pins s σ H xs us Q I r h;obtain⟨p,ys,rfl,hq,q⟩:=h;obtain⟨u,rfl,rx⟩:=vals1 r;cases rx;have oH:∀(cc:List aj),dq ys cc->ys.length<=al->∀(h':cX)(c':Nat),(∀b o',s.heap.get? b=some o'->h'.get? b=some o')->
  h'.get? s.heap.objs.size=some {cls:= .type "list",dict:=none,data:= .seq cc.toArray c',slots:= #[]}->EP X pins σ Q (.ref s.heap.objs.size) {s with heap:=h'}:= λcc r' hz h' c' kp e=>
  ⟨.ref s.heap.objs.size,_,I.rW (t':=s.toks) kp (aB _) (show ie X.prog X.w _ h' _ (.be ys)from⟨hz,cc,c',r',e⟩),rfl,q _ (I.d5.fresh (aB _))⟩
 rcases hq with hq|hq
 ·obtain⟨cc,r',pl,hz⟩:=I.list hq;have dX:=r'.length;obtain⟨o,ho,hc,n,hd⟩:=pl.isList;exact call_list_seq p (.inl rfl) ho hc hd (λh' c' kp e=>oH cc r' hz h' c' kp e) (by simp only[a9]<;>omega)
 ·obtain⟨cc,r',pl,hz⟩:=I.tuple hq;have dX:=r'.length;obtain⟨o,ho,hc,n,hd⟩:=pl;exact call_list_seq p (.inr rfl) ho hc hd (λh' c' kp e=>oH cc r' hz h' c' kp e) (by simp only[a9]<;>omega)
theorem nD:ud X (.type "tuple") (λxs H Q=>∃p ys,xs=[.ref p]/\((cv X.K H p ys/\∀l,H l=none->Q (.ref l) (aP H l (.bV ys)))\/(eh X.K H p ys/\Q (.ref p) H))):=by
 intro pins s σ H xs us Q I r h;obtain⟨p,ys,rfl,h⟩:=h;obtain⟨u,rfl,rx⟩:=vals1 r;cases rx;rcases h with⟨hq,q⟩|⟨hq,q⟩
 ·obtain⟨cc,r',pl,hz⟩:=I.list hq;have dX:=r'.length;refine call_tuple_list pl.isList (λh' kp=>?_) (by simp only[a9]<;>omega);have I1:Inv X pins σ H {s with heap:=h'}:=I.k4 (t':=s.toks) kp;have I2:Inv X pins σ (aP H h'.objs.size (.bV ys)) {s with heap:=h'.push {cls:= .type "tuple",data:= .seq cc.toArray}}:=
   I1.rW (t':=s.toks) (λb o e=>aI _ e) (aB _) (show ie X.prog X.w _ _ _ (.bV ys)from⟨hz,cc,r',IsTup.new _ _⟩)
  exact⟨.ref h'.objs.size,_,I2,rfl,q _ (I1.d5.fresh (aB _))⟩
 ·obtain⟨cc,r',pl,hz⟩:=I.tuple hq;exact call_tuple_same pl ⟨.ref p,H,I,rfl,q⟩
def tyV(K:ak)(T:String)(x:V)(H:Hp):Prop:=match x with
 | .str _=>T="str"| .int _=>T="int"| .ref p=>(T="list"/\∃xs,cv K H p xs)\/(T="tuple"/\∃o,K.lookup p=some o/\o.cls= .type "tuple"/\o.dict=none)\/
  (T="dict"/\((∃kvs,H p=some (.dK kvs))\/∃kvs,H p=some (.dT kvs)))\/(T="set"/\∃S n,H p=some (.set S n))
 |_=>False
theorem Sl{pins:List (ah×gS)}{σ:St}{H:Hp}{s:aA}{T:String}{x:V}{v:aj}(I:Inv X pins σ H s)(r:RelV x v)(ty:tyV X.K T x H):s.TypeIs v T/\∀a,v= .ref a->∃ob,s.heap.get? a=some ob/\ob.dict=none:=by
 cases x with
 |str z=>obtain⟨t,rfl⟩:=r;cases (show T="str" from ty);exact⟨typeIs_str s z t,λ_ e=>nomatch e⟩
 |int i=>obtain⟨t,rfl⟩:=r;cases (show T="int" from ty);exact⟨ada s i t,λ_ e=>nomatch e⟩
 |ref p=>
  cases r;rcases ty with⟨rfl,xs,hq⟩|⟨rfl,o,hk,hc,hd⟩|⟨rfl,hk⟩|⟨rfl,S,n,hk⟩
  ·obtain⟨cc,_,pl,_⟩:=I.list hq;refine⟨pl.isList.typeIs,λa e=>?_⟩;cases e;obtain⟨o,n,e,c,hd,_⟩:=pl;exact⟨o,e,hd⟩
  ·refine⟨⟨o,I.MH p o hk,hc⟩,λa e=>?_⟩;cases e;exact⟨o,I.MH _ o hk,hd⟩
  ·have z:∃o,s.heap.get? p=some o/\o.ExactDict:=by
    rcases hk with⟨kvs,hk⟩|⟨kvs,hk⟩
    ·obtain⟨_,_,_,_,o,_,_,e,ex,_⟩:=I.d5 p _ hk;exact⟨o,e,ex⟩
    ·obtain⟨_,_,_,_,o,_,_,e,ex,_⟩:=I.d5 p _ hk;exact⟨o,e,ex⟩
   obtain⟨o,e,ex⟩:=z;refine⟨⟨o,e,ex.1⟩,λa e2=>?_⟩;cases e2;exact⟨o,e,ex.2.1⟩
  ·obtain⟨o,_,_,_,e,ex,_⟩:=I.d5 p _ hk;refine⟨⟨o,e,ex.1⟩,λa e2=>?_⟩;cases e2;exact⟨o,e,ex.2.1⟩
 |_=>exact fM ty
inductive afd(K:ak)(T:String)(r:V->List V->Hp->VK->Prop)(Q:VK)(x:V)(H1:Hp):Prop
 |mk (_:tyV K T x H1) (_:r x [] H1 Q)
def akL(K:ak)(T:String)(r:V->List V->Hp->VK->Prop)(to:TE):TE:= λσ H Q=>to σ H λx H1=>afd K T r Q x H1
inductive akM(K:ak)(T:String)(r:V->List V->Hp->VK->Prop)(t:TA)(σ:St)(Q:VK)(x:V)(H1:Hp):Prop
 |mk (_:tyV K T x H1) (_:t σ H1 λxs H2=>r x xs H2 Q)
def tBM(K:ak)(T:String)(r:V->List V->Hp->VK->Prop)(to:TE)(t:TA):TE:= λσ H Q=>to σ H λx H1=>akM K T r t σ Q x H1
variable{o e:Expr}{es:List Expr}{to:TE}{t:TA}{name:bT}{lE lP:mZ}{T id:String}{r:V->List V->Hp->VK->Prop}
theorem Sm(pa:PlainAttrs T)(slot:Slot T name id)(hty:typeOf (.builtin id)=i4 (.type "method_descriptor"))(hm:MtR X id r)(ho:PE X o to)(ID:lp o name X.bW (fL o X.bW)=fL o X.bW:=by rfl)(BW:(lE.endLine==lP.line)=true:=by rfl):PE X (.Call (.Attribute o name lE) [] [] lP) (akL X.K T r to):=by intro pins s σ H Q I h;refine wpAny_Call_method0_late ID BW (fJ (ho pins s σ H _ I h) λv s1 ⟨x,H1,I1,r1,ty,q1⟩=>?_);obtain⟨h1,h2⟩:=Sl I1 r1 ty;exact⟨T,id,pa,slot,hty,h1,h2,jQ rfl (Ob (hm pins s1 σ H1 x [] v [] Q I1 r1 .nil q1))⟩
theorem i_(pa:PlainAttrs T)(slot:Slot T name id)(hty:typeOf (.builtin id)=i4 (.type "method_descriptor"))(hm:MtR X id r)(ho:PE X o to)(ha:PA X (e::es) t)(ID:lp o name X.bW (fL o X.bW)=fL o X.bW:=by rfl)(akP:((jd lP (cn (e::es) X.bW)).all (λx=> !x.1)&&(sF lP (lW [] X.bW)).all (λx=>x.1.isSome)&&decide ((e::es).length+([]:List Aa).length+(if([]:List Aa).isEmpty then 0 else 1)<30))=true:=by rfl)(BW:(lE.endLine==lP.line)=true:=by rfl)(hs:cn (e::es) X.bW=(false,fL e X.bW)::cn es X.bW:=by rfl)(aaC:(jd lP (cn es X.bW)).any (·.1)=false:=by rfl):PE X (.Call (.Attribute o name lE) (e::es) [] lP) (tBM X.K T r to t):=by intro pins s σ H Q I h;refine wpAny_Call_method_late ID akP BW rfl (fJ (ho pins s σ H _ I h) λv s1 ⟨x,H1,I1,r1,ty,q1⟩=>?_);obtain⟨h1,h2⟩:=Sl I1 r1 ty;refine⟨T,id,pa,slot,hty,h1,h2,?_⟩;have hA:=ha lP pins s1 σ H1 _ I1 q1;rw[hs]at hA ⊢;refine jQ (by show(false||(jd lP (cn es X.bW)).any (·.1))=false;rw[aaC]<;>rfl) (om ?_);exact fJ hA λus s2 ⟨vs,H2,I2,r2,q2⟩=>hm pins s2 σ H2 x vs v us Q I2 r1 r2 q2
end
def MtM(X:Cx)(id:String)(r:V->List V->Hp->VK->Prop):Prop:=∀(pins:List (ah×gS))(s:aA)(σ:St)(H:Hp)(x:V)(xs:List V)(v:aj)(us:List aj)(Q:VK),Inv X pins σ H s->RelV x v->dq xs us->r x xs H Q->aX (bA X.prog X.w) X.A (call (.builtin id) (v::us)) (EP X pins σ Q) X.xe s
theorem dq.Yi:∀{x:V}{us:List aj},dq [x] us->∃u,us=[u]/\RelV x u
 |_,_,.cons r .nil=>⟨_,rfl,r⟩
theorem dq.zero:∀{us:List aj},dq [] us->us=[]
 |_,.nil=>rfl
theorem dq.dropLast{xs:List V}{us:List aj}(h:dq xs us):dq xs.dropLast us.dropLast:=by
 induction h with
 |nil=>exact .nil|cons r t ih=>
  cases t with|nil=>exact .nil|cons q t'=>exact .cons r ih
theorem dq.rep{xs:List V}{us:List aj}(h:dq xs us):∀k:Nat,dq (bz k xs).flatten (bz k us).flatten
 |0=> .nil|k+1=>by rw[jl,jl,ga,ga];exact dq.append h (dq.rep h k)
theorem K5{α:Type}(l:List α):l.eraseIdx (l.length-1)=l.dropLast:=by
 induction l with
 |nil=>rfl|cons a r ih=>
  cases r with
  |nil=>rfl|cons b r=>
   have e:(a::b::r).length-1=((b::r).length-1)+1:=by have h1:(a::b::r).length=r.length+2:=rfl;have h2:(b::r).length=r.length+1:=rfl;omega
   rw[e,List.eraseIdx_cons_succ,ih]
   all_goals rfl
theorem foldl_rep(cc:List aj):∀(k:Nat)(acc:List aj),Q2 (λx1 x2=>x1++x2) acc.toArray (bz k cc.toArray)=(acc++(bz k cc).flatten).toArray
 |0,acc=>by simp|k+1,acc=>by
  have e:acc.toArray++cc.toArray=(acc++cc).toArray:=by simp
  have e2:(acc++cc)++(bz k cc).flatten=acc++(bz (k+1) cc).flatten:=by rw[jl,ga,fg]
  rw[<-e2,<-foldl_rep cc k (acc++cc),<-e,jl,dm]
section
variable{X:Cx}{pins:List (ah×gS)}{σ:St}{H:Hp}{s:aA}{l b:ah}{xs ys zs:List V}
theorem Inv.Wv{cc its':List aj}{n:Nat}{f:Array aj->Array aj}{t':Nat}(I:Inv X pins σ H s)(hH:H l=some (.be xs))(e:s.heap.get? l=some {cls:= .type "list",data:= .seq cc.toArray n})(hf:f cc.toArray=its'.toArray)(hv:dq ys its')(hz:ys.length<=al):Inv X pins σ (aP H l (.be ys)) {s with heap:=s.heap.update l (mR f),toks:=t'}:=by have q:=PySem.IsL.update e f;rw[hf]at q;refine I.vk (x:=l) (e:=l) (by rw[hH];exact trivial) (.inl rfl) (λb' u hb hu=>(bF s.heap (mR f) (iN hb)).trans hu) ⟨_,q⟩ ?_;exact⟨hz,its',_,hv,q⟩
theorem Inv.afe{cc:List aj}{t':Nat}(I:Inv X pins σ H s)(hv:dq ys cc)(hz:ys.length<=al):Inv X pins σ (aP H s.heap.objs.size (.be ys)) {s with heap:=s.heap.push {cls:= .type "list",data:= .seq cc.toArray},toks:=t'}:=I.rW (λ_ _ q=>aI _ q) (aB _) ⟨hz,cc,0,hv,ba _ rfl⟩
theorem Inv.fresh(I:Inv X pins σ H s):H s.heap.objs.size=none:=I.d5.fresh (aB _)
theorem Inv.IE(I:Inv X pins σ H s)(hH:H l=some (.be xs)):xs.length<=al/\∃(cc:List aj)(n:Nat),dq xs cc/\xs.length=cc.length/\s.heap.get? l=some {cls:= .type "list",data:= .seq cc.toArray n}:=by obtain⟨z,cc,n,r,e⟩:=I.d5 l _ hH;exact⟨z,cc,n,r,r.length,e⟩
theorem BX{n:Nat}(h:n<=al):gh n=false:=by unfold gh;exact decide_eq_false (by omega)
end
section
variable{X:Cx}
inductive MY(x:V)(vs:List V)(H:Hp)(Q:VK):Prop
 |mk (l xs y:_) (_:x= .ref l) (_:vs=[y]) (_:H l=some (.be xs)) (_:xs.length<al) (_:Q .non (aP H l (.be (xs++[y]))))
theorem d_:MtM X "list.append" MY:=by intro pins s σ H x vs v us Q I rx rv h;obtain⟨l,xs,y,rfl,rfl,hH,hz,q⟩:=h;cases rx;obtain⟨u,rfl,ru⟩:=rv.Yi;obtain⟨z,cc,n,r,hl,e⟩:=I.IE hH;refine wo bv ⟨_,e,rfl⟩ F.entry_list_append (F.args_list_append_2 _ _) (PySem.list_append l cc.toArray n u (by rw[a9];omega)) ⟨e,?_⟩;refine⟨.non,_,I.Wv (its':=cc++[u]) hH e (by simp) (r.append (.cons ru .nil)) ?_,rfl,q⟩;rw[aw,bp];omega
inductive Ww(x:V)(vs:List V)(H:Hp)(Q:VK):Prop
 |mk (l b xs zs:_) (_:x= .ref l) (_:vs=[.ref b]) (_:H l=some (.be xs)) (_:H b=some (.be zs)) (_:xs.length+zs.length<=al) (_:Q .non (aP H l (.be (xs++zs))))
theorem Ev:MtM X "list.extend" Ww:=by
 intro pins s σ H x vs v us Q I rx rv h;obtain⟨l,b,xs,zs,rfl,rfl,hH,hB,hz,q⟩:=h;cases rx;obtain⟨u,rfl,ru⟩:=rv.Yi;cases ru;obtain⟨z,cc,n,r,hl,e⟩:=I.IE hH;obtain⟨z2,Ap,n2,r2,oR,e2⟩:=I.IE hB;have hsz:cc.toArray.size+Ap.toArray.size<=al:=by rw[a9,a9];omega
 have IF:¬(!cc.toArray.isEmpty&&gh (cc.toArray.size+Ap.toArray.size))=true:=by rw[BX hsz,EW];exact bn
 refine wo j7 ⟨_,e,rfl⟩ VN (Vi _ _)
  (AutoSeq1.list_extend_list_list_0 l cc.toArray n b Ap.toArray n2 IF (by rw[a9];omega) (by omega)) ⟨e,e2,?_⟩
 refine⟨.non,_,I.Wv (its':=cc++Ap) hH e (by simp) (r.append r2) ?_,rfl,q⟩;rw[aw];omega
inductive akQ(x:V)(vs:List V)(H:Hp)(Q:VK):Prop
 |mk (l xs y:_) (_:x= .ref l) (_:vs=[]) (_:H l=some (.be xs)) (_:xs[xs.length-1]? =some y) (_:Q y (aP H l (.be xs.dropLast)))
theorem Sn:MtM X "list.pop" akQ:=by
 intro pins s σ H x vs v us Q I rx rv h;obtain⟨l,xs,y,rfl,rfl,hH,hy,q⟩:=h;cases rx;have Ew:=rv.zero;subst Ew;obtain⟨z,cc,n,r,hl,e⟩:=I.IE hH;obtain⟨u,hu,ru⟩:=r.get hy;have RJ:cc.toArray[cc.toArray.size-1]? =some u:=by show cc.toArray[cc.length-1]? =some u;rw[<-nI,<-hl];exact hu
 refine wo wq ⟨_,e,rfl⟩ F.entry_list_pop (F.args_list_pop_1 _) (MeetsSeq.list_pop_last l cc.toArray n u RJ (by rw[a9];omega)) ⟨e,?_⟩;refine⟨y,_,I.Wv (its':=cc.dropLast) hH e ?_ r.dropLast ?_,ru,q⟩
 ·show cc.toArray.eraseIdxIfInBounds (cc.toArray.size-1)=cc.dropLast.toArray;rw[a9,List.eraseIdxIfInBounds_toArray,K5]
 ·rw[List.length_dropLast];omega
inductive akR(x y:V)(H:Hp)(Q:VK):Prop
 |mk (l b xs zs:_) (_:x= .ref l) (_:y= .ref b) (_:H l=some (.be xs)) (_:H b=some (.be zs)) (_:xs.length+zs.length<=al) (_:∀p,H p=none->Q (.ref p) (aP H p (.be (xs++zs))))
theorem FH:uQ X (lV .Add) akR:=by
 intro pins s σ H x y v u Q I rx ry h;obtain⟨l,b,xs,zs,rfl,rfl,hH,hB,hz,q⟩:=h;cases rx;cases ry;obtain⟨z,cc,n,r,hl,e⟩:=I.IE hH;obtain⟨z2,Ap,n2,r2,oR,e2⟩:=I.IE hB;refine PySem.P.add_list e e2 ?_ (by rw[a9,a9];omega);have ea:cc.toArray++Ap.toArray=(cc++Ap).toArray:=by simp
 rw[ea];exact⟨.ref _,_,I.afe (t':=s.toks) (r.append r2) (by rw[aw];omega),rfl,q _ I.fresh⟩
inductive akS(x y:V)(H:Hp)(Q:VK):Prop
 |mk (l k xs:_) (_:x= .ref l) (_:y= .int k) (_:H l=some (.be xs)) (_: -(2^63)<=k) (_:k<2^63) (_:xs.length*k.toNat<=al) (_:∀p,H p=none->Q (.ref p) (aP H p (.be (bz k.toNat xs).flatten)))
theorem Wx{α:Type}(xs:List α)(k:Nat):(bz k xs).flatten.length=k*xs.length:=by
 induction k with|zero=>simp|succ k ih=>rw[jl,ga,aw,ih,Mp,AE]
theorem FI:uQ X (lV .Mult) akS:=by
 intro pins s σ H x y v u Q I rx ry h;obtain⟨l,k,xs,rfl,rfl,hH,h1,h2,hz,q⟩:=h;cases rx;obtain⟨t,rfl⟩:=ry;obtain⟨z,cc,n,r,hl,e⟩:=I.IE hH;have dX:cc.toArray.size*k.toNat<=al:=by rw[a9,<-hl];exact hz
 have akT:¬cc.toArray.size*k.toNat>(2^63-1)/8:=by
  have:(al:Nat)<=(2^63-1)/8:=by decide
  omega
 have akU:¬(!ajG k)=true:=by rw[fitsIndex_both h1 h2];exact bn
 have IF:¬gh (cc.toArray.size*k.toNat)=true:=by rw[BX dX];exact bn
 have BY:Q2 (λx1 x2=>x1++x2) #[] (bz (if cc.toArray.isEmpty=true then 0 else k.toNat) cc.toArray)=(bz k.toNat cc).flatten.toArray:=by
  have f0:∀m:Nat,Q2 (λx1 x2=>x1++x2) #[] (bz m cc.toArray)=(bz m cc).flatten.toArray:= λm=>by have:=foldl_rep cc m [];rw[C1]at this;exact this
  rw[f0];cases cc with|nil=>simp|cons a r'=>rw[if_neg (by simp)]
 refine wpAny_binaryOp_repeat_ref (T:="list") (U:="int") (by decide) ⟨_,e,rfl⟩ (λs'=>ada s' k t) noFill_list_mul F.fills_int_mul aeg repeat_list F.slot_int_index.lookup
  (wo aeg (ada s k t) F.entry_int_rmul (F.args_int_rmul_2 _ _) (int___rmul___int_list k t l cc.toArray n) ⟨e,rfl,⟨_,e,rfl⟩,wo F.slot_list_mul ⟨_,e,rfl⟩ F.entry_list_mul (F.args_list_mul_2 _ _) (AutoListH.list___mul___list_int_3 l cc.toArray n k t akU akT IF) ⟨e,?_⟩⟩)
 rw[BY];exact⟨.ref _,_,I.afe (t':=s.toks) (r.rep k.toNat) (by rw[Wx,Nat.mul_comm];exact hz),rfl,q _ I.fresh⟩
end
theorem dq.ints:∀{ns:List Int}{us:List aj},dq (ns.map V.int) us->rf us ns
 | [],us,h=>by rw[i3]at h;cases h;exact rf.nil|n::ns,us,h=>by
  rw[aS]at h;cases h with
  |cons r t=>obtain⟨k,rfl⟩:=r;exact rf.cons n k (dq.ints t)
theorem xj:∀{us:List aj}{ns:List Int},rf us ns->dq (ns.map V.int) us
 |_,_,.nil=>by rw[i3];exact Paired.nil|_,_,.cons n t h=>by rw[aS];exact Paired.cons (show RelV (V.int n) (vD n t)from⟨t,rfl⟩) (xj h)
theorem dq.bls:∀{bs:List Bool}{us:List aj},dq (bs.map V.bl) us->us=bs.map n0
 | [],us,h=>by rw[i3]at h;cases h;rfl|b::bs,us,h=>by
  rw[aS]at h;cases h with|cons r t=>cases r;rw[dq.bls t,aS]
theorem dq.So{a:ah}{us:List aj}(r:dq [V.ref a] us):us=[aY a]:=by
 cases r with|cons r t=>cases t;cases r;rfl
section
variable{prog:a7}{w:bP}{A:cT}{E:aj->aA->Prop}{s:aA}{l:ah}{cc:List aj}{ns:List Int}{Q:aj->aA->Prop}
theorem Wy(hh:A.handled=none)(hl:s.heap.IsList l cc.toArray)(hi:rf cc ns)(h:∀h' tk t',(∀b o,s.heap.get? b=some o->h'.get? b=some o)->Q (.int ns.sum t') {s with heap:=h',toks:=tk}):aX (bA prog w) A (call (.builtin "sum") [.ref l]) Q E s:=by
 obtain⟨xs,e⟩:=hi.allInts.items;have hn:numsOf (lX xs).toList=ns:=by rw[<-e];exact hi.numsOf
 rw[QE]at hn;rw[e]at hl;refine PySem.sum_intListG hh hl λh' tk t' hk=>?_;have:=h h' tk t' hk;rw[preSum_eq,e8 (by simp),hn];exact this
end
section
variable{X:Cx}
inductive akW(K:ak)(vs:List V)(H:Hp)(Q:VK):Prop
 |mk (a:ah) (ns:List Int) (_:vs=[V.ref a]) (_:cv K H a (ns.map V.int)) (_:Q (.int ns.sum) H)
theorem aaD(hc:X.calm=true):ud X (.builtin "sum") (akW X.K):=by intro pins s σ H vs us Q I r h;obtain⟨a,ns,rfl,hs,q⟩:=h;obtain⟨cc,rv,hl,_⟩:=I.list hs;rw[dq.So r];exact Wy (I.ok.hd hc) hl.isList rv.ints λh' tk t' hk=>⟨.int _,H,I.k4 hk,⟨_,rfl⟩,q⟩
end
theorem IG{prog:a7}{w:bP}{A:cT}{E:aj->aA->Prop}{s:aA}{l:ah}{items:Array aj}{Q:aj->aA->Prop}(hl:s.heap.IsList l items)(h:∀qT:aA,qT={s with heap:=s.heap.push {cls:= .type "list_iterator",data:= .fields #[.ref l,.int 0 0]}}->(qT.heap.IsListIter s.heap.objs.size l 0/\qT.heap.IsList l items)->l≠s.heap.objs.size->Q (.ref s.heap.objs.size) qT):aX (bA prog w) A (zk (.ref l)) Q E s:=by
 have f8:l<s.heap.objs.size:=by obtain⟨_,e,_⟩:=hl;exact bw e
 exact aed hl (h _ rfl ⟨⟨_,ba _ rfl,rfl,rfl⟩,hl.push _⟩ (b4 f8))
theorem zN{prog:a7}{w:bP}{A:cT}{bs:List Bool}{cc:List aj}(e:cc=bs.map n0):TruthOf prog w A (λi v=>cc.toArray[i]? =some v) (λi=>bs.getD i false):= λi v s Q E hv hq=>by
 have Vm:cc[i]? =some v:=by simpa using hv
 rw[e,aM]at Vm;obtain⟨b,hb,rfl⟩:=Hs.mp Vm;have hg:bs.getD i false=b:=by rw[aT,hb]<;>rfl
 have wu:Q (bs.getD i false) s:=hq;rw[hg]at wu;exact cR wu
theorem any_range:∀bs:List Bool,(bE bs.length).any (λi=>bs.getD i false)=bs.any id
 | []=>rfl|b::bs=>by
  rw[aZ,Kj,kx,List.any_map,kx,<-any_range bs]
  all_goals rfl
theorem all_range:∀bs:List Bool,(bE bs.length).all (λi=>bs.getD i false)=bs.all id
 | []=>rfl|b::bs=>by
  rw[aZ,Kj,l5,aeh,l5,<-all_range bs]
  all_goals rfl
section
variable{X:Cx}
inductive akX(K:ak)(vs:List V)(H:Hp)(Q:VK):Prop
 |mk (a:ah) (bs:List Bool) (_:vs=[V.ref a]) (_:cv K H a (bs.map V.bl)) (_:Q (.bl (bs.any id)) H)
inductive akY(K:ak)(vs:List V)(H:Hp)(Q:VK):Prop
 |mk (a:ah) (bs:List Bool) (_:vs=[V.ref a]) (_:cv K H a (bs.map V.bl)) (_:Q (.bl (bs.all id)) H)
theorem Sq(hc:X.calm=true):ud X (.builtin "any") (akX X.K):=by
 intro pins s σ H vs us Q I r h;obtain⟨a,bs,rfl,hs,q⟩:=h;obtain⟨cc,rv,hl,_⟩:=I.list hs;rw[dq.So r];have hb:=rv.bls;refine call_any_walk (IG hl.isList λqT e2 st j8=>?_);subst e2;refine⟨_,_,_,_,_,_,_,rfl,D9 (A:=X.A.in1) (I.ok.hd hc) _ a j8 cc.toArray,st,zN hb,λh' tk hk=>?_⟩;refine⟨.bl _,H,I.k4 λb o eo=>hk b o (λo7=>?_) (aI _ eo),?_,q⟩
 ·rcases aU.mp o7 with e1|o7
  ·exact absurd (e1▸bw eo) (fI _)
  ·cases o7
 ·show n0 _=n0 _;rw[<-any_range,hb,a9,aq]
theorem aaE(hc:X.calm=true):ud X (.builtin "all") (akY X.K):=by
 intro pins s σ H vs us Q I r h;obtain⟨a,bs,rfl,hs,q⟩:=h;obtain⟨cc,rv,hl,_⟩:=I.list hs;rw[dq.So r];have hb:=rv.bls;refine call_all_walk (IG hl.isList λqT e2 st j8=>?_);subst e2;refine⟨_,_,_,_,_,_,_,rfl,D9 (A:=X.A.in1) (I.ok.hd hc) _ a j8 cc.toArray,st,zN hb,λh' tk hk=>?_⟩;refine⟨.bl _,H,I.k4 λb o eo=>hk b o (λo7=>?_) (aI _ eo),?_,q⟩
 ·rcases aU.mp o7 with e1|o7
  ·exact absurd (e1▸bw eo) (fI _)
  ·cases o7
 ·show n0 _=n0 _;rw[<-all_range,hb,a9,aq]
end
abbrev Sr(h:cX)(c:ah)(v:Option aj):Prop:=h.IsCell c v
def akZ(scope sc:mY):mY:={scope with names:=scope.names.map λ(n,k)=>if(k== .free&&sc.kind== .function&&sc.names.lookup n==some .cell)then(n,.cell)else(n,k)}
def gz(cells:List (bT×ah)):List (bT×jk)->List (bT×ah)->List (bT×ah)
 | [],acc=>acc|(n,k)::r,acc=>if k== .free then gz cells r ((n,(cells.lookup n).getD 0)::acc)else gz cells r acc
theorem xk(bW:Mj)(f:bT×jk->List (bT×ah)->QV (ForInStep (List (bT×ah))))(hf:∀n k c,f (n,k) c=if k== .free then(do let a<-cellOf bW n;i4 (.yield ((n,a)::c)))else i4 (.yield c)):∀(names:List (bT×jk))(acc:List (bT×ah)),(∀y∈names,y.2= .free->∃c,bW.cells.lookup y.1=some c)->forIn names acc f=i4 (gz bW.cells names acc)
 | [],acc,_=>by rw[EX];rfl|(n,k)::r,acc,h=>by
  rw[X',hf];have ih:= λacc=>xk bW f hf r acc λy hy=>h y (az _ hy);unfold gz;by_cases hk:(k==nA)=true
  ·rw[if_pos hk,if_pos hk];obtain⟨c,hc⟩:=h (n,k) aC (by simpa using hk);have e:cellOf bW n=i4 c:=by unfold cellOf;rw[hc]
   rw[e];have e2:(bW.cells.lookup n).getD 0=c:=by rw[hc];rfl
   rw[e2];exact ih _
  ·rw[if_neg hk,if_neg hk];exact ih _
theorem K6{scope:mY}{bW:Mj}(h:∀y∈scope.names,y.2= .free->∃c,bW.cells.lookup y.1=some c):closureFor scope bW=i4 (gz bW.cells scope.names []):=by simp only[closureFor];rw[xk bW _ (λn k c=>rfl) scope.names [] h];rfl
theorem vW{α:Type}:∀{l:List (bT×α)}{n:bT}{c:α},(n,c)∈l->∃c',l.lookup n=some c'
 |(k,v)::r,n,c,h=>by
  rw[ju];cases hb:n==k with
  |true=>exact⟨_,rfl⟩|false=>
   rcases aU.mp h with e|h
   ·cases e;simp at hb
   ·exact vW h
theorem p_{cells:List (bT×ah)}:∀{names:List (bT×jk)}{acc:List (bT×ah)}{n:bT}{c:ah},(n,c)∈gz cells names acc->(n,c)∈acc\/((n,.free)∈names/\c=(cells.lookup n).getD 0)
 | [],_,_,_,h=> .inl h|(m,k)::r,acc,n,c,h=>by
  unfold gz at h;split at h
  ·rename_i hk;have hk:k= .free:=by simpa using hk
   rcases p_ h with h|⟨h1,h2⟩
   ·rcases aU.mp h with e|h
    ·cases e;exact .inr ⟨hk▸aC,rfl⟩
    ·exact .inl h
   ·exact .inr ⟨az _ h1,h2⟩
  ·rcases p_ h with h|⟨h1,h2⟩
   ·exact .inl h
   ·exact .inr ⟨az _ h1,h2⟩
theorem uh{cells:List (bT×ah)}:∀{names:List (bT×jk)}{acc:List (bT×ah)}{p:bT×ah},p∈acc->p∈gz cells names acc
 | [],_,_,h=>h|(m,k)::r,acc,p,h=>by
  unfold gz;split
  ·exact uh (az _ h)
  ·exact uh h
theorem ui{cells:List (bT×ah)}:∀{names:List (bT×jk)}{acc:List (bT×ah)}{n:bT},(n,.free)∈names->(n,(cells.lookup n).getD 0)∈gz cells names acc
 |(m,k)::r,acc,n,h=>by
  unfold gz;rcases aU.mp h with e|h
  ·cases e;exact uh aC
  ·split
   ·exact ui h
   ·exact ui h
theorem qW:∀{names:List (bT×jk)}{h:cX}{acc:List (bT×ah)}{x:bT}{c:ah},(x,c)∈fm h.objs.size names acc->(x,c)∈acc\/((x,.cell)∈names/\h.objs.size<=c/\Sr (rC h names) c none)
 | [],_,_,_,_,h=> .inl h|(n,k)::r,h,acc,x,c,hm=>by
  unfold fm at hm;unfold rC;split at hm
  ·rename_i hk;rw[if_pos hk];have hk:k= .cell:=by simpa using hk
   rw[<-dU h {cls:= .type "cell",data:= .cell none}]at hm;rcases qW hm with hm|⟨h1,h2,h3⟩
   ·rcases aU.mp hm with e|hm
    ·cases e;exact .inr ⟨hk▸aC,aB _,_,wF r _ _ _ (ba _ rfl),rfl⟩
    ·exact .inl hm
   ·rw[dU]at h2;exact .inr ⟨az _ h1,rD h2,h3⟩
  ·rename_i hk;rw[if_neg hk];rcases qW hm with hm|⟨h1,h2,h3⟩
   ·exact .inl hm
   ·exact .inr ⟨az _ h1,h2,h3⟩
theorem uR:∀{names:List (bT×jk)}{n:Nat}{acc:List (bT×ah)}{p:bT×ah},p∈acc->p∈fm n names acc
 | [],_,_,_,h=>h|(m,k)::r,n,acc,p,h=>by
  unfold fm;split
  ·exact uR (az _ h)
  ·exact uR h
theorem yJ:∀{names:List (bT×jk)}{n:Nat}{acc:List (bT×ah)}{x:bT},(x,.cell)∈names->∃c,(x,c)∈fm n names acc
 |(m,k)::r,n,acc,x,h=>by
  unfold fm;rcases aU.mp h with e|h
  ·cases e;exact⟨n,uR aC⟩
  ·split
   ·exact yJ h
   ·exact yJ h
theorem yK:∀{names:List (bT×jk)}{h:cX}{acc:List (bT×ah)}{x y:bT}{c:ah},(∀p∈acc,p.2<h.objs.size)->(∀x y c,(x,c)∈acc->(y,c)∈acc->x=y)->(x,c)∈fm h.objs.size names acc->(y,c)∈fm h.objs.size names acc->x=y
 | [],_,_,_,_,_,_,hi,h1,h2=>hi _ _ _ h1 h2|(n,k)::r,h,acc,x,y,c,hl,hi,h1,h2=>by
  unfold fm at h1 h2;split at h1
  ·rename_i hk;rw[if_pos hk]at h2;rw[<-dU h {cls:= .type "cell",data:= .cell none}]at h1 h2;refine yK (h:=h.push _) (λp hp=>?_) (λx y c a b=>?_) h1 h2
   ·rw[dU];rcases aU.mp hp with rfl|hp
    ·exact iu _
    ·exact gZ (hl p hp)
   ·rcases aU.mp a with e|a<;>rcases aU.mp b with e'|b
    ·cases e;cases e';rfl
    ·cases e;exact absurd (hl _ b) (fI _)
    ·cases e';exact absurd (hl _ a) (fI _)
    ·exact hi _ _ _ a b
  ·rename_i hk;rw[if_neg hk]at h2;exact yK hl hi h1 h2
theorem IH{M:Model}{A:cT}{E:aj->aA->Prop}{s:aA}{scope:mY}{globals:ah}{closure:List (bT×ah)}{qual:bT}{func:Option ah}{code:aj}{Ss:Mj}{builtins:ah}{Q:Mj->aA->Prop}(h:Q (newEnv scope s.heap.objs.size globals (fm (s.heap.objs.size+1) scope.names closure) qual func code (some Ss) builtins) {s with heap:=rC (s.heap.push {cls:= .type "dict",data:= .dict #[]}) scope.names}):aX M A (newFunctionEnv scope globals closure [] qual func code (some Ss) builtins) Q E s:=by simp only[newFunctionEnv,Oc,if_true];refine ae (wpAny_alloc ?_);refine ae (wpAny_layCells _ (λn k c=>rfl) scope.names closure _ _ ?_);rw[show({s with heap:=s.heap.push {cls:= .type "dict",data:= .dict #[]}}:aA).heap.objs.size=s.heap.objs.size+1 from dU ..];rw[EX];exact ae (au (au h))
theorem uj{sc:mY}:∀{names:List (bT×jk)}{x:bT}{k:jk},(names.map λ(n,k)=>if(k==nA&&sc.kind== .function&&sc.names.lookup n==some .cell)then(n,C5)else(n,k)).lookup x=some k->∃k',names.lookup x=some k'/\(k=k'\/(k'= .free/\k= .cell))
 | [],_,_,h=>by simp at h|(n,Su)::r,x,k,h=>by
  have ih:=@uj sc r x k;have h':jO x ((if(Su==nA&&sc.kind== .function&&sc.names.lookup n==some .cell)=true then(n,C5)else(n,Su))::(r.map _))=some k:=h;cases hx:x==n with
  |true=>
   simp only[ju,hx];by_cases hc:(Su==nA&&sc.kind== .function&&sc.names.lookup n==some .cell)=true
   ·rw[if_pos hc]at h';simp only[ju,hx]at h';cases h';simp only[bg,beq_iff_eq]at hc;exact⟨Su,rfl,.inr ⟨hc.1.1,rfl⟩⟩
   ·rw[if_neg hc]at h';simp only[ju,hx]at h';cases h';exact⟨_,rfl,.inl rfl⟩
  |false=>
   simp only[ju,hx];by_cases hc:(Su==nA&&sc.kind== .function&&sc.names.lookup n==some .cell)=true
   ·rw[if_pos hc]at h';simp only[ju,hx]at h';exact ih h'
   ·rw[if_neg hc]at h';simp only[ju,hx]at h';exact ih h'
structure II(N:List bT)(sc scope:mY)(own:List (bT×Nat)):Prop where
 kind:scope.kind= .function
 aaF:∀y∈scope.names,scope.names.lookup y.1=some y.2
 ix:∀p∈own,N[p.2]? =some p.1
 free:∀y∈scope.names,y.2= .free->sc.names.lookup y.1=some .cell\/sc.names.lookup y.1=some .free
 own:∀y∈scope.names,y.2= .local\/y.2= .cell->y.1∈own.map (·.1)\/y.1∉N
def iU(σ:St):List Nat->St
 | []=>σ|v::vs=>(iU σ vs).set v none
theorem uk(σ:St):∀vs:List Nat,(iU σ vs).length=σ.length
 | []=>rfl|v::vs=>by unfold iU;rw[C4,uk σ vs]
theorem yL{σ:St}{i:Nat}{x:V}:∀{vs:List Nat},(iU σ vs)[i]? =some (some x)->σ[i]? =some (some x)/\i∉vs
 | [],h=>⟨h,by simp⟩|v::vs,h=>by
  unfold iU at h;by_cases hi:v=i
  ·subst hi;by_cases hv:v<(iU σ vs).length
   ·rw[tH hv]at h;cases h
   ·rw[dy (by simpa using hv)]at h;cases h
  ·rw[vE hi]at h;obtain⟨h1,h2⟩:=yL h;exact⟨h1,by simp only[aU,not_or];exact⟨λe=>hi e.symm,h2⟩⟩
abbrev Cx.FJ(X:Cx)(s:aA)(H:Hp)(scope:mY)(mf:Mj)(fp:List ah):Cx:={X with Ek:=s,H_0:=H,bW:=mf,bN:=X.stack,ex:=fp,fn:= λx=>scope.names.lookup x==some .cell,pn:=[],xe:= λ_ _=>False}
section
variable{X:Cx}{pins:List (ah×gS)}{σ:St}{H:Hp}{s:aA}
theorem IJ{scope:mY}{own:List (bT×Nat)}{fp:List ah}(I:Inv X pins σ H s)(ok:II X.N X.bW.scope scope own)(hN:X.N.Nodup)(MF:∀b∈fp,BO X pins H b/\b<s.heap.objs.size):Inv (X.FJ s H scope (lY scope (fm (s.heap.objs.size+1) scope.names (gz X.bW.cells scope.names [])) s.heap.objs.size X.bW) fp) [] (iU σ (own.map (·.2))) H {s with heap:=rC (s.heap.push {cls:= .type "dict",data:= .dict #[]}) scope.names}:=by
 have qS:∀y∈scope.names,y.2= .free->∃c,X.bW.cells.lookup y.1=some c:= λy hy e=>by
  rcases ok.free y hy e with k|k
  ·exact I.ok.has _ (.inl k)
  ·exact I.ok.has _ (.inr k)
 generalize IK:lY scope (fm (s.heap.objs.size+1) scope.names (gz X.bW.cells scope.names [])) s.heap.objs.size X.bW=mf;have kp:∀b o,s.heap.get? b=some o->(rC (s.heap.push {cls:= .type "dict",data:= .dict #[]}) scope.names).get? b=some o:= λb o e=>wF _ _ _ _ (aI _ e);have hL:mf.locals=s.heap.objs.size:=by rw[<-IK];rfl
 have IL:mf.cells=fm (s.heap.objs.size+1) scope.names (gz X.bW.cells scope.names []):=by rw[<-IK];rfl
 have hsc:mf.scope=akZ scope X.bW.scope:=by rw[<-IK];rfl
 rw[<-dU s.heap {cls:= .type "dict",data:= .dict #[]}]at IL;have cm:∀{y c},(y,c)∈gz X.bW.cells scope.names []->X.bW.cells.lookup y=some c/\c<s.heap.objs.size:= λ{y c} hm=>by
  rcases p_ hm with hm|⟨h1,rfl⟩
  ·cases hm
  ·obtain⟨c,hc⟩:=qS _ h1 rfl;rw[hc];obtain⟨w,z⟩:=I.cell _ _ hc;exact⟨rfl,z.lt⟩
 have mem:∀{y c},mf.cells.lookup y=some c->(X.bW.cells.lookup y=some c/\c<s.heap.objs.size)\/(s.heap.objs.size+1<=c/\Sr (rC (s.heap.push {cls:= .type "dict",data:= .dict #[]}) scope.names) c none):= λ{y c} e=>by
  rw[IL]at e;rcases qW (cI e)with hm|⟨_,h2,h3⟩
  ·exact .inl (cm hm)
  ·rw[dU]at h2;exact .inr ⟨h2,h3⟩
 have O0:∀{y},scope.names.lookup y=some .free->∃c,mf.cells.lookup y=some c/\X.bW.cells.lookup y=some c:= λ{y} hl=>by
  have hy:(y,nA)∈scope.names:=cI hl;obtain⟨c',e'⟩:=vW (uR (names:=scope.names) (n:=(s.heap.push {cls:= .type "dict",data:= .dict #[]}).objs.size) (ui (cells:=X.bW.cells) (acc:=[]) hy));rw[<-IL]at e';refine⟨c',e',?_⟩;rw[IL]at e';rcases qW (cI e')with hm|⟨h1,_,_⟩
  ·exact(cm hm).1
  ·have:=ok.aaF _ h1;rw[hl]at this;cases this
 have okB:(X.FJ s H scope mf fp).Ok:=by
  refine⟨I.ok.Fw,by show mf.scope.kind=_;rw[hsc];exact ok.kind,by show mf.globals=_;rw[<-IK];exact I.ok.Fv,by show mf.builtins=_;rw[<-IK];exact I.ok.blt,by show s.heap.objs.size<=mf.locals;rw[hL];exact aB _,λy z c e1 e2=>?_,λy hy=>?_,λy c z e=>?_,I.ok.hd,I.ok.frames,.inl rfl,λb hb=>⟨?_,λy c e z=>?_⟩,I.bs,aW I.ok.RT I.sz,λb o e hb=>?_,λb hb z=>?_,I.stack,I.MI⟩
  ·have e1:mf.cells.lookup y=some c:=e1;have e2:mf.cells.lookup z=some c:=e2;rw[IL]at e1 e2;refine yK (λp hp=>?_) (λy z c a b=>I.ok.inj y z c (cm a).1 (cm b).1) (cI e1) (cI e2);rw[dU];exact gZ (cm (y:=p.1) (c:=p.2) hp).2
  ·show∃c,mf.cells.lookup y=some c;have key:∀k,mf.kindOf y=some k->(k= .cell\/k= .free)->∃c,mf.cells.lookup y=some c:= λk hk rN=>by
    unfold Mj.kindOf at hk;rw[hsc]at hk;obtain⟨k',e,r⟩:=uj hk;have:k'= .cell\/k'= .free:=by
     rcases r with rfl|⟨rfl,_⟩
     ·exact rN
     ·exact .inr rfl
    rcases this with rfl|rfl
    ·obtain⟨c,hm⟩:=yJ (n:=(s.heap.push {cls:= .type "dict",data:= .dict #[]}).objs.size) (acc:=gz X.bW.cells scope.names []) (cI e);obtain⟨c',e'⟩:=vW hm;exact⟨c',by rw[IL];exact e'⟩
    ·obtain⟨c,h1,_⟩:=O0 e;exact⟨c,h1⟩
   rcases hy with hy|hy
   ·exact key _ hy (.inl rfl)
   ·exact key _ hy (.inr rfl)
  ·have z:(scope.names.lookup y==some C5)=true:=z;have z:scope.names.lookup y=some .cell:=by simpa using z
   have e:mf.cells.lookup y=some c:=e;rw[IL]at e;rcases qW (cI e)with hm|⟨_,h2,_⟩
   ·rcases p_ hm with hm|⟨h1,_⟩
    ·cases hm
    ·have q:=ok.aaF _ h1;rw[z]at q;cases q
   ·rw[dU]at h2;exact rD h2
  ·show b≠mf.locals;rw[hL];exact b4 (MF b hb).2
  ·have e:mf.cells.lookup y=some c:=e;rcases mem e with⟨h1,_⟩|⟨h1,_⟩
   ·exact(MF b hb).1.2.2.2.2.1 y c h1 z
   ·have h2:s.heap.objs.size+1<=b:=by rw[<-z];exact h1
    exact absurd (bX (MF b hb).2 (rD h2)) (fI _)
  ·rcases(MF b hb).1.2.2.2.1 with z|z
   ·exact I.ok.RU b o e z
   ·exact absurd (bX (bw e) (aW I.ok.RT z)) (fI _)
  ·rcases aU.mp (I.KH b z)with z|z
   ·exact(MF b hb).1.2.1 z
   ·exact(MF b hb).1.2.2.1 z
 refine⟨okB,rfl,I.pG,Un.k4 kp,⟨λ_=>none,?_,λi y av e1 e2 e3=>?_⟩,λy c e=>?_,?_,λy c e=>?_,λp hp=>?_,I.d5.k4 kp,by rw[uk];exact I.fD⟩
 ·show cX.Ns _ mf.locals _;rw[hL];exact cX.Ns.keeps (cX.Ns.new ..) λb o e=>wF _ _ _ _ e
 ·obtain⟨e2,j8⟩:=yL e2;have hfr:scope.names.lookup y=some .free/\(mf.kindOf y=some .cell\/mf.kindOf y=some .free):=by
   have key:∀k,mf.scope.names.lookup y=some k->k= .local\/k= .cell\/k= .free->scope.names.lookup y=some .free/\(mf.kindOf y=some .cell\/mf.kindOf y=some .free):= λk hk rN=>by
    have Yz:=hk;rw[hsc]at hk;obtain⟨k',e,r⟩:=uj hk;have no:¬(k'= .local\/k'= .cell):= λhh=>by
     rcases ok.own _ (cI e) hh with e'|e'
     ·obtain⟨p,hp,hpy⟩:=aQ.mp e';have e3:=ok.ix p hp;have:p.1=y:=hpy;rw[this]at e3;exact j8 (aQ.mpr ⟨p,hp,BK hN e3 e1⟩)
     ·exact e' (aG e1)
    rcases r with rfl|⟨rfl,rfl⟩
    ·rcases rN with rfl|rfl|rfl
     ·exact absurd (.inl rfl) no
     ·exact absurd (.inr rfl) no
     ·exact⟨e,.inr Yz⟩
    ·exact⟨e,.inl Yz⟩
   have e3:Vis mf.scope y:=e3;rcases e3 with e3|e3|e3
   ·exact key _ e3 (.inl rfl)
   ·exact key _ e3 (.inr (.inl rfl))
   ·exact key _ e3 (.inr (.inr rfl))
  obtain⟨m,hn,hl⟩:=I.Ik;have ak0:Vis X.bW.scope y:=(ok.free _ (cI hfr.1) rfl).elim (λk=> .inr (.inl k)) (λk=> .inr (.inr k));obtain⟨w,r,q⟩:=hl i y av e1 e2 ak0;refine⟨w,r,.inr ⟨hfr.2,?_⟩⟩;obtain⟨c,h1,h2⟩:=O0 hfr.1;rcases q with⟨k,_⟩|⟨_,c',e',z⟩
  ·have k:X.bW.scope.names.lookup y=some .local:=k;rcases ok.free _ (cI hfr.1) rfl with k'|k'<;>rw[show X.bW.scope.names.lookup y=_ from k']at k<;>cases k
  ·rw[h2]at e';cases e'
   exact⟨c,h1,z.keeps kp⟩
 ·have e:mf.cells.lookup y=some c:=e;rcases mem e with⟨h1,_⟩|⟨_,z⟩
  ·obtain⟨w,z⟩:=I.cell y c h1;exact⟨w,z.keeps kp⟩
  ·exact⟨_,z⟩
 ·show H mf.locals=none;rw[hL];exact I.d5.fresh (aB _)
 ·have e:mf.cells.lookup y=some c:=e;rcases mem e with⟨h1,_⟩|⟨h1,_⟩
  ·exact I.qR y c h1
  ·exact I.d5.fresh (rD h1)
 ·exact absurd (show p∈([]:List (ah×gS))++[]from hp) (by simp)
theorem aaG{E:aj->aA->Prop}{D:ah}{xs:List V}{y:V}{v:aj}{Q:aj->aA->Prop}(I:Inv X pins σ H s)(hD:H D=some (.be xs))(hz:xs.length<al)(r:RelV y v)(h:∀s',Inv X pins σ (aP H D (.be (xs++[y]))) s'->Q .none s'):aX (bA X.prog X.w) X.A (call (.builtin "list.append") [.ref D,v]) Q E s:=by obtain⟨Wz,cc,n,ri,e⟩:=I.d5 D _ hD;have hl:=ri.length;refine append_at (hsz:=by rw[a9];omega) e λh' sb zH=>?_;refine h {s with heap:=h'} (I.vk (t':=s.toks) (by rw[hD];trivial) (.inl rfl) (λb u hb q=>(sb.2 b hb).trans q) ⟨_,zH⟩ ⟨by rw[aw];exact hz,cc++[v],n+1,ri.append (.cons r .nil),?_⟩);rw[zH];simp
def PTs(X:Cx)(FK:List Expr)(t:TT):Prop:=∀(pins:List (ah×gS))(s:aA)(σ:St)(H:Hp)(Q:Bool->Hp->Prop),Inv X pins σ H s->t σ H Q->aX (bA X.prog X.w) X.A (forIn FK true λc r=>if r=true then do let ok<-isTrue c X.bW (fL c X.bW);i4 (jE ok)else i4 (jE r)) (TP X pins σ Q) X.xe s
def ak1:TT:= λ_ H Q=>Q true H
theorem mP:PTs X [] ak1:= λ_ _ _ H _ I h=>wpAny_tests_nil ⟨H,I,h⟩
theorem se{c:Expr}{t:TT}(h:PT X c t):PTs X [c] t:= λpins s σ H Q I hw=>wpAny_tests_one (h pins s σ H Q I hw)
end
theorem O6{α:Type}{t:QV α}{Q Q':α->aA->Prop}{M:Model}{A:cT}{E:aj->aA->Prop}{s:aA}(h:aX M A t Q (λ_ _=>False) s)(hQ:∀a s,Q a s->Q' a s):aX M A t Q' E s:=gp h hQ λ_ _ z=>fM z
theorem FL{prog:a7}{w:bP}{A:cT}{R:Vb->aA->Prop}{s:aA}{Ef yF nq:Expr}{FK:List Expr}{scope:mY}{pos:mZ}{it acc:aj}{bW:Mj}(I:Nat->aA->Prop)(KN:∀n s,I n s->aX (bA prog w) A (jF it) (λr ir=>match r with
 |none=>R (.ok .next) ir|some v=>aX (bA prog w) A (wE yF it v) (λ_ YA=>aX (bA prog w) A (Ml yF bW v) (λ_ qT=>aX (bA prog w) A (forIn FK true λc r=>if r=true then do let ok<-isTrue c bW (fL c bW);i4 (jE ok)else i4 (jE r)) (λok O7=>if ok=true then aX (bA prog w) A (fL Ef bW) (λx afh=>aX (bA prog w) A (call (.builtin "list.append") [acc,x]) (λ_ afi=>∃m,m<n/\I m afi) (Kk (bA prog w) A bW λe s'=>R (.error e) s') afh) (Kk (bA prog w) A bW λe s'=>R (.error e) s') O7 else∃m,m<n/\I m O7) (Kk (bA prog w) A bW λe s'=>R (.error e) s') qT) (Kk (bA prog w) A bW λe s'=>R (.error e) s') YA) (Kk (bA prog w) A bW λe s'=>R (.error e) s') ir) (Kk (bA prog w) A bW λe s'=>R (.error e) s') s) (n:Nat) (h:I n s):pB (bA prog w) A (.compLoop (.ListComp Ef [⟨yF,nq,FK,0⟩] scope pos) 0 it acc bW) R s:=by
 refine codeAny_loop rfl I (λn s hI=>?_) n h;show aX _ A ((compTurn (.ListComp Ef [⟨yF,nq,FK,0⟩] scope pos) 0 it acc bW).onRaise (λx=>do noteFrame x bW;theTreesLotGoes x)) _ _ s;refine wpAny_noted ?_;rw[compTurn_list];refine ae (A5 (ae (gp (KN n s hI) (λr ir WA=>?_) λ_ _ h'=>h')));cases r with
 |none=>exact au WA|some v=>
  refine ae (gp WA (λ_ YA afj=>?_) λ_ _ h'=>h');refine ae (gp afj (λ_ qT Sv=>ae (gp Sv (λok O7 WB=>?_) λ_ _ h'=>h')) λ_ _ h'=>h');cases ok with|false=>exact au ⟨rfl,WB⟩|true=>exact ae (ae (gp WB (λx afh ak2=>ae (gp ak2 (λ_ afi ak3=>au (au ⟨rfl,ak3⟩)) λ_ _ h'=>h')) λ_ _ h'=>h'))
section
variable{X:Cx}
def tLc(wi:TI)(g:TG)(tt:TT)(te:TE)(vs:List Nat):TE:= λσ H Q=>wi σ H λJ H1=>∀D,H1 D=none->∃W:Nat->Nat->Hp->Prop,(∃m,W 0 m (aP H1 D (.be [])))/\∀i m H,W i m H->(J.stop i H/\Q (.ref D) H)\/(J.go i H/\∃Nx:Hp->Prop,(∀H',Nx H'->∃m',m'<m/\W (i+1) m' H')/\∀x H',J.Ip i H x H'->g x (iU σ vs) H' λkh H2=>iU kh vs=iU σ vs/\tt kh H2 λb H3=>if b=true then te kh H3 λy H4=>∃acc,H4 D=some (.be acc)/\acc.length<al/\Nx (aP H4 D (.be (acc++[y])))else Nx H3)
theorem MZ{pins:List (ah×gS)}{s:aA}{σ:St}{H:Hp}{Q:VK}{Ef tg nq:Expr}{FK:List Expr}{scope:mY}{own:List (bT×Nat)}{pos sd:mZ}{wi:TI}{g:TG}{tt:TT}{te:TE}{use:Option (aj->QV Unit)}{Qf:aj->aA->Prop}(hc:X.calm=true)(hN:X.N.Nodup)(I:Inv X pins σ H s)(hi:PI X tg nq wi)(ok:II X.N X.bW.scope scope own)(hg:∀(s:aA)(H:Hp)(C:ah)(cl:List (bT×ah))(fp:List ah),PG (X.FJ s H scope (lY scope cl C X.bW) fp) tg g)(ht:∀(s:aA)(H:Hp)(C:ah)(cl:List (bT×ah))(fp:List ah),PTs (X.FJ s H scope (lY scope cl C X.bW) fp) FK tt)(he:∀(s:aA)(H:Hp)(C:ah)(cl:List (bT×ah))(fp:List ah),PE (X.FJ s H scope (lY scope cl C X.bW) fp) Ef te)(hs:∀x,foldedSetIterable nq X.bW x=i4 x)(h:tLc wi g tt te (own.map (·.2)) σ H Q)(hRR:∀D C s' m H',Inv X pins σ H' s'->Q (.ref D) H'->s'.heap.Ns C m->BO X pins H' C->compPost (bA X.prog X.w) X.A X.xe use Qf (.ref D) C (.ok .next) s'):aX (bA X.prog X.w) X.A (comprehension (.ListComp Ef [⟨tg,nq,FK,0⟩] scope pos) scope X.bW sd (newList []) false (fL nq X.bW) use) Qf X.xe s:=by
 have qS:∀y∈scope.names,y.2= .free->∃c,X.bW.cells.lookup y.1=some c:= λy hy e=>by
  rcases ok.free y hy e with k|k
  ·exact I.ok.has _ (.inl k)
  ·exact I.ok.has _ (.inr k)
 refine wpAny_comprehension_free (use:=use) rfl hs (K6 qS) ok.kind (λy hy e=>by rw[ok.aaF y hy,e])
  (fJ (hi pins s σ H _ I h) λxv s1 hx=>fJ hx λitv s2 h2=>?_)
 obtain⟨it,fp,tn,J,H2,e,I2,T,st2,f2,q⟩:=h2;subst e;refine dz (IH ?_) (by show 0<=al;decide);generalize hD:s2.heap.objs.size=D;have hDn:H2 D=none:=I2.d5.fresh (AJ hD);obtain⟨W,⟨m0,w0⟩,KN⟩:=q D hDn;generalize hs3:({s2 with heap:=s2.heap.push {cls:= .type "list",data:= .seq ([]:List aj).toArray}}:aA)=s3;have I3:Inv X pins σ (aP H2 D (.be [])) s3:=by rw[<-hs3];refine I2.rW (t':=s2.toks) (λb o e=>aI _ e) (AJ hD) ⟨bj _,[],0,.nil,?_⟩;rw[<-hD];exact ba _ rfl
 have h3:s3.heap=s2.heap.push {cls:= .type "list",data:= .seq ([]:List aj).toArray}:=by rw[<-hs3]
 have sz:∀b∈fp,b<s2.heap.objs.size:= λb hb=>by obtain⟨o,e,_⟩:=T.obj _ _ st2 b hb;exact bw e
 have f3:∀b∈fp,BO X pins (aP H2 D (.be [])) b/\b<s3.heap.objs.size:= λb hb=>by have f8:=sz b hb;refine⟨⟨?_,(f2 b hb).2⟩,by rw[h3,dU];exact gZ f8⟩;rw[aF (by rw[<-hD];exact b4 f8)];exact(f2 b hb).1
 have st3:tn 0 s3.heap:=T.keep _ _ _ st2 λb _ o e=>by rw[h3];exact aI _ e
 have I4:=IJ I3 ok hN f3;have pg:=hg s3 (aP H2 D (.be [])) s3.heap.objs.size (fm (s3.heap.objs.size+1) scope.names (gz X.bW.cells scope.names [])) fp;have pt:=ht s3 (aP H2 D (.be [])) s3.heap.objs.size (fm (s3.heap.objs.size+1) scope.names (gz X.bW.cells scope.names [])) fp;have pe:=he s3 (aP H2 D (.be [])) s3.heap.objs.size (fm (s3.heap.objs.size+1) scope.names (gz X.bW.cells scope.names [])) fp;show pB _ _ (.compStart (.ListComp Ef [⟨tg,nq,FK,0⟩] scope pos) 0 (.ref it) (.ref D) (lY scope (fm (s3.heap.objs.size+1) scope.names (gz X.bW.cells scope.names [])) s3.heap.objs.size X.bW)) (compPost (bA X.prog X.w) X.A X.xe use Qf (.ref D) s3.heap.objs.size) {s3 with heap:=rC (s3.heap.push {cls:= .type "dict",data:= .dict #[]}) scope.names};have nfp:∀b∈fp,(aP H2 D (.be [])) b=none:= λb hb=>(f3 b hb).1.1;generalize hce:lY scope (fm (s3.heap.objs.size+1) scope.names (gz X.bW.cells scope.names [])) s3.heap.objs.size X.bW=ce at I4 pg pt pe ⊢;have cL:ce.locals=s3.heap.objs.size:=by subst hce;rfl
 generalize hH3:aP H2 D (.be [])=H3 at I3 I4 pg pt pe w0 nfp f3;generalize hs4:({s3 with heap:=rC (s3.heap.push {cls:= .type "dict",data:= .dict #[]}) scope.names}:aA)=s4 at I4 ⊢;have st4:tn 0 s4.heap:=T.keep _ _ _ st3 λb _ o e=>by rw[<-hs4];exact wF _ _ _ _ (aI _ e)
 have KQ:∀{h9:St}{H':Hp}{s':aA},Inv (X.FJ s3 H3 scope ce fp) [] h9 H' s'->(∀b∈fp,H' b=none)->∀b∈fp,BO (X.FJ s3 H3 scope ce fp) [] H' b:= λ{h9 H' s'} I' hn b hb=>⟨hn b hb,(I'.ok.exf b hb).1,I'.ok.RV b hb,.inl hb,λx c e=>(I'.ok.exf b hb).2 x c e,λp hp=>absurd (show p∈([]:List (ah×gS))++[]from hp) (by simp)⟩
 have RN:pB (bA X.prog X.w) X.A (.compLoop (.ListComp Ef [⟨tg,nq,FK,0⟩] scope pos) 0 (.ref it) (.ref D) ce) (compPost (bA X.prog X.w) X.A X.xe use Qf (.ref D) s3.heap.objs.size) s4:=by
  refine FL (λn s'=>∃i H',Inv (X.FJ s3 H3 scope ce fp) [] (iU σ (own.map (·.2))) H' s'/\tn i s'.heap/\(∀b∈fp,H' b=none)/\W i n H') ?_ m0 ⟨0,H3,I4,st4,nfp,w0⟩;rintro n s5 ⟨i,H5,I5,st5,n5,w5⟩;rcases KN i n H5 w5 with⟨stop,qq⟩|⟨go,Nx,hNx,step⟩
  ·have td:=T.done (X.FJ s3 H3 scope ce fp) rfl rfl rfl hc i [] s5 _ H5 (λ_ _=>False) I5 (KQ I5 n5) st5 stop;refine O6 td λr s6 ⟨hr,I6⟩=>?_;subst hr;have I7:Inv X pins σ H5 s6:=I3.aeG (ch:=fp) I6.os I6.base I6.d5 I6.pG λb hb=>⟨(f3 b hb).1.2.2.2.1,(f3 b hb).1.2.1,(f3 b hb).1.2.2.2.2.1,(f3 b hb).1.2.2.2.2.2⟩;have nC:H5 s3.heap.objs.size=none:=by have z:H5 ce.locals=none:=I6.free;rw[cL]at z;exact z
   obtain⟨m,hn,_⟩:=I6.Ik;have hn:s6.heap.Ns ce.locals m:=hn;rw[cL]at hn;exact hRR D s3.heap.objs.size s6 m H5 I7 qq hn (I3.OW (aB _) nC)
  ·have ti:=T.item (X.FJ s3 H3 scope ce fp) rfl rfl rfl hc i [] s5 _ H5 (λ_ _=>False) I5 (KQ I5 n5) st5 go;refine O6 ti λr s6 ⟨u,hr,h6⟩=>?_;subst hr;refine O6 h6 λ_ s7 ⟨x,H7,I7,r7,y7,st7,n7⟩=>?_;have I7':=I7.RZ (KQ I7 n7) (T.obj _ _ st7);refine O6 (pg _ s7 _ H7 x u _ I7' r7 (step x H7 y7)) λ_ s8 ⟨σ8,H8,I8,hw8,q8⟩=>?_;refine O6 (pt _ s8 σ8 H8 _ I8 q8) λb s9 ⟨H9,I9,q9⟩=>?_;have oH:∀{s':aA}{H':Hp},Inv (X.FJ s3 H3 scope ce fp) ([]++BP fp s7.heap) σ8 H' s'->Nx H'->∃m,m<n/\∃i H',Inv (X.FJ s3 H3 scope ce fp) [] (iU σ (own.map (·.2))) H' s'/\tn i s'.heap/\(∀b∈fp,H' b=none)/\W i m H':= λ{s' H'} I' nx=>by
    obtain⟨m',hm,w'⟩:=hNx H' nx;have afk:∀b∈fp,∀o,s7.heap.get? b=some o->s'.heap.get? b=some o/\H' b=none:= λb hb o e=>
     let z:=I'.MG (b,o) (cG _ (cG _ (vT hb e)))
     ⟨z.1,z.2.1⟩
    have hl:(iU σ (own.map (·.2))).length=σ8.length:=by rw[<-hw8,uk]
    refine⟨m',hm,i+1,H',(I'.xa (pins:=[])).akp hl (λj v e=>?_),T.keep _ _ _ st7 λb hb o e=>(afk b hb o e).1,λb hb=>?_,w'⟩
    ·rw[<-hw8]at e;exact(yL e).1
    ·obtain⟨o,e,_⟩:=T.obj _ _ st7 b hb;exact(afk b hb o e).2
   cases b with
   |false=>simp only[cB,if_false]at q9 ⊢;exact oH I9 q9|true=>simp only[if_true]at q9 ⊢;refine O6 (pe _ s9 σ8 H9 _ I9 q9) λz J_ ⟨yv,YB,I10,r10,acc,ak6,ak7,nx⟩=>?_;exact aaG (X:=X.FJ s3 H3 scope ce fp) I10 ak6 ak7 r10 λs11 I11=>oH I11 nx
 exact codeAny_compStart_list RN (T.Ds X.A 0 _ _ _ st4 RN)
theorem qb{Ef tg nq:Expr}{FK:List Expr}{scope:mY}{own:List (bT×Nat)}{pos:mZ}{wi:TI}{g:TG}{tt:TT}{te:TE}(hc:X.calm=true)(hN:X.N.Nodup)(hi:PI X tg nq wi)(ok:II X.N X.bW.scope scope own)(hg:∀(s:aA)(H:Hp)(C:ah)(cl:List (bT×ah))(fp:List ah),PG (X.FJ s H scope (lY scope cl C X.bW) fp) tg g)(ht:∀(s:aA)(H:Hp)(C:ah)(cl:List (bT×ah))(fp:List ah),PTs (X.FJ s H scope (lY scope cl C X.bW) fp) FK tt)(he:∀(s:aA)(H:Hp)(C:ah)(cl:List (bT×ah))(fp:List ah),PE (X.FJ s H scope (lY scope cl C X.bW) fp) Ef te)(hs:∀x,foldedSetIterable nq X.bW x=i4 x:=by intro _;rfl):PE X (.ListComp Ef [⟨tg,nq,FK,0⟩] scope pos) (tLc wi g tt te (own.map (·.2))):=by intro pins s σ H Q I h;rw[eval_ListComp];refine MZ hc hN I hi ok hg ht he hs h λD C s' m H' I' q hn f=>⟨m,hn,λAl sb=>?_⟩;obtain⟨f0,f1,f2,f3,f4,f5⟩:=f;exact⟨.ref D,H',I'.mM (t':=s'.toks) (λb o hb e=>(sb.2 b hb).trans e) f0 f1 f3 f4 f5,rfl,q⟩
theorem xl{i:Nat}{y:bT}{py:mZ}{Ef tg nq:Expr}{FK:List Expr}{scope:mY}{own:List (bT×Nat)}{pos afl:mZ}{wi:TI}{g:TG}{tt:TT}{te:TE}(hc:X.calm=true)(hN:X.N.Nodup)(hy:X.N[i]? =some y)(hyl:X.bW.scope.names.lookup y=some .local)(hsw:rB (.ListComp Ef [⟨tg,nq,FK,0⟩] scope pos) (some (.Name y py)) afl.line X.bW=i4 true)(hi:PI X tg nq wi)(ok:II X.N X.bW.scope scope own)(hg:∀(s:aA)(H:Hp)(C:ah)(cl:List (bT×ah))(fp:List ah),PG (X.FJ s H scope (lY scope cl C X.bW) fp) tg g)(ht:∀(s:aA)(H:Hp)(C:ah)(cl:List (bT×ah))(fp:List ah),PTs (X.FJ s H scope (lY scope cl C X.bW) fp) FK tt)(he:∀(s:aA)(H:Hp)(C:ah)(cl:List (bT×ah))(fp:List ah),PE (X.FJ s H scope (lY scope cl C X.bW) fp) Ef te)(hs:∀x,foldedSetIterable nq X.bW x=i4 x:=by intro _;rfl):PS X (.Assign [.Name y py] (.ListComp Ef [⟨tg,nq,FK,0⟩] scope pos) afl) (KL (tLc wi g tt te (own.map (·.2))) (ow i)):=by
 intro pins s σ H D I h;rw[exec_Assign_Name_used _ _ _ _ hsw];refine ae (A5 (ae ?_));show aX _ X.A (do let _<-comprehension (.ListComp Ef [⟨tg,nq,FK,0⟩] scope pos) scope X.bW (firstIterPos [⟨tg,nq,FK,0⟩] pos) (newList []) false (fL nq X.bW) (some (Ml (.Name y py) X.bW))) _ _ s;have h:tLc wi g tt te (own.map (·.2)) σ H (λx H1=>ow i x σ H1 D.nx):=h;refine ae (fJ (MZ (Qf:= λ_ s'=>SP X pins D .next s') hc hN I hi ok hg ht he hs h λL C s' m H' I' q hn f=>?_) λ_ s' hq=>au (au hq));show aX _ _ (Ml (.Name y py) X.bW (.ref L)) _ _ _;refine aeb (El (v:=V.ref L) I' hN hy (.inl hyl) rfl (λs2 I2 ⟨a,sb,ha⟩=>?_) (.inr hyl));obtain⟨f0,f1,f2,f3,f4,f5⟩:=f;have haC:C≠a:=by
  rcases ha with z|z
  ·rw[z];exact f1
  ·exact λe=>f4 y a z e.symm
 refine⟨m,hn.sameBut sb haC,λh3 sb3=>?_⟩;exact⟨_,H',I2.mM (t':=s2.toks) (λb o hb e=>(sb3.2 b hb).trans e) f0 f1 f3 f4 f5,q⟩
end
theorem IM{lo:Int}{n:Nat}{g:TG}{tt:TT}{te:TE}{vs:List Nat}{σ:St}{H1:Hp}{D:ah}{Qd:Hp->Prop}(Pv:Nat->Hp->Prop)(h0:Pv 0 (aP H1 D (.be [])))(hs:∀i H,i<n->Pv i H->g (.int (lo+i)) (iU σ vs) H λkh H2=>iU kh vs=iU σ vs/\tt kh H2 λb H3=>if b=true then te kh H3 λy H4=>∃acc,H4 D=some (.be acc)/\acc.length<al/\Pv (i+1) (aP H4 D (.be (acc++[y])))else Pv (i+1) H3)(hd:∀H,Pv n H->Qd H):∃W:Nat->Nat->Hp->Prop,(∃m,W 0 m (aP H1 D (.be [])))/\∀i m H,W i m H->((Vr lo n).stop i H/\Qd H)\/((Vr lo n).go i H/\∃Nx:Hp->Prop,(∀H',Nx H'->∃m',m'<m/\W (i+1) m' H')/\∀x H',(Vr lo n).Ip i H x H'->g x (iU σ vs) H' λkh H2=>iU kh vs=iU σ vs/\tt kh H2 λb H3=>if b=true then te kh H3 λy H4=>∃acc,H4 D=some (.be acc)/\acc.length<al/\Nx (aP H4 D (.be (acc++[y])))else Nx H3):=by
 refine⟨λi m H=>m=n-i/\i<=n/\Pv i H,⟨n,by simp,bj _,h0⟩,?_⟩;rintro i m H ⟨rfl,hi,p⟩;by_cases f8:i<n
 ·refine .inr ⟨f8,Pv (i+1),λH' p'=>⟨n-(i+1),by omega,rfl,f8,p'⟩,λx H' y=>?_⟩;obtain⟨e,y⟩:=y;subst e y;exact hs i _ f8 p
 ·have e:i=n:=by omega
  subst e;exact .inl ⟨aB _,hd H p⟩
theorem nE{K:ak}{a:ah}{xs:List V}{g:TG}{tt:TT}{te:TE}{vs:List Nat}{σ:St}{H1:Hp}{D:ah}{Qd:Hp->Prop}(Pv:Nat->Hp->Prop)(h0:Pv 0 (aP H1 D (.be [])))(hl:∀i H,i<=xs.length->Pv i H->cv K H a xs)(hs:∀i x H,xs[i]? =some x->Pv i H->g x (iU σ vs) H λkh H2=>iU kh vs=iU σ vs/\tt kh H2 λb H3=>if b=true then te kh H3 λy H4=>∃acc,H4 D=some (.be acc)/\acc.length<al/\Pv (i+1) (aP H4 D (.be (acc++[y])))else Pv (i+1) H3)(hd:∀H,Pv xs.length H->Qd H):∃W:Nat->Nat->Hp->Prop,(∃m,W 0 m (aP H1 D (.be [])))/\∀i m H,W i m H->((Ys K a).stop i H/\Qd H)\/((Ys K a).go i H/\∃Nx:Hp->Prop,(∀H',Nx H'->∃m',m'<m/\W (i+1) m' H')/\∀x H',(Ys K a).Ip i H x H'->g x (iU σ vs) H' λkh H2=>iU kh vs=iU σ vs/\tt kh H2 λb H3=>if b=true then te kh H3 λy H4=>∃acc,H4 D=some (.be acc)/\acc.length<al/\Nx (aP H4 D (.be (acc++[y])))else Nx H3):=by
 refine⟨λi m H=>m=xs.length-i/\i<=xs.length/\Pv i H,⟨xs.length,by simp,bj _,h0⟩,?_⟩;rintro i m H ⟨rfl,hi,p⟩;have q:=hl i H hi p;by_cases f8:i<xs.length
 ·refine .inr ⟨⟨xs,xs[i],q,by simp[f8]⟩,Pv (i+1),λH' p'=>⟨xs.length-(i+1),by omega,rfl,f8,p'⟩,λx H' y=>?_⟩;obtain⟨e,y⟩:=y;subst e;exact hs i x _ (y xs q) p
 ·have e:i=xs.length:=by omega
  subst e;exact .inl ⟨⟨xs,q,aB _⟩,hd H p⟩
theorem FM{K:ak}{a:ah}{xs:List V}{g:TG}{tt:TT}{te:TE}{vs:List Nat}{σ:St}{H1:Hp}{D:ah}{Qd:Hp->Prop}(Pv:Nat->Hp->Prop)(h0:Pv 0 (aP H1 D (.be [])))(hl:∀i H,i<=xs.length->Pv i H->eh K H a xs)(hs:∀i x H,xs[i]? =some x->Pv i H->g x (iU σ vs) H λkh H2=>iU kh vs=iU σ vs/\tt kh H2 λb H3=>if b=true then te kh H3 λy H4=>∃acc,H4 D=some (.be acc)/\acc.length<al/\Pv (i+1) (aP H4 D (.be (acc++[y])))else Pv (i+1) H3)(hd:∀H,Pv xs.length H->Qd H):∃W:Nat->Nat->Hp->Prop,(∃m,W 0 m (aP H1 D (.be [])))/\∀i m H,W i m H->((Yt K a).stop i H/\Qd H)\/((Yt K a).go i H/\∃Nx:Hp->Prop,(∀H',Nx H'->∃m',m'<m/\W (i+1) m' H')/\∀x H',(Yt K a).Ip i H x H'->g x (iU σ vs) H' λkh H2=>iU kh vs=iU σ vs/\tt kh H2 λb H3=>if b=true then te kh H3 λy H4=>∃acc,H4 D=some (.be acc)/\acc.length<al/\Nx (aP H4 D (.be (acc++[y])))else Nx H3):=by
 refine⟨λi m H=>m=xs.length-i/\i<=xs.length/\Pv i H,⟨xs.length,by simp,bj _,h0⟩,?_⟩;rintro i m H ⟨rfl,hi,p⟩;have q:=hl i H hi p;by_cases f8:i<xs.length
 ·refine .inr ⟨⟨xs,xs[i],q,by simp[f8]⟩,Pv (i+1),λH' p'=>⟨xs.length-(i+1),by omega,rfl,f8,p'⟩,λx H' y=>?_⟩;obtain⟨e,y⟩:=y;subst e;exact hs i x _ (y xs q) p
 ·have e:i=xs.length:=by omega
  subst e;exact .inl ⟨⟨xs,q,aB _⟩,hd H p⟩
def afm(N:List bT)(sc scope:mY)(own:List (bT×Nat)):Bool:=(match scope.kind with| .function=>true|_=>false)&&(scope.names.all λy=>decide (scope.names.lookup y.1=some y.2))&&(own.all λp=>decide (N[p.2]? =some p.1))&&(scope.names.all λy=>match y.2 with
 | .free=>(match sc.names.lookup y.1 with|some .cell=>true|some .free=>true|_=>false)| .local=>decide (y.1∈own.map (·.1))||decide (y.1∉N)
 | .cell=>decide (y.1∈own.map (·.1))||decide (y.1∉N)
 |_=>true)
theorem gi{N:List bT}{sc scope:mY}{own:List (bT×Nat)}(h:afm N sc scope own=true):II N sc scope own:=by
 unfold afm at h;simp only[bg,ik,decide_eq_true_eq]at h;obtain⟨⟨⟨h1,h2⟩,h3⟩,h4⟩:=h;refine⟨?_,h2,h3,λy hy e=>?_,λy hy e=>?_⟩
 ·split at h1
  ·assumption
  ·cases h1
 ·have q:=h4 y hy;simp only[e]at q;split at q<;>first|exact .inl (by assumption)|exact .inr (by assumption)|cases q
 ·have q:=h4 y hy;rcases e with e|e<;>(simp only[e,gj,decide_eq_true_eq]at q;exact q)
section
variable{κ:Type}[DecidableEq κ]
def iV(kvs:List (κ×V))(k:κ):Option V:=(kvs.find? λkv=>decide (kv.1=k)).map (·.2)
def kJ(kvs:List (κ×V))(k:κ)(v:V):List (κ×V):=if(kvs.any λkv=>decide (kv.1=k))=true then kvs.map (λkv=>if kv.1=k then(kv.1,v)else kv)else kvs++[(k,v)]
theorem nR{p:κ×V}{r:List (κ×V)}{k:κ}(e:p.1=k):iV (p::r) k=some p.2:=by simp[iV,dR,e]
theorem nS{p:κ×V}{r:List (κ×V)}{k:κ}(e:¬p.1=k):iV (p::r) k=iV r k:=by simp[iV,dR,e]
theorem ul(k:κ):∀kvs:List (κ×V),(kvs.any λkv=>decide (kv.1=k))=(iV kvs k).isSome
 | []=>rfl|p::r=>by
  rw[kx];by_cases e:p.1=k
  ·simp only[nR e,decide_eq_true e,aei,Oc]
  ·rw[nS e,decide_eq_false e,Bool.false_or];exact ul k r
theorem nT(kvs:List (κ×V))(k:κ)(v:V):(kJ kvs k v).length<=kvs.length+1:=by
 unfold kJ;split
 ·rw[aq];omega
 ·rw[aw,aZ,g0];omega
theorem nU{kvs:List (κ×V)}{k:κ}(v:V)(h:iV kvs k=none):kJ kvs k v=kvs++[(k,v)]:=by unfold kJ;rw[ul,h];exact if_neg (by decide)
theorem rT.oS{o:Option V}{u:Option aj}(r:rT o u):o.isSome=u.isSome:=by
 cases o with
 |none=>cases u with|none=>rfl|some _=>exact(show False from r).elim
 |some _=>cases u with|none=>exact(show False from r).elim|some _=>rfl
theorem rT.getD{o:Option V}{u:Option aj}{d:V}{d':aj}(r:rT o u)(rd:RelV d d'):RelV (o.getD d) (u.getD d'):=by
 cases o with
 |none=>cases u with|none=>exact rd|some _=>exact(show False from r).elim
 |some _=>cases u with|none=>exact(show False from r).elim|some _=>exact r
theorem KV.val{kvs:List (κ×V)}{vs:List (κ×aj)}(r:KV kvs vs)(k:κ):rT (iV kvs k) (on vs k):=by
 unfold KV at r;induction r with
 |nil=>exact g1|@cons p q ps qs h t ih=>
  obtain⟨h1,h2⟩:=h;by_cases e:p.1=k
  ·have e':q.1=k:=h1.symm.trans e;have b:on (q::qs) k=some q.2:=by simp[on,dR,e']
   rw[nR e,b];exact h2
  ·have e':¬q.1=k:= λz=>e (h1.trans z);have b:on (q::qs) k=on qs k:=by simp[on,dR,e']
   rw[nS e,b];exact ih
theorem KV.any{kvs:List (κ×V)}{vs:List (κ×aj)}(r:KV kvs vs)(k:κ):(kvs.any λkv=>decide (kv.1=k))=vs.any λkv=>decide (kv.1=k):=by
 unfold KV at r;induction r with|nil=>rfl|cons h t ih=>rw[kx,kx,ih,h.1]
theorem KV.aaH{kvs:List (κ×V)}{vs:List (κ×aj)}(r:KV kvs vs)(k:κ){y:V}{u:aj}(ry:RelV y u):KV (kvs.map λkv=>if kv.1=k then(kv.1,y)else kv) (vs.map λkv=>if kv.1=k then(kv.1,u)else kv):=by
 unfold KV at r ⊢;induction r with
 |nil=>exact .nil|@cons p q ps qs h t ih=>
  rw[aS,aS];refine .cons ?_ ih;obtain⟨h1,h2⟩:=h;by_cases e:p.1=k
  ·rw[if_pos e,if_pos (h1.symm.trans e)];exact⟨h1,ry⟩
  ·rw[if_neg e,if_neg (λz=>e (h1.trans z))];exact⟨h1,h2⟩
theorem KV.put{kvs:List (κ×V)}{vs:List (κ×aj)}(r:KV kvs vs)(k:κ){y:V}{u:aj}(ry:RelV y u):KV (kJ kvs k y) (stored vs k u):=by
 unfold kJ stored;rw[r.any k];by_cases e:(vs.any λkv=>decide (kv.1=k))=true
 ·rw[if_pos e,if_pos e];exact r.aaH k ry
 ·rw[if_neg e,if_neg e];exact adb r ⟨rfl,ry⟩
theorem KV.qv{kvs:List (κ×V)}{vs:List (κ×aj)}(r:KV kvs vs):kvs.map (·.1)=vs.map (·.1):=by
 unfold KV at r;induction r with|nil=>rfl|cons h t ih=>rw[aS,aS,ih,h.1]
theorem KV.length{kvs:List (κ×V)}{vs:List (κ×aj)}(r:KV kvs vs):kvs.length=vs.length:=fw r
end
theorem vm{P:a7}{w:bP}{k:fE}{u:aj}(r:RelV (kV k) u):(c_ P w).is k u=true:=by
 cases k with
 |inl i=>obtain⟨t,e⟩:=(show∃t,u=vD i t from r);subst e;exact Ii P w i t
 |inr x=>obtain⟨t,e⟩:=(show∃t,u=Hj x t from r);subst e;exact Ij P w x t
theorem Ey{P:a7}{w:bP}:∀{ks:List fE}{us:List aj},dq (ks.map kV) us->ItemsAre (c_ P w) ks us
 | [],_,r=>by rw[i3]at r;cases r;exact .nil|k::ks,_,r=>by
  rw[aS]at r;cases r with|cons h t=>exact .cons (vm h) (Ey t)
abbrev KT(H:Hp):List (List fE×V)->List (List fE×ah×aj)->Prop:=Paired λp q=>p.1=q.1/\H q.2.1=some (.bV (p.1.map kV))/\RelV p.2 q.2.2
theorem KT.val{H:Hp}{kvs:List (List fE×V)}{xs:List (List fE×ah×aj)}(r:KT H kvs xs)(k:List fE):rT (iV kvs k) ((j3 xs k).map (·.2)):=by
 induction r with
 |nil=>exact g1|@cons p q ps qs h t ih=>
  obtain⟨h1,_,h2⟩:=h;by_cases e:p.1=k
  ·have e':q.1=k:=h1.symm.trans e;have b:j3 (q::qs) k=some q.2:=by simp[j3,dR,e']
   rw[nR e,b];exact h2
  ·have e':¬q.1=k:= λz=>e (h1.trans z);have b:j3 (q::qs) k=j3 qs k:=by simp[j3,dR,e']
   rw[nS e,b];exact ih
theorem KT.aaH{H:Hp}{kvs:List (List fE×V)}{xs:List (List fE×ah×aj)}(r:KT H kvs xs)(k:List fE){y:V}{u:aj}(ry:RelV y u):KT H (kvs.map λkv=>if kv.1=k then(kv.1,y)else kv) (xs.map (putAt k u)):=by
 induction r with
 |nil=>exact .nil|@cons p q ps qs h t ih=>
  rw[aS,aS];refine .cons ?_ ih;obtain⟨h1,h2,h3⟩:=h;unfold putAt;by_cases e:p.1=k
  ·rw[if_pos e,if_pos (h1.symm.trans e)];exact⟨h1,h2,ry⟩
  ·rw[if_neg e,if_neg (λz=>e (h1.trans z))];exact⟨h1,h2,h3⟩
theorem KT.put{H:Hp}{kvs:List (List fE×V)}{xs:List (List fE×ah×aj)}(r:KT H kvs xs)(k:List fE){b:ah}{y:V}{u:aj}(hb:H b=some (.bV (k.map kV)))(ry:RelV y u):KT H (kJ kvs k y) (pA xs k b u):=by
 have e:(kvs.any λkv=>decide (kv.1=k))=(j3 xs k).isSome:=by rw[ul,(r.val k).oS,qH]
 unfold kJ pA;rw[e];by_cases q:(j3 xs k).isSome=true
 ·rw[if_pos q,if_pos q];exact r.aaH k ry
 ·rw[if_neg q,if_neg q];exact adb r ⟨rfl,hb,ry⟩
theorem KT.keeps{H H':Hp}{kvs:List (List fE×V)}{xs:List (List fE×ah×aj)}(r:KT H kvs xs)(ht:∀b ys,H b=some (.bV ys)->H' b=some (.bV ys)):KT H' kvs xs:=Paired.gJ r λ_ _ z=>⟨z.1,ht _ _ z.2.1,z.2.2⟩
section
variable{P:a7}{w:bP}{H:Hp}{h:cX}{a:ah}
theorem YC{u:HO}(ok:rV P w H h)(e:Rd H a u):ie P w H h a u:=e.ok ok
theorem vn{kvs:List (fE×V)}(ok:rV P w H h)(e:Rd H a (.dK kvs)):kvs.length<=al/\(a==db)=false/\∃vs,KV kvs vs/\h.DictOf (c_ P w) a vs:=show ie P w H h a (.dK kvs)from YC ok e
theorem M0{kvs:List (fE×V)}(ok:rV P w H h)(e:H a=some (.dK kvs)):kvs.length<=al/\(a==db)=false/\∃vs,KV kvs vs/\h.DictOf (c_ P w) a vs:=vn ok (.inl e)
theorem sf{ks:List fE}(ok:rV P w H h)(e:H a=some (.bV (ks.map kV))):(iO (c_ P w)).is h ks a:=by obtain⟨_,cc,r,o,h1,h2,n,h3⟩:=(show ie P w H h a (.bV (ks.map kV))from ok a _ e);exact⟨o,cc.toArray,n,h1,h2,h3,by simpa using Ey r⟩
theorem vo{kvs:List (List fE×V)}(ok:rV P w H h)(e:Rd H a (.dT kvs)):kvs.length<=al/\(a==db)=false/\∃xs,KT H kvs xs/\h.DictOfH (iO (c_ P w)) a xs:=by
 obtain⟨z,y,xs,r,o,es,ep,h1,h2,h3,h4,h5⟩:=(show ie P w H h a (.dT kvs)from YC ok e);refine⟨z,y,xs,r,o,es,ep,h1,h2,h3,h4,λx hx=>?_,h5⟩;have all:∀{l:List (List fE×V)}{m:List (List fE×ah×aj)},KT H l m->∀x∈m,(iO (c_ P w)).is h x.1 x.2.1:=by
  intro l m q;induction q with
  |nil=>intro x hx;exact nomatch hx|@cons p q ps qs hq t ih=>
   intro x hx;rcases aU.mp hx with e|hx
   ·subst e;exact sf ok (by rw[<-hq.1];exact hq.2.1)
   ·exact ih x hx
 exact all r x hx
theorem IN{kvs:List (List fE×V)}(ok:rV P w H h)(e:H a=some (.dT kvs)):kvs.length<=al/\(a==db)=false/\∃xs,KT H kvs xs/\h.DictOfH (iO (c_ P w)) a xs:=vo ok (.inl e)
end
def lx(H:Hp)(a:ah)(y:V)(r:Option V):Prop:=(∃kvs k,Rd H a (.dK kvs)/\y=kV k/\r=iV kvs k)\/∃kvs k b,Rd H a (.dT kvs)/\y= .ref b/\H b=some (.bV (k.map kV))/\r=iV kvs k
def s_(H:Hp)(a:ah)(y v:V)(H':Hp):Prop:=(∃kvs k,H a=some (.dK kvs)/\y=kV k/\kvs.length<al/\H'=aP H a (.dK (kJ kvs k v)))\/∃kvs k b,H a=some (.dT kvs)/\y= .ref b/\H b=some (.bV (k.map kV))/\kvs.length<al/\H'=aP H a (.dT (kJ kvs k v))
theorem lx.k{H:Hp}{a:ah}{kvs:List (fE×V)}{k:fE}(e:H a=some (.dK kvs)):lx H a (kV k) (iV kvs k):= .inl ⟨kvs,k,.inl e,rfl,rfl⟩
theorem lx.t{H:Hp}{a b:ah}{kvs:List (List fE×V)}{k:List fE}(e:H a=some (.dT kvs))(eb:H b=some (.bV (k.map kV))):lx H a (.ref b) (iV kvs k):= .inr ⟨kvs,k,b,.inl e,rfl,eb,rfl⟩
theorem s_.k{H:Hp}{a:ah}{kvs:List (fE×V)}{k:fE}{v:V}(e:H a=some (.dK kvs))(hl:kvs.length<al):s_ H a (kV k) v (aP H a (.dK (kJ kvs k v))):= .inl ⟨kvs,k,e,rfl,hl,rfl⟩
theorem s_.t{H:Hp}{a b:ah}{kvs:List (List fE×V)}{k:List fE}{v:V}(e:H a=some (.dT kvs))(eb:H b=some (.bV (k.map kV)))(hl:kvs.length<al):s_ H a (.ref b) v (aP H a (.dT (kJ kvs k v))):= .inr ⟨kvs,k,b,e,rfl,eb,hl,rfl⟩
section
variable{X:Cx}{pins:List (ah×gS)}{σ:St}{H:Hp}{s:aA}{a:ah}{y v:V}{u r:aj}{o:Option V}{A:cT}{E:aj->aA->Prop}
theorem Inv.big(I:Inv X pins σ H s):db<s.heap.objs.size:=by have h:cb<s.heap.objs.size:=(I.Fw.Fv.keeps I.bk).lt;exact pI (by decide) h
theorem O8{Q:aj->aA->Prop}(hu:A.units+1<iw)(I:Inv X pins σ H s)(g:lx H a y (some v))(ry:RelV y u)(h:∀w' s',Inv X pins σ H s'->RelV v w'->Q w' s'):aX (bA X.prog X.w) A (Ki (.ref a) u) Q E s:=by
 rcases g with⟨kvs,k,e,ey,l⟩|⟨kvs,k,b,e,ey,eb,l⟩
 ·subst ey;obtain⟨z,hd,vs,lf,dd⟩:=vn I.d5 e;obtain⟨w',hw,IC⟩:=rT.FA (v:=v) (o:=on vs k) (by rw[l];exact lf.val k);exact wpAny_getItem_of (vm ry) dd.mapOf hw (h w' _ (I.ww _) IC)
 ·subst ey;cases (show u=aY b from ry);obtain⟨z,hd,xs,lf,dd⟩:=vo I.d5 e;obtain⟨w',hw,IC⟩:=rT.FA (v:=v) (o:=(j3 xs k).map (·.2)) (by rw[l];exact lf.val k);obtain⟨p,hp,hp2⟩:=Hs.mp hw;refine adc (e_ hu) (sf I.d5 eb) dd hp ?_;rw[hp2];exact h w' _ (I.ww _) IC
theorem ak8{Q:aj->aA->Prop}(hu:A.units+1<iw)(I:Inv X pins σ H s)(g:lx H a y o)(ry:RelV y u)(h:∀s',Inv X pins σ H s'->Q (.bool o.isSome) s'):aX (bA X.prog X.w) A (fj .In u (.ref a)) Q E s:=by
 rcases g with⟨kvs,k,e,ey,l⟩|⟨kvs,k,b,e,ey,eb,l⟩
 ·subst ey;obtain⟨z,hd,vs,lf,dd⟩:=vn I.d5 e;refine wpAny_in_of (vm ry) hd dd.mapOf ?_;rw[<-(lf.val k).oS,<-l];exact h _ (I.ww _)
 ·subst ey;cases (show u=aY b from ry);obtain⟨z,hd,xs,lf,dd⟩:=vo I.d5 e;refine wpAny_in_heap (e_ hu) (sf I.d5 eb) hd dd ?_;have q:=(lf.val k).oS;rw[qH]at q;rw[<-q,<-l];exact h _ (I.ww _)
theorem WC{Q:aj->aA->Prop}(hu:A.units+1<iw)(I:Inv X pins σ H s)(g:lx H a y o)(ry:RelV y u)(h:∀s',Inv X pins σ H s'->Q (.bool (!o.isSome)) s'):aX (bA X.prog X.w) A (fj .NotIn u (.ref a)) Q E s:=by
 rcases g with⟨kvs,k,e,ey,l⟩|⟨kvs,k,b,e,ey,eb,l⟩
 ·subst ey;obtain⟨z,hd,vs,lf,dd⟩:=vn I.d5 e;refine wpAny_notIn_of (vm ry) hd dd.mapOf ?_;rw[<-(lf.val k).oS,<-l];exact h _ (I.ww _)
 ·subst ey;cases (show u=aY b from ry);obtain⟨z,hd,xs,lf,dd⟩:=vo I.d5 e;refine ahZ (e_ hu) (sf I.d5 eb) hd dd ?_;have q:=(lf.val k).oS;rw[qH]at q;rw[<-q,<-l];exact h _ (I.ww _)
theorem qc{h':cX}{t':Nat}{ob:HO}(I:Inv X pins σ H s)(mu:Wc (H a))(hs:df a s.heap h')(he:∃q,h'.get? a=some q)(new:ie X.prog X.w (aP H a ob) h' a ob):Inv X pins σ (aP H a ob) {s with heap:=h',toks:=t'}:=I.vk (x:=a) (e:=a) mu (.inl rfl) (λb q hb z=>(hs.2 b hb).trans z) he new
theorem K7{P:a7}{w:bP}{H':Hp}{h':cX}{kvs:List (fE×V)}{vs:List (fE×aj)}(z:kvs.length<=al)(hd:(a==db)=false)(lf:KV kvs vs)(dd:h'.DictOf (c_ P w) a vs):ie P w H' h' a (.dK kvs):=⟨z,hd,vs,lf,dd⟩
theorem O9{H':Hp}{Q:Unit->aA->Prop}(hu:A.units+1<iw)(I:Inv X pins σ H s)(g:s_ H a y v H')(ry:RelV y u)(rv:RelV v r)(h:∀s',Inv X pins σ H' s'->Q () s'):aX (bA X.prog X.w) A (setItem (.ref a) u r) Q E s:=by
 rcases g with⟨kvs,k,e,ey,l,eH⟩|⟨kvs,k,b,e,ey,eb,l,eH⟩
 ·subst ey eH;obtain⟨z,hd,vs,lf,dd⟩:=M0 I.d5 e;have hz:vs.length<=al:=by rw[<-lf.length];exact z
  have hl:(kJ kvs k v).length<=al:=by have:=nT kvs k v;omega
  refine wpAny_setItem_pairs (hsz:=hz) (vm ry) dd λh' Dx hs=>h _ ?_;have he:∃q,h'.get? a=some q:=let⟨q,_,_,hq,_⟩:=Dx;⟨q,hq⟩
  exact qc I (by rw[e];exact g1) hs he (K7 hl hd (lf.put k rv) Dx)
 ·subst ey eH;cases (show u=aY b from ry);obtain⟨z,hd,xs,lf,dd⟩:=IN I.d5 e;have hz:xs.length<=al:=by rw[<-fw lf];exact z
  have hl:(kJ kvs k v).length<=al:=by have:=nT kvs k v;omega
  refine ade (hsz:=hz) (e_ hu) (sf I.d5 eb) dd λh' Dx hs=>h _ ?_;obtain⟨q,es,ep,hq,h2,h3,h4,_,h5⟩:=Dx;refine qc I (by rw[e];exact g1) hs ⟨q,hq⟩ ⟨hl,hd,_,(lf.put k eb rv).keeps λc ys ec=>?_,q,es,ep,hq,h2,h3,h4,h5⟩;rw[aF (nQ ec e (λz=>nomatch z))];exact ec
end
def aaI(i:Expr):Prop:=∀ov iv,Hr i false ov iv=operate [ov,iv] (Ki ov iv)
theorem M3{prog:a7}{w:bP}{A:cT}{E:aj->aA->Prop}{s:aA}{bW:Mj}{kI dN:Expr}{pos:mZ}{T id:String}{Q:aj->aA->Prop}(hl:ac4 (.type T) "__getitem__"=i4 (some (.builtin id)))(hs:aaI dN)(h:aX (bA prog w) A (fL kI bW) (λo ir=>aX (bA prog w) A (fL dN bW) (λi qT=>qT.TypeIs o T/\aX (bA prog w) A (Ki o i) Q E qT) E ir) E s):aX (bA prog w) A (fL (.Subscript kI dN pos) bW) Q E s:=by
 refine ac9 (gp h (λo ir WA=>gp WA (λi qT Sv=>?_) λ_ _ x=>x) λ_ _ x=>x);obtain⟨hT,Sv⟩:=Sv;unfold QD;refine ae ?_;rw[getitemInPython_of_ne hT.not_modules];refine ae (fT hT hl ?_);have oH:aX (bA prog w) A (Hr dN false o i) (λr O7=>aX (bA prog w) A (letTemporaryGo kI o r>>= λ_=>i4 r) Q E O7) E qT:=by rw[hs o i];exact wpAny_operating (gp Sv (λr O7 WB=>ae (wpAny_letTemporaryGo (au WB))) λ_ _ x=>x)
 first
  |exact au (ae oH)
  |exact ae (au (ae oH))
  |exact ae oH
theorem IP{X:Cx}{pins:List (ah×gS)}{σ:St}{H:Hp}{s:aA}{a:ah}{y:V}{o:Option V}(I:Inv X pins σ H s)(g:lx H a y o):s.TypeIs (.ref a) "dict":=by
 rcases g with⟨kvs,k,e,_,_⟩|⟨kvs,k,b,e,_,_,_⟩
 ·obtain⟨_,_,vs,_,dd⟩:=vn I.d5 e;exact dd.typeIs
 ·obtain⟨_,_,xs,_,dd⟩:=vo I.d5 e;exact dd.typeIs
inductive aaJ(Q:VK)(x y:V)(H2:Hp):Prop
 |mk (a v:_) (_:x= .ref a) (_:lx H2 a y (some v)) (_:Q v H2)
def afn(td ty:TE):TE:= λσ H Q=>td σ H λx H1=>ty σ H1 λy H2=>aaJ Q x y H2
inductive afo(Q:VK)(y x:V)(H2:Hp):Prop
 |mk (a o:_) (_:x= .ref a) (_:lx H2 a y o) (_:Q (.bl o.isSome) H2)
def ak9(ty td:TE):TE:= λσ H Q=>ty σ H λy H1=>td σ H1 λx H2=>afo Q y x H2
inductive Sw(Q:VK)(y x:V)(H2:Hp):Prop
 |mk (a o:_) (_:x= .ref a) (_:lx H2 a y o) (_:Q (.bl (!o.isSome)) H2)
def WD(ty td:TE):TE:= λσ H Q=>ty σ H λy H1=>td σ H1 λx H2=>Sw Q y x H2
inductive aaK(D:rX)(σ:St)(v x y:V)(H3:Hp):Prop
 |mk (a H4:_) (_:x= .ref a) (_:s_ H3 a y v H4) (_:D.nx σ H4)
def YD(td ty tv:TE):TS:= λD σ H=>tv σ H λv H1=>td σ H1 λx H2=>ty σ H2 λy H3=>aaK D σ v x y H3
section
variable{X:Cx}{o i e kI:Expr}{pos sd Dt:mZ}{td ty tv:TE}
theorem uS(hu:X.A.units+1<iw)(ho:PE X o td)(hi:PE X i ty)(hs:aaI i):PE X (.Subscript o i pos) (afn td ty):=by intro pins s σ H Q I h;refine M3 C6.lookup hs (fJ (ho pins s σ H _ I h) λu s1 ⟨x,H1,I1,rx,q1⟩=>fJ (hi pins s1 σ H1 _ I1 q1) λiv s2 ⟨y,H2,I2,ry,a,v,ex,g,q2⟩=>?_);subst ex;obtain rfl:u=aY a:=rx;exact⟨IP I2 g,O8 hu I2 g ry λw' s3 I3 IC=>⟨v,H2,I3,IC,q2⟩⟩
theorem Sx(hu:X.A.units+1<iw)(hi:PE X i ty)(ho:PE X o td):PC X .In i o (ak9 ty td):=by intro pins s σ H Q I h;refine fJ (hi pins s σ H _ I h) λiv s1 ⟨y,H1,I1,ry,q1⟩=>fJ (ho pins s1 σ H1 _ I1 q1) λu s2 ⟨x,H2,I2,rx,a,ov,ex,g,q2⟩=>?_;subst ex;obtain rfl:u=aY a:=rx;exact ak8 hu I2 g ry λs3 I3=>⟨.bl ov.isSome,H2,I3,rfl,q2⟩
theorem O_(hu:X.A.units+1<iw)(hi:PE X i ty)(ho:PE X o td):PC X .NotIn i o (WD ty td):=by intro pins s σ H Q I h;refine fJ (hi pins s σ H _ I h) λiv s1 ⟨y,H1,I1,ry,q1⟩=>fJ (ho pins s1 σ H1 _ I1 q1) λu s2 ⟨x,H2,I2,rx,a,ov,ex,g,q2⟩=>?_;subst ex;obtain rfl:u=aY a:=rx;exact WC hu I2 g ry λs3 I3=>⟨.bl (!ov.isSome),H2,I3,rfl,q2⟩
theorem lI(hu:X.A.units+1<iw)(ho:PE X o td)(hi:PE X i ty)(hv:PE X kI tv)(hs:rB kI (some (.Subscript o i sd)) pos.line X.bW=i4 false):PS X (.Assign [.Subscript o i sd] kI pos) (YD td ty tv):=by intro pins s σ H D I h;refine Vj (fJ (hv pins s σ H _ I h) λr s1 ⟨v,H1,I1,rv,q1⟩=>fJ (ho pins s1 σ H1 _ I1 q1) λu s2 ⟨x,H2,I2,rx,q2⟩=>fJ (hi pins s2 σ H2 _ I2 q2) λiv s3 ⟨y,H3,I3,ry,a,H4,ex,g,q3⟩=>?_) hs;subst ex;obtain rfl:u=aY a:=rx;exact O9 hu I3 g ry rv λs4 I4=>⟨σ,H4,I4,q3⟩
end
theorem IQ{P:a7}{w:bP}{H:Hp}(h:cX)(hb:db<h.objs.size):ie P w H (h.push {cls:= .type "dict",data:= .dict #[]}) h.objs.size (.dK []):=⟨bj _,beq_eq_false_iff_ne.mpr (iN (b4 hb)),[],.nil,cX.DictOf.new h⟩
theorem Sy{P:a7}{w:bP}{H:Hp}(h:cX)(hb:db<h.objs.size):ie P w H (h.push {cls:= .type "dict",data:= .dict #[]}) h.objs.size (.dT []):=⟨bj _,beq_eq_false_iff_ne.mpr (iN (b4 hb)),[],.nil,_,#[],0,ba _ rfl,⟨rfl,rfl,rfl⟩,rfl,rfl,jr⟩
def aaL:TE:= λ_ H Q=>∀p,H p=none->Q (.ref p) (aP H p (.dK []))
def aaM:TE:= λ_ H Q=>∀p,H p=none->Q (.ref p) (aP H p (.dT []))
section
variable{X:Cx}{pos:mZ}
theorem xn:PE X (.Dict [] [] pos) aaL:= λpins s σ H Q I h=>ah0 ⟨.ref s.heap.objs.size,_,I.rW (a:=s.heap.objs.size) (o:= .dK []) (t':=s.toks) (λ_ _ q=>aI _ q) (aB _) (IQ s.heap I.big),rfl,h _ (I.d5.fresh (aB _))⟩
theorem qX:PE X (.Dict [] [] pos) aaM:= λpins s σ H Q I h=>ah0 ⟨.ref s.heap.objs.size,_,I.rW (a:=s.heap.objs.size) (o:= .dT []) (t':=s.toks) (λ_ _ q=>aI _ q) (aB _) (Sy s.heap I.big),rfl,h _ (I.d5.fresh (aB _))⟩
end
def K8:List (TE×TE)->St->Hp->(List (V×V)->Hp->Prop)->Prop
 | [],_,H,Q=>Q [] H|(tk,tv)::r,σ,H,Q=>tk σ H λx H1=>tv σ H1 λy H2=>K8 r σ H2 λps H3=>Q ((x,y)::ps) H3
abbrev VV:List (V×V)->List (aj×aj)->Prop:=Paired λp q=>RelV p.1 q.1/\RelV p.2 q.2
def PPs(X:Cx)(pos:mZ)(qv:List (Option Expr))(BZ:List Expr)(WE:List (TE×TE)):Prop:=∀(pins:List (ah×gS))(s:aA)(σ:St)(H:Hp)(Q:List (V×V)->Hp->Prop),Inv X pins σ H s->K8 WE σ H Q->aX (bA X.prog X.w) X.A (evalPairs (pairTrees qv BZ X.bW pos)) (λvs s'=>∃ps H',Inv X pins σ H' s'/\VV ps vs/\Q ps H') X.xe s
theorem WF{X:Cx}{pos:mZ}:PPs X pos [] [] []:= λpins s σ H Q I h=>adf ⟨[],H,I,.nil,h⟩
theorem Sz{X:Cx}{pos:mZ}{k v:Expr}{ks:List (Option Expr)}{vs:List Expr}{tk tv:TE}{WE:List (TE×TE)}(hk:PE X k tk)(hv:PE X v tv)(hr:PPs X pos ks vs WE):PPs X pos (some k::ks) (v::vs) ((tk,tv)::WE):= λpins s σ H Q I h=>ZM (fJ (hk pins s σ H _ I h) λu s1 ⟨x,H1,I1,rx,q1⟩=>fJ (hv pins s1 σ H1 _ I1 q1) λw2 s2 ⟨y,H2,I2,ry,q2⟩=>fJ (hr pins s2 σ H2 _ I2 q2) λws s3 ⟨ps,H3,I3,lf,q3⟩=>⟨(x,y)::ps,H3,I3,.cons ⟨rx,ry⟩ lf,q3⟩)
def vX(kvs more:List (fE×V)):List (fE×V):=more.foldl (λacc kv=>kJ acc kv.1 kv.2) kvs
theorem KV.merge:∀{more:List (fE×V)}{rs:List (fE×aj)}{kvs:List (fE×V)}{vs:List (fE×aj)},KV more rs->KV kvs vs->KV (vX kvs more) (merged vs rs):=by
 intro more rs kvs vs r;unfold KV at r;induction r generalizing kvs vs with
 |nil=>intro q;exact q|@cons p q ps qs h t ih=>
  intro r0;have e:KV (kJ kvs p.1 p.2) (stored vs q.1 q.2):=by have:=r0.put p.1 h.2;rw[<-h.1];exact this
  exact ih e
theorem vp:∀(more kvs:List (fE×V)),(vX kvs more).length<=kvs.length+more.length
 | [],kvs=>by show kvs.length<=kvs.length+0;omega|p::r,kvs=>by have h1:=vp r (kJ kvs p.1 p.2);have h2:=nT kvs p.1 p.2;show(vX (kJ kvs p.1 p.2) r).length<=_;rw[aZ];omega
theorem B0{P:a7}{w:bP}:∀{kvs:List (fE×V)}{ws:List (aj×aj)},VV (kvs.map λkv=>(kV kv.1,kv.2)) ws->∃rs,Carries (c_ P w) ws rs/\KV kvs rs
 | [],_,r=>by rw[i3]at r;cases r;exact⟨[],g1,.nil⟩|p::kvs,_,r=>by
  rw[aS]at r;cases r with
  |@cons a b as bs h t=>obtain⟨rs,c,q⟩:=B0 (P:=P) (w:=w) t;obtain⟨b1,b2⟩:=b;exact⟨(p.1,b2)::rs,⟨vm h.1,rfl,c⟩,.cons ⟨rfl,h.2⟩ q⟩
def afp(WE:List (TE×TE)):TE:= λσ H Q=>∀p,H p=none->K8 WE σ (aP H p (.dK [])) λps H2=>H2 p=some (.dK [])/\∃kvs:List (fE×V),ps=kvs.map (λkv=>(kV kv.1,kv.2))/\kvs.length<=15/\Q (.ref p) (aP H2 p (.dK (vX [] kvs)))
theorem WG{X:Cx}{pos:mZ}{qv:List (Option Expr)}{BZ:List Expr}{WE:List (TE×TE)}(h:PPs X pos qv BZ WE)(pF:qv.all (·.isSome)=true)(hl:qv.length=BZ.length)(h0:qv≠[])(h15:qv.length<=15):PE X (.Dict qv BZ pos) (afp WE):=by
 intro pins s σ H Q I q;have hn:=I.d5.fresh (aB s.heap.objs.size);have I1:=I.rW (a:=s.heap.objs.size) (o:= .dK []) (h':=s.heap.push {cls:= .type "dict",data:= .dict #[]}) (t':=s.toks) (λ_ _ q=>aI _ q) (aB _) (IQ s.heap I.big);refine wpAny_Dict_walk (knd:=c_ X.prog X.w) pF hl h0 h15 (fJ (h pins _ σ _ _ I1 (q _ hn)) λws s2 ⟨ps,H2,I2,lf,e,kvs,ep,lk,q2⟩=>?_);subst ep;obtain⟨rs,c,rk⟩:=B0 (P:=X.prog) (w:=X.w) lf;obtain⟨z,hd,vs0,r0,dd⟩:=M0 I2.d5 e;cases r0;refine⟨rs,c,dd,λh' Dx hs=>⟨.ref s.heap.objs.size,_,?_,rfl,q2⟩⟩;have hz:(vX [] kvs).length<=al:=by have h1:=vp kvs [];rw[g0]at h1;rw[bR];omega
 have he:∃q,h'.get? s.heap.objs.size=some q:=let⟨q,_,_,hq,_⟩:=Dx;⟨q,hq⟩
 exact qc I2 (by rw[e];exact g1) hs he (K7 hz hd (rk.merge .nil) Dx)
structure M1(X:Cx)(o:Expr)(m:bT)(lE:mZ)(e:Expr)(lP:mZ):Prop where
 base:lp o m X.bW (fL o X.bW)=fL o X.bW
 De:((jd lP (cn [e] X.bW)).all (λx=> !x.1)&&(sF lP (lW [] X.bW)).all (λx=>x.1.isSome)&&decide (([e]:List Expr).length+([]:List Aa).length+(if([]:List Aa).isEmpty then 0 else 1)<30))=true
 line:(lE.endLine==lP.line)=true
 M4:jd lP (cn [e] X.bW)=[(false,fL e X.bW)]
structure M2(X:Cx)(o:Expr)(m:bT)(lE:mZ)(e f:Expr)(lP:mZ):Prop where
 base:lp o m X.bW (fL o X.bW)=fL o X.bW
 De:((jd lP (cn [e,f] X.bW)).all (λx=> !x.1)&&(sF lP (lW [] X.bW)).all (λx=>x.1.isSome)&&decide (([e,f]:List Expr).length+([]:List Aa).length+(if([]:List Aa).isEmpty then 0 else 1)<30))=true
 line:(lE.endLine==lP.line)=true
 M4:jd lP (cn [e,f] X.bW)=[(false,fL e X.bW),(false,fL f X.bW)]
def IsD(H:Hp)(a:ah):Prop:=(∃kvs,Rd H a (.dK kvs))\/∃kvs,Rd H a (.dT kvs)
theorem K9{X:Cx}{pins:List (ah×gS)}{σ:St}{H:Hp}{s:aA}{a:ah}(I:Inv X pins σ H s)(d:IsD H a):s.TypeIs (.ref a) "dict"/\(∀b,aY a= .ref b->∃ob,s.heap.get? b=some ob/\ob.dict=none)/\(a==db)=false:=by
 rcases d with⟨kvs,e⟩|⟨kvs,e⟩
 ·obtain⟨_,hd,vs,_,dd⟩:=vn I.d5 e;refine⟨dd.typeIs,λb q=>?_,hd⟩;cases q;obtain⟨ob,_,_,h1,h2,_⟩:=dd;exact⟨ob,h1,h2.2.1⟩
 ·obtain⟨_,hd,xs,_,dd⟩:=vo I.d5 e;refine⟨dd.typeIs,λb q=>?_,hd⟩;cases q;obtain⟨ob,_,_,h1,h2,_⟩:=dd;exact⟨ob,h1,h2.2.1⟩
section
variable{X:Cx}{pins:List (ah×gS)}{σ:St}{H:Hp}{s:aA}{a:ah}{y d:V}{u r:aj}{o:Option V}{A:cT}{E:aj->aA->Prop}
theorem aaN{Q:aj->aA->Prop}(hu:A.units+1<iw)(I:Inv X pins σ H s)(g:lx H a y o)(ry:RelV y u)(h:∀w' s',Inv X pins σ H s'->RelV (o.getD .non) w'->Q w' s'):aX (bA X.prog X.w) A (call (.builtin "dict.get") [.ref a,u]) Q E s:=by
 rcases g with⟨kvs,k,e,ey,l⟩|⟨kvs,k,b,e,ey,eb,l⟩
 ·subst ey;obtain⟨z,hd,vs,lf,dd⟩:=vn I.d5 e;refine iA du dd.typeIs e6 (l6 _ _) (meets_dict_get (c_ X.prog X.w) a (vm ry) hd) ⟨_,dd.mapOf,h _ _ (I.ww _) ?_⟩;rw[l];exact(lf.val k).getD rfl
 ·subst ey;cases (show u=aY b from ry);obtain⟨z,hd,xs,lf,dd⟩:=vo I.d5 e;refine iA du dd.typeIs e6 (l6 _ _) (meetsH_dict_get (iO (c_ X.prog X.w)) a b hd) ⟨e_ hu,k,xs,sf I.d5 eb,dd,h _ _ (I.ww _) ?_⟩;rw[l];exact(lf.val k).getD rfl
theorem SA{Q:aj->aA->Prop}(hu:A.units+1<iw)(I:Inv X pins σ H s)(g:lx H a y o)(ry:RelV y u)(rd:RelV d r)(h:∀w' s',Inv X pins σ H s'->RelV (o.getD d) w'->Q w' s'):aX (bA X.prog X.w) A (call (.builtin "dict.get") [.ref a,u,r]) Q E s:=by
 rcases g with⟨kvs,k,e,ey,l⟩|⟨kvs,k,b,e,ey,eb,l⟩
 ·subst ey;obtain⟨z,hd,vs,lf,dd⟩:=vn I.d5 e;refine iA du dd.typeIs e6 (l7 _ _ _) (Vk (c_ X.prog X.w) a (vm ry) hd r) ⟨_,dd.mapOf,h _ _ (I.ww _) ?_⟩;rw[l];exact(lf.val k).getD rd
 ·subst ey;cases (show u=aY b from ry);obtain⟨z,hd,xs,lf,dd⟩:=vo I.d5 e;refine iA du dd.typeIs e6 (l7 _ _ _) (Q3 (iO (c_ X.prog X.w)) a b hd r) ⟨e_ hu,k,xs,sf I.d5 eb,dd,h _ _ (I.ww _) ?_⟩;rw[l];exact(lf.val k).getD rd
end
inductive WH(ty tx:TE)(σ:St)(Q:VK)(x:V)(H1:Hp):Prop
 |mk (a:_) (_:x= .ref a) (_:IsD H1 a) (_:ty σ H1 λy H2=>tx σ H2 λz H3=>∃o,lx H3 a y o/\Q (o.getD z) H3)
def aaO(td ty tx:TE):TE:= λσ H Q=>td σ H λx H1=>WH ty tx σ Q x H1
section
variable{X:Cx}{o e f:Expr}{lE lP:mZ}{td ty tx:TE}
theorem IR(hu:X.A.units+1<iw)(ho:PE X o td)(he:PE X e ty)(hf:PE X f tx)(m:M2 X o "get" lE e f lP):PE X (.Call (.Attribute o "get" lE) [e,f] [] lP) (aaO td ty tx):=by intro pins s σ H Q I h;refine tI m.base m.De m.line fX du tF (fJ (ho pins s σ H _ I h) λu s1 ⟨x,H1,I1,rx,a,ex,d,q1⟩=>?_);subst ex;obtain rfl:u=aY a:=rx;obtain⟨t1,t2,_⟩:=K9 I1 d;refine⟨t1,t2,?_⟩;rw[m.M4];refine jQ rfl (om (jP (fJ (he pins s1 σ H1 _ I1 q1) λiv s2 ⟨y,H2,I2,ry,q2⟩=>jP (fJ (hf pins s2 σ H2 _ I2 q2) λfv s3 ⟨z,H3,I3,rz,ov,g,q3⟩=>qL ?_))));exact SA hu I3 g ry rz λw' s4 I4 IC=>⟨_,H3,I4,IC,q3⟩
end
theorem B1:mi "reversed"=some (.type "reversed"):=by decide+kernel
section
variable{X:Cx}{pins:List (ah×gS)}{σ:St}{H:Hp}{s:aA}{h':cX}
theorem Inv.Ez{t':Nat}{ch:List ah}{T:ah}{ob:HO}(I:Inv X pins σ H s)(k:∀b o,b∉ch->s.heap.get? b=some o->h'.get? b=some o)(hf:∀b∈ch,BO X pins H b)(hT:s.heap.objs.size<=T)(new:ie X.prog X.w (aP H T ob) h' T ob):Inv X pins σ (aP H T ob) {s with heap:=h',toks:=t'}:=by
 have hn:H T=none:=I.d5.fresh hT;have nit:∀b u,H b=some u->b∉ch:= λb u e z=>by have q:=(hf b z).1;rw[q]at e;cases e
 refine I.step (g':=s.gens) (d':=s.drawn) (ch:=ch) (λb hb=>⟨(hf b hb).2.2.2.1,(hf b hb).2.1,(hf b hb).2.2.2.2.1,(hf b hb).2.2.2.2.2⟩) (λb o _ _ hc e _=>k b o hc e) (λb o _ _ hc e _=>⟨o.slots,k b o hc e⟩)
  (λb o _ e n=>?_) (λb o hc e=>⟨o,k b o hc e⟩) (λb xs e=>?_) (λb o u e=>?_) (λb ps e=>⟨#[],?_⟩) (λm hm=>?_) (λb u e=>?_) I.pG
 ·rw[aF (b4 (bX (bw e) hT))];exact n
 ·rw[aF (aH e hn)];exact e
 ·rw[aF (aH e hn)];exact e
 ·rw[aF (aH e hn),e];simp
 ·obtain⟨o,es,ep,ho,r⟩:=hm;exact⟨o,es,ep,k _ o (λz=>(hf _ z).2.1 rfl) ho,r⟩
 ·by_cases hb:b=T
  ·subst hb;rw[ai]at e;cases e;exact new
  ·rw[aF hb]at e;refine(I.d5 b u e).BJ (λc v hc q=>k c v ?_ q) (λc q=>by rw[aF (aH q hn)];exact q) λc xs q=>by rw[aF (aH q hn)];exact q
   rcases hc with z|z
   ·rw[z];exact nit b u e
   ·exact nit c _ z
theorem Inv.afq{d:ah}{u:HO}(I:Inv X pins σ H s)(h:H d=some u)(mu:Wc (some u)):∃od,Inv X pins σ (aP H d (.nB od u)) s:=by
 have x:=I.d5 d u h;have ex:∃od,s.heap.get? d=some od:=by
  cases u with
  |be xs=>obtain⟨_,_,_,_,e⟩:=x;exact⟨_,e⟩
  |dK kvs=>obtain⟨_,_,_,_,o,_,_,e,_⟩:=x;exact⟨o,e⟩
  |dT kvs=>obtain⟨_,_,_,_,o,_,_,e,_⟩:=x;exact⟨o,e⟩
  |set S n=>obtain⟨o,_,_,_,e,_⟩:=x;exact⟨o,e⟩
  |gc C dx fs=>obtain⟨_,_,_,e,_⟩:=x;exact⟨_,e⟩
  |ext φ=>obtain⟨_,⟨_,e⟩,_⟩:=x;exact⟨_,e⟩
  |_=>exact fM mu
 obtain⟨od,e⟩:=ex;have new:ie X.prog X.w (aP H d (.nB od u)) s.heap d (.nB od u):=by
  refine⟨e,x.BJ (λb v _ q=>q) (λb q=>?_) λb xs q=>?_⟩
  ·rw[aF (λz=>by rw[z,h]at q;cases q;exact mu)];exact q
  ·rw[aF (λz=>by rw[z,h]at q;cases q;exact mu)];exact q
 exact⟨od,I.vk (x:=d) (e:=d) (t':=s.toks) (h':=s.heap) (by rw[h];exact mu) (.inl rfl) (λb v _ q=>q) ⟨od,e⟩ new⟩
theorem Inv.IS{d:ah}{u:HO}(I:Inv X pins σ H s)(h:H d=some u)(mu:Wc (some u)):∀o' u',X.H_0 d≠some (.nB o' u'):= λo' u' e=>by have q:=I.base.Ao d o' u' e;rw[h]at q;cases q;exact mu
theorem Inv.B2{d:ah}{od:gS}{u:HO}(I:Inv X pins σ H s)(h:H d=some (.nB od u))(hn:∀o' u',X.H_0 d≠some (.nB o' u')):Inv X pins σ (aP H d u) s:=by
 have neH:∀b o,H b=some o->(∀o' u',o≠.nB o' u')->b≠d:= λb o e j8 z=>by rw[z,h]at e;cases e;exact j8 _ _ rfl
 have neN:∀b,H b=none->b≠d:= λb e z=>by rw[z,h]at e;cases e
 refine⟨I.ok,I.os,I.pG,⟨I.base.keep,I.base.slot,λb o e n hx=>?_,I.base.ub,λb xs e=>?_,λb o x e=>?_,λb ps e=>?_⟩,I.Ik,I.cell,?_,λx c e=>?_,λp hp=>?_,λb o e=>?_,I.fD⟩
 ·rw[aF (neN b (I.base.free b o e n hx))];exact I.base.free b o e n hx
 ·have q:=I.base.Dp b xs e;rw[aF (neH b _ q (λ_ _ z=>nomatch z))];exact q
 ·have q:=I.base.Ao b o x e;rw[aF (λz=>by rw[z]at e;exact hn _ _ e)];exact q
 ·obtain⟨m,q⟩:=I.base.Dq b ps e;exact⟨m,by rw[aF (neH b _ q (λ_ _ z=>nomatch z))];exact q⟩
 ·rw[aF (neN _ I.free)];exact I.free
 ·rw[aF (neN c (I.qR x c e))];exact I.qR x c e
 ·obtain⟨e,n,r⟩:=I.MG p hp;exact⟨e,by rw[aF (neN _ n)];exact n,r⟩
 ·by_cases hb:b=d
  ·rw[hb,ai]at e;cases e;rw[hb];obtain⟨_,x⟩:=I.d5 d _ h;exact x.BJ (λc v _ q=>q) (λc q=>by rw[aF (neH c _ q (λ_ _ z=>nomatch z))];exact q) λc xs q=>by rw[aF (neH c _ q (λ_ _ z=>nomatch z))];exact q
  ·rw[aF hb]at e;exact(I.d5 b o e).BJ (λc v _ q=>q) (λc q=>by rw[aF (neH c _ q (λ_ _ z=>nomatch z))];exact q) λc xs q=>by rw[aF (neH c _ q (λ_ _ z=>nomatch z))];exact q
end
inductive afr(t:TS)(D:rX)(σ:St)(H:Hp):Prop
 |mk (d u:_) (_:H d=some u) (_:Wc (some u)) (_:∀od,t ⟨λh9 H'=>H' d=some (.nB od u)/\D.nx h9 (aP H' d u),λv H'=>H' d=some (.nB od u)/\D.rt v (aP H' d u),λh9 H'=>H' d=some (.nB od u)/\D.bk h9 (aP H' d u),λh9 H'=>H' d=some (.nB od u)/\D.ct h9 (aP H' d u)⟩ σ (aP H d (.nB od u)))
inductive aaP(t:TE)(σ:St)(H:Hp)(Q:VK):Prop
 |mk (d u:_) (_:H d=some u) (_:Wc (some u)) (_:∀od,t σ (aP H d (.nB od u)) λv H'=>H' d=some (.nB od u)/\Q v (aP H' d u))
section
variable{X:Cx}
theorem M_{st:dZ}{t:TS}(h:PS X st t):PS X st (afr t):=by
 intro pins s σ H D I hw;obtain⟨d,u,hd,mu,hw⟩:=hw;obtain⟨od,I1⟩:=I.afq hd mu;refine fJ (h pins s σ _ _ I1 (hw od)) λf s1 q=>?_;cases f with
 |next=>obtain⟨h9,H',I2,e,q⟩:=q;exact⟨h9,_,I2.B2 e (I.IS hd mu),q⟩
 |brk=>obtain⟨h9,H',I2,e,q⟩:=q;exact⟨h9,_,I2.B2 e (I.IS hd mu),q⟩
 |cont=>obtain⟨h9,H',I2,e,q⟩:=q;exact⟨h9,_,I2.B2 e (I.IS hd mu),q⟩
 |ret v=>obtain⟨x,h9,H',I2,r,e,q⟩:=q;exact⟨x,h9,_,I2.B2 e (I.IS hd mu),r,q⟩
theorem WI{e:Expr}{t:TE}(h:PE X e t):PE X e (aaP t):=by intro pins s σ H Q I hw;obtain⟨d,u,hd,mu,hw⟩:=hw;obtain⟨od,I1⟩:=I.afq hd mu;refine fJ (h pins s σ _ _ I1 (hw od)) λv s1 ⟨x,H1,I2,r,e2,q⟩=>?_;exact⟨x,_,I2.B2 e2 (I.IS hd mu),r,q⟩
theorem K_{tg:Expr}{pins:List (ah×gS)}{σ:St}{H:Hp}{s:aA}{R:It->Hp->Prop}{J:It}{tn:Nat->cX->Prop}{tk:Nat}(I:Inv X pins σ H s)(o:gS)(T:Fy X.prog X.w X.K tg J [s.heap.objs.size] s.heap.objs.size tn)(st:tn 0 (s.heap.push o))(q:R J H):PIE X pins σ tg R (.ref s.heap.objs.size) {s with heap:=s.heap.push o,toks:=tk}:=by
 refine⟨s.heap.objs.size,[s.heap.objs.size],tn,J,H,rfl,I.k4 λb ob e=>aI _ e,T,st,λb hb=>?_,q⟩;have e:b=s.heap.objs.size:=by simpa using hb
 subst e;exact I.OW (aB _) (I.d5.fresh (aB _))
end
def Itc(lo c:Int)(n:Nat):It:=⟨λi _=>i<n,λi H x H'=>H'=H/\x= .int (lo+(i:Nat)*c),λi _=>n<=i⟩
theorem IT{P:a7}{w:bP}{K:ak}{tg:Expr}(it:ah)(lo c:Int)(n:Nat):Fy P w K tg (Itc lo c n) [it] it (λi h=>Hm h it (lo+(i:Nat)*c) ((n:Int)-(i:Nat)) c) where
 mem:=by simp
 obj:= λi h st b hb=>by
  have e:b=it:=by simpa using hb
  subst e;exact⟨_,st,λv z=>nomatch z⟩
 keep:= λi h h' st k=>k it (by simp) _ st
 item:=by intro X hP hw hK hc i pins s σ H E I hf st hg;subst hP hw hK;obtain⟨f0,f1,f2,f3,f4,f5⟩:=hf it (by simp);have W:=aec (prog:=X.prog) (w:=X.w) (I.ok.hd hc) it lo c n;refine W.item i s _ _ hg st λv h' tk hv zJ kk=>?_;obtain⟨t,rfl⟩:=hv;have I1:Inv X pins σ H {s with heap:=h',toks:=tk}:=I.mM (λb o hb e=>kk b o (by simpa using hb) e) f0 f1 f3 f4 f5;exact⟨_,rfl,Iq (s:={s with heap:=h',toks:=tk}) (n:="range_iterator") zJ rfl rfl (by decide) ⟨.int (lo+(i:Nat)*c),H,I1,⟨t,rfl⟩,⟨rfl,rfl⟩,zJ,λb hb=>(hf b hb).1⟩⟩
 done:=by intro X hP hw hK hc i pins s σ H E I hf st hg;subst hP hw hK;obtain⟨f0,f1,f2,f3,f4,f5⟩:=hf it (by simp);exact Vd (I.ok.hd hc) st (by have:n<=i:=hg;omega) λh' eb=>⟨rfl,I.mM (t':=s.toks) (λb o hb e=>eb b o hb e) f0 f1 f3 f4 f5⟩
 Ds:= λA i s Q E st h=>Ve st h
def RgC(i j c:Int)(n:Nat):Prop:=c≠0/\c.natAbs<1073741824/\C7 i j c=true/\ln i j c=n
inductive aaQ(R:It->Hp->Prop)(vs:List V)(H1:Hp):Prop
 |mk (i j c:Int) (n:Nat) (_:vs=[.int i,.int j,.int c]) (_:RgC i j c n) (_:R (Itc i c n) H1)
def aft(ta:TA):TI:= λσ H R=>ta σ H λvs H1=>aaQ R vs H1
section
variable{X:Cx}{tg:Expr}
theorem Pa{a b c:Expr}{ta:TA}{p pos:mZ}(hg:Gl X "range")(hm:X.mg "range"=none)(ha:PA X [a,b,c] ta)(hs:cn [a,b,c] X.bW=(false,fL a X.bW)::cn [b,c] X.bW:=by rfl)(wx:(jd pos (cn [b,c] X.bW)).any (·.1)=false:=by rfl):PI X tg (.Call (.Name "range" p) [a,b,c] [] pos) (aft ta):=by
 intro pins s σ H R I h;refine Call_ (rZ I hg hm ac8 (fC (fJ (ha pos pins s σ H _ I h) λus s1 ⟨vs,H1,I1,r1,q1⟩=>?_) hs wx));obtain⟨i,j,k,n,e,⟨c0,c1,c2,c3⟩,q⟩:=q1;subst e;cases r1 with
 |cons r rr=>
  cases rr with
  |cons r' rr=>
   cases rr with
   |cons r'' rr=>
    cases rr;obtain⟨t,rfl⟩:=r;obtain⟨t',rfl⟩:=r';obtain⟨t'',rfl⟩:=r'';refine call_range_3 c0 ?_ (.inl (PyProof.noPylong_small c1));refine ac7 (ZL ..) c2 ?_;have I2:Inv X pins σ H1 {s1 with heap:=s1.heap.push {cls:= .type "range",data:= .fields #[.int i t,.int j t',.int k t'']}}:=I1.k4 (t':=s1.toks) λb o e=>aI _ e;refine K_ (tk:=s1.toks) I2 _ (IT _ i k n) ?_ q;have e1:i+((0:Nat):Int)*k=i:=by simp
    have e2:(n:Int)-((0:Nat):Int)=ln i j k:=by rw[c3];simp
    show Hm _ _ (i+((0:Nat):Int)*k) ((n:Int)-((0:Nat):Int)) k;rw[e1,e2];exact ba _ rfl
end
theorem K'{lo c:Int}{n:Nat}{g:TG}{tb:TS}{D:rX}{σ:St}{H:Hp}(Pv:Nat->St->Hp->Prop)(h0:Pv 0 σ H)(hs:∀i σ H,i<n->Pv i σ H->g (.int (lo+(i:Nat)*c)) σ H λkh H2=>tb {D with nx:=Pv (i+1),ct:=Pv (i+1),bk:=D.nx} kh H2)(hd:∀σ H,Pv n σ H->D.nx σ H):∃W:Nat->Nat->St->Hp->Prop,(∃m,W 0 m σ H)/\∀i m σ H,W i m σ H->((Itc lo c n).stop i H/\D.nx σ H)\/((Itc lo c n).go i H/\∃N:St->Hp->Prop,(∀h9 H',N h9 H'->∃m',m'<m/\W (i+1) m' h9 H')/\∀x H',(Itc lo c n).Ip i H x H'->g x σ H' λkh H2=>tb {D with nx:=N,ct:=N,bk:=D.nx} kh H2):=by
 refine⟨λi m σ H=>m=n-i/\i<=n/\Pv i σ H,⟨n,by simp,bj _,h0⟩,?_⟩;rintro i m σ H ⟨rfl,hi,p⟩;by_cases f8:i<n
 ·refine .inr ⟨f8,Pv (i+1),λh9 H' p'=>⟨n-(i+1),by omega,rfl,f8,p'⟩,λx H' y=>?_⟩;obtain⟨e,y⟩:=y;subst e y;exact hs i σ _ f8 p
 ·have e:i=n:=by omega
  subst e;exact .inl ⟨aB _,hd σ H p⟩
section
variable{prog:a7}{w:bP}{A:cT}{E:aj->aA->Prop}{s:aA}
theorem Pb{d:ah}{o:gS}{es:Array fP}{ep:Nat}{Q:aj->aA->Prop}(hd:(d==db)=false)(ho:s.heap.get? d=some o)(hc:o.ExactDict)(RO:o.data= .dict es ep)(hQ:Q (.ref s.heap.objs.size) {s with heap:=s.heap.push {cls:= .type "dict_keyiterator",data:= .fields #[.ref d,.int 0 0,.int es.size 0,.int ep 0]}}):aX (bA prog w) A (zk (.ref d)) Q E s:=by have hT:s.TypeIs (.ref d) "dict":=⟨o,ho,hc.1⟩;refine DZ hT DY (eG DY hT F.entry_dict_iter ?_ (F.args_dict_iter_1 _));unfold Builtin.«dict.__iter__»;refine ae ?_;unfold ajI;refine ae (lz hT ?_);show aX _ _ (i4 (aY d)) _ _ s;refine au ?_;show aX _ _ (jt d>>=_) _ _ s;unfold jt;rw[if_neg (by rw[hd];exact bn)];refine ae (au ?_);refine ae (dL ho RO ?_);refine ae (jf ho RO ?_);refine ae (dz (au ⟨_,rfl,"dict_keyiterator",_,⟨_,ba _ rfl,rfl⟩,hZ.lookup,?_⟩));simpa[pi]using hQ
theorem Dy{it d:ah}{i n ep:Nat}{od:gS}{es:Array fP}{en:fP}{Q:Option aj->aA->Prop}(jx:s.heap.IsKeyIter it d i n ep)(Ak:s.heap.get? d=some od)(wv:od.data= .dict es ep)(hsz:es.size=n)(hx:es[i]? =some en)(hQ:∀h',h'.IsKeyIter it d (i+1) n ep->df it s.heap h'->Q (some en.key) {s with heap:=h'}):aX (bA prog w) A (jF (.ref it)) Q E s:=by
 obtain⟨o,ho,hc,hd⟩:=id jx;unfold jF;refine ae (mX (h_ (name:=eJ "__next__") jx.typeIs hZ (eG hZ jx.typeIs EY ?_ (D_ _))));refine ae (au ?_);refine ae ?_;refine ae ?_
 first|refine ae (ky jx.typeIs (au ?_))|refine ae (m3 jx.typeIs (au ?_))
 refine ae (oi ho hd ?_);have KC:gg "dict_keyiterator"=false:=by decide
 simp only[KC,cB,if_false];show aX _ _ (if(aY d==dI)=true then _ else _) _ _ s;rw[if_neg (show¬((aY d==dI)=true)from bn)];refine ae (au ?_);refine ae (dL Ak wv ?_);rw[if_neg (by rw[hsz];simp)];refine ae (au ?_);refine ae (jf Ak wv ?_);rw[if_neg (by simp)];refine au ?_;obtain⟨Z0,hen⟩:=pN.mp hx;simp only[show¬((i:Int)<0)from by omega,if_false,i5,lA Z0];refine ae ?_
 first|refine ae (ky jx.typeIs (au ?_))|refine ae (m3 jx.typeIs (au ?_))
 refine ae (VO jx.typeIs ?_);show aX _ _ (zo (.ref it) 1 (pi ((i:Int)+1))>>=_) _ _ s;refine ae (sD ho hd (by simp) ?_);have Db:(s.heap.update it (aej (·.setIfInBounds 1 (pi ((i:Int)+1))))).IsKeyIter it d (i+1) n ep:=
  ⟨_,cu _ ho (gS.isFreed_of_fields (Vl hd _)),(gS.cls_mapFields ..).trans hc,by rw[Vl hd];simp[pi]⟩
 refine ae (dP ?_);refine ae (VO (s:={s with heap:=s.heap.update it (aej (·.setIfInBounds 1 (pi ((i:Int)+1))))}) Db.typeIs ?_);show aX _ _ (i4 es[i].key) _ _ _;rw[hen];exact au (au ⟨_,rfl,au (hQ _ Db (cy ..))⟩)
theorem FN{it d:ah}{i n ep:Nat}{od:gS}{es:Array fP}{Q:Option aj->aA->Prop}(hh:A.handled=none)(jx:s.heap.IsKeyIter it d i n ep)(Ak:s.heap.get? d=some od)(wv:od.data= .dict es ep)(hsz:es.size=n)(hge:n<=i)(hQ:∀h',Oa it s.heap h'->Q none {s with heap:=h'}):aX (bA prog w) A (jF (.ref it)) Q E s:=by
 obtain⟨o,ho,hc,hd⟩:=id jx;unfold jF;refine ae (mX (h_ (name:=eJ "__next__") jx.typeIs hZ (eG hZ jx.typeIs EY ?_ (D_ _))));refine ae (au ?_);refine ae ?_;refine ae ?_
 first|refine ae (ky jx.typeIs (au ?_))|refine ae (m3 jx.typeIs (au ?_))
 refine ae (oi ho hd ?_);have KC:gg "dict_keyiterator"=false:=by decide
 simp only[KC,cB,if_false];show aX _ _ (if(aY d==dI)=true then _ else _) _ _ s;rw[if_neg (show¬((aY d==dI)=true)from bn)];refine ae (au ?_);refine ae (dL Ak wv ?_);rw[if_neg (by rw[hsz];simp)];refine ae (au ?_);refine ae (jf Ak wv ?_);rw[if_neg (by simp)];refine au ?_;have ala:es.size<=i:=by rw[hsz];exact hge
 simp only[show¬((i:Int)<0)from by omega,if_false,i5,J5 ala];refine ae ?_
 first|refine ae (ky jx.typeIs (au ?_))|refine ae (m3 jx.typeIs (au ?_))
 show aX _ _ (zo (.ref it) 0 .none>>=_) _ _ s;refine ae (sD ho hd (by simp) ?_);show aX _ _ (Va (.type "StopIteration") []>>=_) _ _ _;refine ae ?_;simp only[Va,newTuple];refine ae (dz ?_ (by size_fits));refine ae (m:=ol _ _) (ji (a:=dI) (by first|rfl|(simp only[ol];rfl)) ?_);refine dz ?_ (by size_fits);simp only[raiseNew];refine ae (QB ?_);rw[show A.in1.handled=none from hh];refine ae (au (X9 ?_));refine ae (gO (T:="StopIteration") (b:=true) ⟨_,ba _ rfl,rfl⟩ Mi ?_);exact au (hQ _ (((cy ..).extBut.push _).push _))
end
theorem fV{α β:Type}{G:α->β->Prop}{OR:List α}{OS:List β}(h:Paired G OR OS):∀{i:Nat}{a:α},OR[i]? =some a->∃b,OS[i]? =some b/\G a b:=by
 induction h with
 |nil=>intro i a e;simp at e|@cons a b OR OS r t ih=>
  intro i a' e;cases i with|zero=>simp only[J2,Hi]at e;subst e;exact⟨b,rfl,r⟩|succ j=>simp only[gU]at e ⊢;exact ih e
theorem Na{o:gS}{es Yn:Array fP}{ep Vp:Nat}(h:o.data= .dict es ep)(h':o.data= .dict Yn Vp):Yn=es/\Vp=ep:=by rw[h]at h';cases h';exact⟨rfl,rfl⟩
def Vt(K:ak)(a:ah):It:=⟨λi H=>∃(xs:List V)(x:V),cv K H a xs/\xs[i]? =some x,λi H v H'=>∃T x,v= .ref T/\H T=none/\H'=aP H T (.bV [.int (i:Nat),x])/\∀xs,cv K H a xs->xs[i]? =some x,λi H=>∃xs:List V,cv K H a xs/\xs.length<=i⟩
theorem Pc{P:a7}{w:bP}{K:ak}{IU:List Expr}{kk:Nat}{Dt:mZ}(a e it:ah):Fy P w K (.Tuple IU kk Dt) (Vt K a) [e,it] e (λi h=>(∃old,IsEnum h e it ((i:Nat):Int) old)/\h.IsListIter it a i/\e≠it) where
 mem:=by simp
 obj:= λi h st b hb=>by
  obtain⟨⟨old,he⟩,⟨o,ho,hc,hd⟩,_⟩:=st;have e':b=e\/b=it:=by simpa using hb
  rcases e' with z|z
  ·rw[z];exact⟨_,he,λv q=>nomatch q⟩
  ·rw[z];exact⟨o,ho,λv q=>by rw[hd]at q;cases q⟩
 keep:= λi h h' st k=>let⟨⟨old,he⟩,hi,j8⟩:=st;⟨⟨old,k e (by simp) _ he⟩,hi.at λo q=>k it (by simp) o q,j8⟩
 item:=by
  intro X hP hw hK hc i pins s σ H E I hf st hg;subst hP hw hK;obtain⟨⟨old,he⟩,jx,j8⟩:=st;obtain⟨xs,x,hq,hx⟩:=hg;obtain⟨cc,rv,p,hz⟩:=I.list hq;obtain⟨u,hu,ru⟩:=rv.get hx;have hel:e<s.heap.objs.size:=bw he;have Yl:it<s.heap.objs.size:=by obtain⟨_,q,_⟩:=jx;exact bw q
  refine wpAny_pyNext_enum_item he jx p.isList (x:=u) (by simpa using hu) j8 λh' ho Db hT hsz hk=>?_;refine⟨_,rfl,wpAny_letOwnedTupleGo_enum (s:={s with heap:=h',toks:=s.toks+1}) ho λAl V8 sb=>?_⟩;have hT2:Al.get? s.heap.objs.size=some {cls:= .type "tuple",data:= .seq #[.int i s.toks,u]}:=(sb.2 _ (pO hel)).trans hT;have new:ie X.prog X.w (aP H s.heap.objs.size (.bV [.int (i:Nat),x])) Al s.heap.objs.size (.bV [.int (i:Nat),x]):=
   ⟨by show 2<=al;decide,[.int i s.toks,u],.cons ⟨_,rfl⟩ (.cons ru .nil),⟨_,hT2,rfl,_,rfl⟩⟩
  have I1:Inv X pins σ (aP H s.heap.objs.size (.bV [.int (i:Nat),x])) {s with heap:=Al,toks:=s.toks+1}:=
   I.Ez (ch:=[e,it]) (λb ob hb q=>(sb.2 b (λz=>hb (by simp[z]))).trans (hk b ob (λz=>hb (by simp[z])) (λz=>hb (by simp[z])) q)) hf (aB _) new
  refine⟨.ref s.heap.objs.size,_,I1,rfl,⟨_,x,rfl,I.d5.fresh (aB _),rfl,λys hy=>by rw[I.Im hy hq];exact hx⟩,⟨⟨u,?_⟩,Db.at λo q=>(sb.2 it (iN j8)).trans q,j8⟩,λb hb=>?_⟩
  ·have e1:((i+1:Nat):Int)=(i:Int)+1:=by omega
   rw[e1];exact V8
  ·have HS:b<s.heap.objs.size:=by
    have e':b=e\/b=it:=by simpa using hb
    rcases e' with z|z
    ·rw[z];exact hel
    ·rw[z];exact Yl
   rw[aF (b4 HS)];exact(hf b hb).1
 done:=by intro X hP hw hK hc i pins s σ H E I hf st hg;subst hP hw hK;obtain⟨⟨old,he⟩,jx,j8⟩:=st;obtain⟨xs,hq,hx⟩:=hg;obtain⟨cc,rv,p,hz⟩:=I.list hq;obtain⟨f0,f1,f2,f3,f4,f5⟩:=hf it (by simp);have hl:=rv.length;exact wpAny_pyNext_enum_end (I.ok.hd hc) he jx p.isList (by simp;omega) λh' eb=>⟨rfl,I.mM (t':=s.toks) (λb o hb q=>eb b o hb q) f0 f1 f3 f4 f5⟩
 Ds:= λA i s Q E st h=>let⟨⟨_,he⟩,_⟩:=st;aek he h
inductive aaR(K:ak)(R:It->Hp->Prop)(vs:List V)(H1:Hp):Prop
 |mk (a xs:_) (_:vs=[.ref a]) (_:cv K H1 a xs) (_:R (Vt K a) H1)
def afu(K:ak)(ta:TA):TI:= λσ H R=>ta σ H λvs H1=>aaR K R vs H1
theorem xo{X:Cx}{e:Expr}{ta:TA}{p pos Dt:mZ}{IU:List Expr}{kk:Nat}(hg:Gl X "enumerate")(hm:X.mg "enumerate"=none)(ha:PA X [e] ta)(hs:cn [e] X.bW=[(false,fL e X.bW)]:=by rfl):PI X (.Tuple IU kk Dt) (.Call (.Name "enumerate" p) [e] [] pos) (afu X.K ta):=by
 intro pins s σ H R I h;refine Call_ (rZ I hg hm boot_enumerate (fC (fJ (ha pos pins s σ H _ I h) λus s1 ⟨vs,H1,I1,r1,q1⟩=>?_) hs rfl));obtain⟨a,xs,ex,hq,q⟩:=q1;subst ex;cases r1 with
 |cons r rr=>
  cases rr;cases r;obtain⟨cc,rv,p',hz⟩:=I1.list hq;refine call_enumerate_list p'.isList λh' he jx hsz hk=>aek he ?_;have I2:Inv X pins σ H1 {s1 with heap:=h'}:=I1.k4 (t':=s1.toks) hk;refine⟨s1.heap.objs.size+1,[s1.heap.objs.size+1,s1.heap.objs.size],_,_,H1,rfl,I2,Pc a (s1.heap.objs.size+1) s1.heap.objs.size,⟨⟨.none,he⟩,jx,Nat.succ_ne_self _⟩,λb hb=>?_,q⟩;have e':b=s1.heap.objs.size+1\/b=s1.heap.objs.size:=by simpa using hb
  have yM:s1.heap.objs.size<=b:=by
   rcases e' with z|z
   ·rw[z];exact Nat.le_add_right _ _
   ·rw[z];exact aB _
  exact I1.OW yM (I1.d5.fresh yM)
def sg(s:dZ)(j:Nat):dZ:=match s with| .ClassDef _ _ _ body _ _ _ _ _ _ _=>body.getD j (.Pass ⟨0,0,0,0⟩)|_=> .Pass ⟨0,0,0,0⟩
def k6(s:dZ):Arguments:=match s with| .FunctionDef _ a _ _ _ _ _ _ _ _=>a|_=>{posonlyargs:=[],args:=[],vararg:=none,kwonlyargs:=[],kw_defaults:=[],kwarg:=none,defaults:=[]}
def j_(s:dZ):List dZ:=match s with| .FunctionDef _ _ b _ _ _ _ _ _ _=>b|_=>[]
def a5(s:dZ):mY:=match s with| .FunctionDef _ _ _ _ _ _ sc _ _ _=>sc|_=>{kind:= .function,names:=[],isGenerator:=false,isCoroutine:=false}
abbrev ki:QI:= λ_ _ _ _ _ _=>False
abbrev E0:XK:= λ_ _ _=>False
theorem Nb{X:Cx}:vV ki X E0:= λ_ _ _ _ _ _ _ h=>h.elim
structure lg(K:ak)(x qual:bT)(st:dZ)(f:ah)(fd:fR):Prop where
 ex:∃(oc:aj)(od:Option ah)(kV doc pm:aj)(an:Option ah)(gl ct:aj)(BU:Array (Option aj)),
  fd=eZ x qual (k6 st) (j_ st) (a5 st) .none kV doc pm an gl ct/\K.lookup f=some ⟨oc,od,.func fd,BU⟩/\je K gl qual=true
 kp:fk K (.ref f)=true
section
variable{P:a7}{w:bP}{K:ak}{mg:bT->Option aj}{base:cX}
theorem lg.ok{x qual:bT}{st:dZ}{f:ah}{fd:fR}{N ps:List bT}{k:Nat}{sp:Sp}(F:lg K x qual st f fd)(S:bU N ps (a5 st))(fD:∀vs H Q E,sp vs H Q E->vs.length=ps.length)(Si:∀(gl:aj)(A:cT)(bN:List Mj)(s:aA)(H:Hp)(vs:List V)(Q:VK)(E:XK),lO k (A.deeper (CS qual (a5 st) s.heap.objs.size f gl))->sp vs H Q E->∃t,OU (O2 ki P w K mg base N qual (a5 st) f gl A bN s H E).nox (j_ st) t/\t {nx:= λ_ H'=>Q .non H',rt:=Q} (start N vs) H):dQ P w K mg base ki (k+1) f fd ps sp:=by obtain⟨oc,od,kV,doc,pm,an,gl,ct,BU,rfl,lk,RL⟩:=F.ex;refine ae8 lk RL S fD λA bN s H vs Q E hr O4=>?_;obtain⟨t,h,q⟩:=Si gl A bN s H vs Q E hr O4;exact⟨t,h.nox,q⟩
theorem lg.xh{x qual:bT}{st:dZ}{f:ah}{fd:fR}{ps:List bT}(F:lg K x qual st f fd)(h:∀(kV doc pm:aj)(an:Option ah)(gl ct:aj)(us:List aj),us.length=ps.length->Mn (eZ x qual (k6 st) (j_ st) (a5 st) .none kV doc pm an gl ct) ⟨us,[]⟩=i4 (ps.zip us)):Binds K fd ps []:=by obtain⟨oc,od,kV,doc,pm,an,gl,ct,BU,rfl,lk,RL⟩:=F.ex;exact .all (h kV doc pm an gl ct)
theorem FP{x qual:bT}{st:dZ}{f:ah}{oc:aj}{od an:Option ah}{BU:Array (Option aj)}{kV doc pm gl ct:aj}(l:K.lookup f=some ⟨oc,od,.func (eZ x qual (k6 st) (j_ st) (a5 st) .none kV doc pm an gl ct),BU⟩)(c:je K gl qual=true)(k:fk K (.ref f)=true):lg K x qual st f (eZ x qual (k6 st) (j_ st) (a5 st) .none kV doc pm an gl ct):=⟨⟨oc,od,kV,doc,pm,an,gl,ct,BU,rfl,l,c⟩,k⟩
end
theorem m5{A:cT}{k:Nat}(hr:lO k A):A.units+1<iw:=d8 (Q4 (by decide:1<=64) _) hr.units
section
variable{X:Cx}
theorem pv(i:Nat){x:bT}{pos:mZ}(hN:X.N[i]? =some x:=by rfl)(hv:Vis X.bW.scope x:=by first|exact l8 rfl|exact mU (l8 rfl)|exact mU (mU rfl))(hd:(x==("__debug__":bT))=false:=by decide)(RL:(x==("__classdict__":bT))=false:=by decide):PE X (.Name x pos) (rY i):=aac hN hv hd RL
end
theorem alc{A B:Prop}(h:B):if false=true then A else B:=by rw[if_neg bn];exact h
def aE(H H':Hp):Prop:=∀b o,H b=some o->H' b=some o
theorem aE.trans{H H1 H2:Hp}(a:aE H H1)(b:aE H1 H2):aE H H2:= λc o h=>b c o (a c o h)
theorem aE.free{H H':Hp}(e:aE H H'){l:ah}(h:H' l=uX):H l=uX:=by
 cases q:H l with|none=>rfl|some o=>rw[e l o q]at h;cases h
theorem aE.seq{K:ak}{H H':Hp}{a:ah}{xs:List V}(e:aE H H')(h:cv K H a xs):cv K H' a xs:=by
 rcases h with(h|⟨o,h⟩)|h
 ·exact .inl (.inl (e _ _ h))
 ·exact .inl (.inr ⟨o,e _ _ h⟩)
 ·exact .inr h
theorem SD{xs:List V}{z:Int}{j:Nat}{v:V}(e:z=(j:Int))(h:xs[j]? =some v):Ws xs z=some v:=by rw[e];exact aN h
theorem afv{α:Type}{l:List α}(hN:l.Nodup){i j:Nat}{x:α}(a:l[i]? =some x)(b:l[j]? =some x):i=j:=by obtain⟨h1,e1⟩:=ao.mp a;obtain⟨h2,e2⟩:=ao.mp b;exact(VL hN).mp (e1.trans e2.symm)
theorem aE.K1{H H1:Hp}{x dx C:ah}(nx:H x=uX)(nd:H dx=uX)(k:∀b o,(aP (aP H dx (.own x)) x (.gc C dx [])) b=some o->b≠x->H1 b=some o):aE H H1:= λb o e=>k b o (by rw[aF (aH e nx),aF (aH e nd)];exact e) (aH e nx)
section
variable{prog:a7}{w:bP}{A:cT}{E:aj->aA->Prop}{s:aA}{l:ah}{cc:List aj}{ns:List Int}{d:aj}{Q:aj->aA->Prop}
theorem Pd(hh:A.handled=none)(hl:s.heap.IsList l cc.toArray)(hi:rf cc ns)(h0:ns=[]->∀h' tk,(∀b o,s.heap.get? b=some o->h'.get? b=some o)->Q d {s with heap:=h',toks:=tk})(h:∀h' tk m t',(∀b o,s.heap.get? b=some o->h'.get? b=some o)->m∈ns->(∀a,a∈ns->m<=a)->Q (.int m t') {s with heap:=h',toks:=tk}):aX (bA prog w) A (call (.builtin "min") [.ref l] [(eJ "default",d)]) Q E s:=by
 obtain⟨xs,e⟩:=hi.allInts.items;have hn:numsOf (lX xs).toList=ns:=by rw[<-e];exact hi.numsOf
 rw[QE]at hn;subst hn;rw[e]at hl;refine Ex.yD (iter_intList hl λs2 e2 st MF hlI=>?_);subst e2;refine⟨_,_,_,_,_,_,_,rfl,D9 (A:=A.in1) hh _ l hlI (lX xs),st,MF,CmpOf.ints_lt (Q5 xs) (λ_ _=>Ht),λhz h' tk hk=>?_,λhz v h' tk hP hk=>?_⟩
 ·refine h0 ?_ h' tk (Ya hk);have Wz:xs.size=0:=by simpa[lX]using hz
  rw[jh];exact CT (by rw[cY];exact Wz)
 ·have hsz:0<xs.size:=by simpa[lX]using hz
  have KD:(lX xs)[jV (λi j=>decide (Q5 xs i<Q5 xs j)) (xs.size-1)]? =some v:=by simpa[lX]using hP
  obtain⟨t,rfl⟩:=Ht KD;obtain⟨h1,h2⟩:=argBest_lt (Q5 xs) (xs.size-1);refine h h' tk _ t (Ya hk) ?_ λa ha=>?_
  ·rw[Yb];exact Yc (by rw[aq,cY];omega)
  ·obtain⟨j,hj,rfl⟩:=mem_getD ha;rw[aq,cY]at hj;rw[<-Yb];exact h2 j (by omega)
theorem Pe(hh:A.handled=none)(hl:s.heap.IsList l cc.toArray)(hi:rf cc ns)(h0:ns=[]->∀h' tk,(∀b o,s.heap.get? b=some o->h'.get? b=some o)->Q d {s with heap:=h',toks:=tk})(h:∀h' tk m t',(∀b o,s.heap.get? b=some o->h'.get? b=some o)->m∈ns->(∀a,a∈ns->a<=m)->Q (.int m t') {s with heap:=h',toks:=tk}):aX (bA prog w) A (call (.builtin "max") [.ref l] [(eJ "default",d)]) Q E s:=by
 obtain⟨xs,e⟩:=hi.allInts.items;have hn:numsOf (lX xs).toList=ns:=by rw[<-e];exact hi.numsOf
 rw[QE]at hn;subst hn;rw[e]at hl;refine Ex.yC (iter_intList hl λs2 e2 st MF hlI=>?_);subst e2;refine⟨_,_,_,_,_,_,_,rfl,D9 (A:=A.in1) hh _ l hlI (lX xs),st,MF,CmpOf.ints_gt (Q5 xs) (λ_ _=>Ht),λhz h' tk hk=>?_,λhz v h' tk hP hk=>?_⟩
 ·refine h0 ?_ h' tk (Ya hk);have Wz:xs.size=0:=by simpa[lX]using hz
  rw[jh];exact CT (by rw[cY];exact Wz)
 ·have hsz:0<xs.size:=by simpa[lX]using hz
  have KD:(lX xs)[jV (λi j=>decide (Q5 xs i>Q5 xs j)) (xs.size-1)]? =some v:=by simpa[lX]using hP
  obtain⟨t,rfl⟩:=Ht KD;obtain⟨h1,h2⟩:=argBest_gt (Q5 xs) (xs.size-1);refine h h' tk _ t (Ya hk) ?_ λa ha=>?_
  ·rw[Yb];exact Yc (by rw[aq,cY];omega)
  ·obtain⟨j,hj,rfl⟩:=mem_getD ha;rw[aq,cY]at hj;rw[<-Yb];exact h2 j (by omega)
end
def SE(K:ak)(a:ah)(n:Nat):It:=⟨λi H=>i<n/\∃(xs:List V)(x:V),eh K H a xs/\xs.length=n/\xs[n-1-i]? =some x,λi H x H'=>H'=H/\∀xs,eh K H a xs->xs[n-1-i]? =some x,λi _=>n<=i⟩
theorem SF{P:a7}{w:bP}{K:ak}{tg:Expr}(a it:ah)(n:Nat):Fy P w K tg (SE K a n) [it] it (λi h=>i<=n/\Ex.OM h it a ((n:Int)-1-(i:Nat))) where
 mem:=by simp
 obj:= λi h st b hb=>by
  have e:b=it:=by simpa using hb
  subst e;exact⟨_,st.2,λv z=>by cases z⟩
 keep:= λi h h' st k=>⟨st.1,k it (by simp) _ st.2⟩
 item:=by
  intro X hP hw hK hc i pins s σ H E I hf st hg;subst hP hw hK;obtain⟨Fn,xs,x,hq,hl,hx⟩:=hg;obtain⟨cc,rv,p,hz⟩:=I.tuple hq;obtain⟨u,hu,ru⟩:=rv.get hx;obtain⟨f0,f1,f2,f3,f4,f5⟩:=hf it (by simp);obtain⟨_,jx⟩:=st;have dX:=rv.length;have BW:=vU;have e1:(n:Int)-1-((i:Nat):Int)=((n-1-i:Nat):Int):=by omega
  rw[e1]at jx;refine Ex.Fs jx p (by simp only[a9];omega) (x:=u) (by simpa using hu) λh' zJ sb=>?_;have e2:((n-1-i:Nat):Int)-1=(n:Int)-1-((i+1:Nat):Int):=by omega
  rw[e2]at zJ;have I1:Inv X pins σ H {s with heap:=h',toks:=s.toks+1}:=I.mM (λb o hb e=>(sb.2 b hb).trans e) f0 f1 f3 f4 f5;exact⟨u,rfl,Iq (s:={s with heap:=h',toks:=s.toks+1}) zJ rfl rfl (by decide) ⟨x,H,I1,ru,⟨rfl,λys hy=>by rw[I.En hy hq];exact hx⟩,⟨Fn,zJ⟩,λb hb=>(hf b hb).1⟩⟩
 done:=by
  intro X hP hw hK hc i pins s σ H E I hf st hg;subst hP hw hK;obtain⟨f0,f1,f2,f3,f4,f5⟩:=hf it (by simp);obtain⟨Fn,jx⟩:=st;have hge:n<=i:=hg;have e1:(n:Int)-1-((i:Nat):Int)= -1:=by omega
  rw[e1]at jx;exact Ex.Ig (I.ok.hd hc) jx λh' eb=>⟨rfl,I.mM (t':=s.toks) (λb o hb e=>eb b o hb e) f0 f1 f3 f4 f5⟩
 Ds:= λA i s Q E st h=>Ex.ME st.2 h
inductive afw(K:ak)(R:It->Hp->Prop)(vs:List V)(H1:Hp):Prop
 |mk (a:ah) (xs:List V) (_:vs=[.ref a]) (_:eh K H1 a xs) (_:R (SE K a xs.length) H1)
def ale(K:ak)(ta:TA):TI:= λσ H R=>ta σ H λvs H1=>afw K R vs H1
section
variable{X:Cx}{tg:Expr}
theorem SG{e:Expr}{ta:TA}{p pos:mZ}(hg:Gl X "reversed")(hm:X.mg "reversed"=none)(ha:PA X [e] ta)(hs:cn [e] X.bW=[(false,fL e X.bW)]:=by rfl):PI X tg (.Call (.Name "reversed" p) [e] [] pos) (ale X.K ta):=by
 intro pins s σ H R I h;refine Call_ (rZ I hg hm B1 (fC (fJ (ha pos pins s σ H _ I h) λus s1 ⟨vs,H1,I1,r1,q1⟩=>?_) hs rfl));obtain⟨a,xs,e,hq,q⟩:=q1;subst e;obtain⟨u,rfl,r⟩:=vals1 r1;obtain rfl:u=aY a:=r;obtain⟨cc,rv,p',hz⟩:=I1.tuple hq;have hl:=rv.length;have BW:=vU;have e1:((cc.toArray.size:Nat):Int)-1=(xs.length:Int)-1-((0:Nat):Int):=by simp only[a9];omega
 refine Ex.V' p' (by simp only[a9];omega) (Ex.ME (t:=a) (i:=((cc.toArray.size:Nat):Int)-1) (ba _ rfl) ?_);refine K_ (tk:=s1.toks+1+1) I1 _ (SF a _ xs.length) ⟨bj _,?_⟩ q;rw[<-e1];exact ba _ rfl
end
theorem Nc{K:ak}{a:ah}{xs:List V}{g:TG}{tb:TS}{D:rX}{σ:St}{H:Hp}(Pv:Nat->St->Hp->Prop)(h0:Pv 0 σ H)(hl:∀i σ H,i<=xs.length->Pv i σ H->eh K H a xs)(hs:∀i x σ H,i<xs.length->xs[xs.length-1-i]? =some x->Pv i σ H->g x σ H λkh H2=>tb {D with nx:=Pv (i+1),ct:=Pv (i+1),bk:=D.nx} kh H2)(hd:∀σ H,Pv xs.length σ H->D.nx σ H):∃W:Nat->Nat->St->Hp->Prop,(∃m,W 0 m σ H)/\∀i m σ H,W i m σ H->((SE K a xs.length).stop i H/\D.nx σ H)\/((SE K a xs.length).go i H/\∃N:St->Hp->Prop,(∀h9 H',N h9 H'->∃m',m'<m/\W (i+1) m' h9 H')/\∀x H',(SE K a xs.length).Ip i H x H'->g x σ H' λkh H2=>tb {D with nx:=N,ct:=N,bk:=D.nx} kh H2):=by
 refine⟨λi m σ H=>m=xs.length-i/\i<=xs.length/\Pv i σ H,⟨xs.length,by simp,bj _,h0⟩,?_⟩;rintro i m σ H ⟨rfl,hi,p⟩;have q:=hl i σ H hi p;by_cases f8:i<xs.length
 ·have hx:xs[xs.length-1-i]? =some xs[xs.length-1-i]:=ay (by omega);refine .inr ⟨⟨f8,xs,_,q,rfl,hx⟩,Pv (i+1),λh9 H' p'=>⟨xs.length-(i+1),by omega,rfl,f8,p'⟩,λx H' y=>?_⟩;obtain⟨e,y⟩:=y;subst e;exact hs i x σ _ f8 (y xs q) p
 ·have e:i=xs.length:=by omega
  exact .inl ⟨by show xs.length<=i;omega,hd σ H (by rw[<-e];exact p)⟩
end L2
namespace Ex
open PySem PyProof.Rows L2
open Sem (wp)
section
variable{prog:a7}{w:bP}{A:cT}{E:aj->aA->Prop}{s:aA}
theorem Pf{d:ah}{Q:Bool->aA->Prop}(hT:s.TypeIs (.ref d) "dict")(h:Q false s):aX (bA prog w) A (yf (.ref d)) Q E s:=by
 unfold yf;refine ae (fT hT F.slot_dict_len.lookup ?_)
 (generalize hid:("dict.__len__":String)=id0;(fail_if_success (clear hid id0));wp_delta;rw[show splitId id0=some ("dict","__len__")from by subst hid;decide+kernel];subst hid)
 refine ae (gO (b:=true) hT ZI ?_);rw[if_neg (by decide)];dsimp only;rw[if_pos (by decide+kernel)];refine ae (U' hT ?_);exact au h
theorem Pg{R:Vb->aA->Prop}{it d S:ah}{n ep:Nat}{od:gS}{es:Array fP}{res:aj}(hh:A.handled=none)(j8:S≠it)(hSd:S≠d)(hdi:d≠it)(wv:od.data= .dict es ep)(hsz:es.size=n)(hn:n<=al):∀(k i:Nat)(s:aA)(acc:Array aj)(c:Nat),n-i=k->i<=n->s.heap.IsKeyIter it d i n ep->s.heap.get? d=some od->s.heap.get? S=some {cls:= .type "list",dict:=none,data:= .seq acc c,slots:= #[]}->acc.toList=(es.toList.take i).map (·.key)->(∀h' c',(∀b o,b≠it->b≠S->s.heap.get? b=some o->h'.get? b=some o)->h'.get? S=some {cls:= .type "list",dict:=none,data:= .seq (es.toList.map (·.key)).toArray c',slots:= #[]}->R (.ok (.ret res)) {s with heap:=h'})->pB (bA prog w) A (.builtin "list.extend.loop" ⟨[.ref S,.ref it,res],[]⟩) R s:=by
 intro k;induction k with
 |zero=>
  intro i s acc c hk hi jx Ak hS Ph hR;refine gE VP ?_;rw[d3 ql _];show aX _ A.in1 (jF (.ref it)>>=_) _ _ s;refine ae (FN (A:=A.in1) hh jx Ak wv hsz (by omega) λh' eb=>au ?_);refine hR h' c (λb o hb _ e=>eb b o hb e) ?_;have e1:acc=(es.toList.map (·.key)).toArray:=by rw[<-Array.toArray_toList (xs:=acc),Ph,e8 (by rw[cY];omega)]
  rw[<-e1];exact eb S _ j8 hS
 |succ k ih=>
  intro i s acc c hk hi jx Ak hS Ph hR;have f8:i<es.size:=by omega
  refine gE VP ?_;rw[d3 ql _];show aX _ A.in1 (jF (.ref it)>>=_) _ _ s;refine ae (Dy (A:=A.in1) jx Ak wv hsz (lA f8) λh' Db sb=>?_);have sZ:h'.get? S=some _:=(sb.2 S j8).trans hS;have alg:h'.get? d=some od:=(sb.2 d hdi).trans Ak;have dX:acc.size=i:=by rw[<-cY,Ph,aq,a4,cY];omega
  show aX _ A.in1 (u_ S (·.push es[i].key)>>=_) _ _ _;refine ae ?_;refine gF (s:={s with heap:=h'}) sZ rfl (au ⟨gX ql _,ih (i+1) _ (acc.push es[i].key) _ (by omega) (by omega) ?_ ?_ (cu _ sZ rfl) ?_ λAl c'' yB alh=>?_⟩) (by omega) (by show(acc.push es[i].key).size<=al+1;rw[Array.size_push];omega)
  ·obtain⟨o,ho,r⟩:=Db;exact⟨o,(bF _ _ j8).trans ho,r⟩
  ·exact(bF _ _ hSd).trans alg
  ·rw[Array.toList_push,Ph,bQ,aK];congr 1;rw[show es.toList[i]? =some es[i] by rw[nI,lA f8]];rfl
  ·exact hR Al c'' (λb o hb CY e=>yB b o hb CY ((bF _ _ (iN CY)).trans ((sb.2 b hb).trans e))) alh
theorem FQ{d:ah}{od:gS}{es:Array fP}{ep:Nat}{Q:List aj->aA->Prop}(hh:A.handled=none)(hd:(d==db)=false)(ho:s.heap.get? d=some od)(hc:od.ExactDict)(wv:od.data= .dict es ep)(hn:es.size<=al)(h:∀h',(∀b o,s.heap.get? b=some o->h'.get? b=some o)->s.heap.objs.size<=h'.objs.size->Q (es.toList.map (·.key)) {s with heap:=h'}):aX (bA prog w) A (collect (.ref d)) Q E s:=by
 have f8:d<s.heap.objs.size:=bw ho;unfold collect;refine ae (wpAny_runValue (gE F.entry_proto_collect ?_));rw[d3 F.plain_proto_collect _];show aX _ A.in1 (newList []>>= λl=>again (.builtin "list.__iadd__" ⟨[l,.ref d],[]⟩)) _ _ s;refine ae (dz (au ⟨gX ZN _,gE F.entry_list_iadd ?_⟩));rw[d3 ZN _];have ho1:(s.heap.push {cls:= .type "list",data:= .seq ([]:List aj).toArray}).get? d=some od:=aI _ ho;have hS1:(s.heap.push {cls:= .type "list",data:= .seq ([]:List aj).toArray}).get? s.heap.objs.size=some {cls:= .type "list",data:= .seq ([]:List aj).toArray}:=ba _ rfl;have j8:s.heap.objs.size≠d:=pO f8;show aX _ A.in1 (yg (.ref s.heap.objs.size) (.ref d) (.ref s.heap.objs.size)) _ _ {s with heap:=s.heap.push {cls:= .type "list",data:= .seq ([]:List aj).toArray}};unfold yg;have hT:ET {s with heap:=s.heap.push {cls:= .type "list",data:= .seq ([]:List aj).toArray}} (.ref d) "dict":=⟨od,ho1,hc.1⟩;refine ae (U' hT ?_);rw[if_neg (by
  have h1:Ab (.ref s.heap.objs.size) (.ref d)=false:=by simp[Ab,j8]
  rw[h1];decide)]
 refine ae (Pb (s:={s with heap:=s.heap.push {cls:= .type "list",data:= .seq ([]:List aj).toArray}}) hd ho1 hc wv ?_);refine ae (dP ?_);have hz1:(s.heap.push {cls:= .type "list",data:= .seq ([]:List aj).toArray}).objs.size=s.heap.objs.size+1:=dU ..;generalize RP:(s.heap.push {cls:= .type "list",data:= .seq ([]:List aj).toArray}).push {cls:= .type "dict_keyiterator",data:= .fields #[.ref d,.int 0 0,.int es.size 0,.int ep 0]}=h2;have ho2:h2.get? d=some od:=by rw[<-RP];exact aI _ ho1
 have hS2:h2.get? s.heap.objs.size=some {cls:= .type "list",dict:=none,data:= .seq #[] 0,slots:= #[]}:=by rw[<-RP];exact aI _ hS1
 have hi2:h2.IsKeyIter (s.heap.objs.size+1) d 0 es.size ep:=⟨{cls:= .type "dict_keyiterator",data:= .fields #[.ref d,.int 0 0,.int es.size 0,.int ep 0]},by rw[<-RP,<-hz1];exact ba _ rfl,rfl,rfl⟩;have Vq:∀b o,s.heap.get? b=some o->h2.get? b=some o:= λb o e=>by rw[<-RP];exact aI _ (aI _ e)
 refine Pf (s:={s with heap:=h2}) ⟨od,ho2,hc.1⟩ ?_;rw[if_pos (by decide+kernel)];refine ae (iW (ae ?_));unfold ajJ;show aX _ _ (u_ s.heap.objs.size (·.push .none)>>= λ_=>u_ s.heap.objs.size (·.pop)) _ _ {s with heap:=h2};refine ae (gF (s:={s with heap:=h2}) hS2 rfl ?_ (by simp) (by simp));have hS3:(h2.update s.heap.objs.size (mR (·.push .none))).get? s.heap.objs.size=some _:=cu _ hS2 rfl;refine gF hS3 rfl ?_ (by show 1<=al;decide) (by show 0<=al+1;exact bj _);have hS4:((h2.update s.heap.objs.size (mR (·.push .none))).update s.heap.objs.size (mR (·.pop))).get? s.heap.objs.size=some _:=cu _ hS3 rfl;rw[hz1];refine au ⟨gX ql _,Pg (od:=od) (S:=s.heap.objs.size) (it:=s.heap.objs.size+1) (d:=d) (es:=es) (ep:=ep) (n:=es.size) hh (b4 (iu _)) j8 (b4 (gZ f8)) wv rfl hn _ 0 _ #[] _ rfl (bj _) ?_ ?_ hS4 rfl λh' c' rN sZ=>?_⟩
 ·obtain⟨o,zH,r⟩:=hi2;exact⟨o,(bF _ _ (b4 (iu _))).trans ((bF _ _ (b4 (iu _))).trans zH),r⟩
 ·exact(bF _ _ j8).trans ((bF _ _ j8).trans ho2)
 ·show aX _ A (load s.heap.objs.size>>=_) _ _ _;refine ae (wpAny_load sZ ?_);refine au ?_;have zO:∀b o,s.heap.get? b=some o->h'.get? b=some o:= λb o e=>by have hb:=bw e;have n1:s.heap.objs.size≠b:=pO hb;exact rN b o (b4 (gZ hb)) (iN n1) ((bF _ _ n1).trans ((bF _ _ n1).trans (Vq b o e)))
  exact h h' zO (j6 (bw sZ))
end
end Ex
namespace Ex
open PySem PyProof.Rows
open Sem (wp)
section
variable{prog:a7}{w:bP}{A:cT}{E:aj->aA->Prop}{s:aA}{d:ah}{od:gS}{es:Array fP}{ep:Nat}{Q:aj->aA->Prop}
theorem um(hh:A.handled=none)(hd:(d==db)=false)(ho:s.heap.get? d=some od)(hc:od.ExactDict)(wv:od.data= .dict es ep)(hn:es.size<=al)(h:∀(h1:cX),(∀b o,s.heap.get? b=some o->h1.get? b=some o)->s.heap.objs.size<=h1.objs.size->aX (bA prog w) A.in1.in1 (Builtin.«list.sort» ⟨[.ref h1.objs.size],[]⟩) (λoH s2=>oH= .done (.ret .none)/\Q (.ref h1.objs.size) s2) (λ_ _=>False) {s with heap:=h1.push (sG "list" (es.toList.map (·.key)).toArray 0)}):aX (bA prog w) A (call (.builtin "sorted") [.ref d]) Q E s:=by refine Calls.call_function_entry kind_sorted plain_sorted entry_sorted (args_sorted1 _) ?_;unfold Builtin.«sorted»;refine ae (m:=checkCount "sorted" 1 1 _) (au ?_);refine ae (FQ (A:=A.in1) hh hd ho hc wv hn λh1 hk yM=>ae (wpAny_newList ?_ (by simpa using hn)));have Wg:(h1.push (sG "list" (es.toList.map (·.key)).toArray 0)).get? h1.objs.size=some (sG "list" (es.toList.map (·.key)).toArray 0):=ba _ rfl;refine ae (dP (eG slot_list_sort ⟨_,Wg,rfl⟩ entry_list_sort (gp (h h1 hk yM) (λoH s2 q=>?_) λ_ _ z=>z.elim) (args_list_sort _)));obtain⟨rfl,q⟩:=q;exact⟨_,rfl,au ⟨_,rfl,q⟩⟩
theorem yN{ns:List Int}(hh:A.handled=none)(hd:(d==db)=false)(ho:s.heap.get? d=some od)(hc:od.ExactDict)(wv:od.data= .dict es ep)(hn:es.size<=al)(hI:rf (es.toList.map (·.key)) ns)(h:∀(h':cX)(a:ah)(out:Array aj)(ns':List Int)(c:Nat),s.heap.objs.size<=a->h'.get? a=some (sG "list" out c)->(∀b o,s.heap.get? b=some o->h'.get? b=some o)->rf out.toList ns'->ns'.Perm ns->ns'.Pairwise (· <= ·)->Q (.ref a) {s with heap:=h'}):aX (bA prog w) A (call (.builtin "sorted") [.ref d]) Q E s:=by refine um hh hd ho hc wv hn λh1 hk yM=>?_;have Wg:(h1.push (sG "list" (es.toList.map (·.key)).toArray 0)).get? h1.objs.size=some (sG "list" (es.toList.map (·.key)).toArray 0):=ba _ rfl;refine list_sort_treeAny (s:={s with heap:=h1.push (sG "list" (es.toList.map (·.key)).toArray 0)}) Wg hI (by simpa using hn) λout ns' a1 a2 a3=>⟨rfl,?_⟩;obtain⟨c,Kw⟩:=sortedHeap_at (vs:=es.toList.map (·.key)) (out:=out) Wg;refine h _ _ out ns' c yM Kw (λb o e=>?_) a1 a2 a3;have hb:=hk b o e;rw[sortedHeap_old (b4 (bw hb)) (by rw[dU];exact gZ (bw hb))];exact aI _ hb
def Vu:Nat->Bool:= λ_=>false
theorem vq:∀{cc:List aj}{ks:List Int}(i:Nat),rf cc ks->tupItems Vu i cc=some (ks.map bJ)
 |_,_,i,.nil=>rfl|_,_,i,.cons n t' t=>by show(if Vu i=true then none else(tupItems Vu (i+1) _).map (bJ _:: ·))=_;rw[if_neg (show¬Vu i=true from bn),vq (i+1) t];rfl
def Aq:List Int->List Int->Bool
 | [],[]=>false| [],_::_=>true|_::_,[]=>false|a::x,b::y=>decide (a<b)||(!decide (b<a)&&Aq x y)
theorem Nd:∀(x y:List Int),lexLt itemOrd (x.map bJ) (y.map bJ)=Aq x y
 | [],[]=>rfl| [],_::_=>rfl|_::_,[]=>rfl|a::x,b::y=>by show(decide (a<b)||(!decide (b<a)&&lexLt itemOrd (x.map bJ) (y.map bJ)))=_;rw[Nd x y];rfl
def La(h:cX)(y:List Int×ah):Prop:=∃cc:Array aj,IsTup h y.2 cc/\rf cc.toList y.1/\y.1≠[]
theorem La.key{h:cX}{y:List Int×ah}(t:La h y):adg h Vu (.ref y.2)=some (y.1.map bJ):=by obtain⟨cc,⟨o,ho,hc,n,hd⟩,hi,_⟩:=t;unfold adg;rw[if_pos (show G.isTupObj h (.ref y.2)=true by simp[G.isTupObj,ho,hc])];simp only[tupKey,ho,hd];exact vq 0 hi
theorem La.of{h:cX}{y:List Int×ah}(t:La h y):∃f,TupOf h Vu (.ref y.2) f:=by
 obtain⟨ks,q⟩:=y;obtain⟨⟨l⟩,⟨o,ho,hc,n,hd⟩,hi,j8⟩:=t;have ZW:rf l ks:=hi;cases ZW with|nil=>exact absurd rfl j8|cons i t' r=>exact⟨_,q,o,_,n,rfl,ho,hc,hd,rfl,λ_=>⟨_,_,rfl⟩,λz=>by cases z⟩
theorem Nf{h:cX}:∀{qs:List (List Int×ah)},(∀y∈qs,La h y)->∃fs,TupsOf h Vu (qs.map λy=> .ref y.2) fs
 | [],_=>⟨[],.nil⟩|y::qs,ht=>by obtain⟨f,hf⟩:=(ht y (aC ..)).of;obtain⟨fs,hfs⟩:=Nf (qs:=qs) λz hz=>ht z (az _ hz);exact⟨f::fs,.cons hf hfs⟩
theorem Pj{α β:Type}{f:α->β}:∀{m:List β}{l:List α},m.Perm (l.map f)->∃l':List α,l'.Perm l/\m=l'.map f:=by
 intro m l h;generalize hk:l.map f=k at h;induction h generalizing l with
 |nil=>
  cases l with|nil=>exact⟨[],.nil,rfl⟩|cons a l=>cases hk
 |cons x _ ih=>
  cases l with
  |nil=>cases hk|cons a l=>rw[aS]at hk;injection hk with e1 e2;obtain⟨l',p,e⟩:=ih e2;exact⟨a::l',.cons a p,by rw[aS,e1,e]⟩
 |swap x y t=>
  cases l with
  |nil=>cases hk|cons a l=>
   cases l with
   |nil=>cases hk|cons b l=>rw[aS,aS]at hk;injection hk with e1 e2;injection e2 with e2 e3;exact⟨b::a::l,.swap a b l,by rw[aS,aS,e1,e2,e3]⟩
 |trans _ _ ih1 ih2=>obtain⟨l2,p2,e2⟩:=ih2 hk;obtain⟨l1,p1,e1⟩:=ih1 e2.symm;exact⟨l1,p1.trans p2,e1⟩
theorem xp:∀(qs:List (List Int×ah)),(qs.map λy=>aY y.2).zip (qs.map λy=>aY y.2)=qs.map λy=>((aY y.2,aY y.2):Keyed)
 | []=>rfl|y::qs=>by rw[aS,mx,xp qs];rfl
theorem yO{qs:List (List Int×ah)}(hh:A.handled=none)(hd:(d==db)=false)(ho:s.heap.get? d=some od)(hc:od.ExactDict)(wv:od.data= .dict es ep)(hn:es.size<=al)(hq:es.toList.map (·.key)=qs.map λy=> .ref y.2)(ht:∀y∈qs,La s.heap y)(h:∀(h':cX)(a:ah)(ys:List (List Int×ah))(c:Nat),s.heap.objs.size<=a->h'.get? a=some (sG "list" (ys.map λy=> .ref y.2).toArray c)->(∀b o,s.heap.get? b=some o->h'.get? b=some o)->ys.Perm qs->ys.Pairwise (λx y=>Aq y.1 x.1=false)->Q (.ref a) {s with heap:=h'}):aX (bA prog w) A (call (.builtin "sorted") [.ref d]) Q E s:=by
 refine um hh hd ho hc wv hn λh1 hk yM=>?_;rw[hq];have Wg:(h1.push (sG "list" (qs.map λy=>aY y.2).toArray 0)).get? h1.objs.size=some (sG "list" (qs.map λy=>aY y.2).toArray 0):=ba _ rfl;have Vv:∀y∈qs,La (h1.push (sG "list" (qs.map λy=>aY y.2).toArray 0)) y:= λy hy=>by obtain⟨cc,hi,r⟩:=ht y hy;exact⟨cc,hi.keeps λb o e=>aI _ (hk b o e),r⟩
 obtain⟨fs,hfs⟩:=Nf Vv;have dX:(qs.map λy=>aY y.2).length=es.size:=by rw[<-hq,aq,cY]
 refine G.list_sort_tups (s:={s with heap:=h1.push (sG "list" (qs.map λy=>aY y.2).toArray 0)}) (shape:=Vu) Wg hfs (λv hv=>?_) (by rw[dX];exact hn) λzJ a1 a2 a3=>⟨rfl,?_⟩
 ·obtain⟨y,hy,rfl⟩:=aQ.mp hv;exact⟨_,(Vv y hy).key⟩
 obtain⟨c,Kw⟩:=sortedHeap_at (vs:=qs.map λy=>aY y.2) (out:=(arrOf zJ).map (·.2)) Wg;have hz:(pairsOf (qs.map λy=>aY y.2)).toList=qs.map λy=>((aY y.2,aY y.2):Keyed):=by rw[pairsOf_toList];exact xp qs
 have hp:=Array.perm_iff_toList_perm.mp a1;rw[hz]at hp;obtain⟨ys,py,ey⟩:=Pj hp;have alk:(arrOf zJ).map (·.2)=(ys.map λy=>aY y.2).toArray:=by apply Array.toList_inj.mp;rw[Array.toList_map,ey,bS];rfl
 rw[alk]at Kw ⊢;refine h _ _ ys c yM Kw (λb o e=>?_) py ?_
 ·have hb:=hk b o e;rw[sortedHeap_old (b4 (bw hb)) (by rw[dU];exact gZ (bw hb))];exact aI _ hb
 ·rw[iQ];intro i j hi hj hij;have hsz:ys.length=(pairsOf (qs.map λy=>aY y.2)).size:=by rw[pairsOf_size,aq,py.length_eq]
  have hs:=a2 i j (j6 hij) (by rw[<-hsz];exact hj);have key:∀(m:Nat)(hm:m<ys.length),KK (G.tupKindC (h1.push (sG "list" (qs.map λy=>aY y.2).toArray 0)) Vu) (arrOf zJ) m=ys[m].1.map bJ:=by
   intro m hm;have e1:(arrOf zJ)[m]? =some (aY ys[m].2,aY ys[m].2):=by rw[<-nI,ey,aM,ay hm];rfl
   unfold KK;rw[e1];show(adg _ Vu (aY ys[m].2)).getD []=_;rw[(Vv ys[m] (py.mem_iff.mp (sT hm))).key];rfl
  rw[key i hi,key j hj]at hs;have KA:lexLt itemOrd (ys[j].1.map bJ) (ys[i].1.map bJ)=false:=hs;rw[Nd]at KA;exact KA
end
end Ex
namespace L2
open PySem PySem.Spec PyProof.Rows
section
variable{X:Cx}
inductive afz(x:V)(xs:List V)(H:Hp)(Q:VK):Prop
 |mk (a b:ah) (kvs:List (List fE×V)) (k:List fE) (y:V) (_:x= .ref a) (_:xs=[.ref b,y]) (_:H a=some (.dT kvs)) (_:H b=some (.bV (k.map kV))) (_:kvs.length<al) (_:(∀v,iV kvs k=some v->Q v H)) (_:(iV kvs k=none->Q y (aP H a (.dT (kJ kvs k y)))))
theorem WJ(hu:X.A.units+1<iw):MtR X "dict.setdefault" afz:=by
 intro pins s σ H x xs v us Q I rx rxs h;obtain⟨a,b,kvs,k,y,rfl,rfl,ha,hb,hz,q1,q2⟩:=h;obtain rfl:v=aY a:=rx;obtain⟨u,w',rfl,r1,r2⟩:=vals2 rxs;obtain rfl:u=aY b:=r1;obtain⟨z,hd,xs,lf,dd⟩:=IN I.d5 ha;refine iA jR dd.typeIs Ac (zq _ _ _) (Ex.wZ (knd:=iO (c_ X.prog X.w)) a b hd w')
  ⟨e_ hu,k,xs,sf I.d5 hb,dd,by rw[<-fw lf];exact z,λp hp=>?_,λhn h' Dx hs=>?_⟩
 ·have q:=lf.val k;rw[hp]at q;cases e:iV kvs k with|none=>rw[e]at q;exact q.elim|some w2=>rw[e]at q;exact⟨w2,H,I.ww _,q,q1 w2 e⟩
 ·have hn':iV kvs k=none:=by
   have q:=lf.val k;rw[hn]at q;cases e:iV kvs k with|none=>rfl|some w2=>rw[e]at q;exact q.elim
  obtain⟨o',es,ep,ho,h2,h3,h4,_,h5⟩:=Dx;have hl:(kJ kvs k y).length<=al:=by have:=nT kvs k y;omega
  refine⟨y,aP H a (.dT (kJ kvs k y)),qc I (by rw[ha];exact g1) hs ⟨o',ho⟩ ⟨hl,hd,_,(lf.put k hb r2).keeps λc ys ec=>?_,o',es,ep,ho,h2,h3,h4,h5⟩,r2,q2 hn'⟩;rw[aF (nQ ec ha (λz=>nomatch z))];exact ec
theorem KT.append{H:Hp}:∀{k1 k2:List (List fE×V)}{x1 x2:List (List fE×ah×aj)},KT H k1 x1->KT H k2 x2->KT H (k1++k2) (x1++x2)
 |_,_,_,_,.nil,r=>r|_,_,_,_,.cons h t,r=> .cons h (KT.append t r)
theorem KT.qv{H:Hp}:∀{kvs:List (List fE×V)}{xs:List (List fE×ah×aj)},KT H kvs xs->kvs.map (·.1)=xs.map (·.1)
 |_,_,.nil=>rfl|_,_,.cons h t=>by rw[aS,aS,KT.qv t,h.1]
theorem KT.bV{H:Hp}:∀{kvs:List (List fE×V)}{xs:List (List fE×ah×aj)},KT H kvs xs->∀x∈xs,H x.2.1=some (.bV (x.1.map kV))
 |_,_,.nil,x,hx=>by simp at hx|_,_,.cons h t,x,hx=>by
  rcases aU.mp hx with e|e
  ·subst e;rw[<-h.1];exact h.2.1
  ·exact KT.bV t x e
def sM(P:a7)(w:bP)(k:List fE):Int:=gn (c_ P w) k
inductive afB(P:a7)(w:bP)(x:V)(xs:List V)(H:Hp)(Q:VK):Prop
 |mk (a b:ah) (kvs more:List (List fE×V)) (_:x= .ref a) (_:xs=[.ref b]) (_:a≠b) (_:H a=some (.dT kvs)) (_:H b=some (.dT more)) (_:(more.map λp=>sM P w p.1).Nodup) (_:((kvs++more).map (·.1)).Nodup) (_:(kvs++more).length<=al) (_:Q .non (aP H a (.dT (kvs++more))))
theorem WK(hu:X.A.units+1<iw):MtR X "dict.update" (afB X.prog X.w):=by
 intro pins s σ H x xs v us Q I rx rxs h;obtain⟨a,b,kvs,more,rfl,rfl,ZU,ha,hb,hh,hn,hz,q⟩:=h;obtain rfl:v=aY a:=rx;obtain⟨u,rfl,r1⟩:=vals1 rxs;obtain rfl:u=aY b:=r1;obtain⟨z,hd,xs,lf,dd⟩:=IN I.d5 ha;obtain⟨z2,Dz,ys,SH,dd2⟩:=IN I.d5 hb;have sh:kvs.length=xs.length:=fw lf;have oR:more.length=ys.length:=fw SH;have hk:(kvs++more).map (·.1)=(xs++ys).map (·.1):=(lf.append SH).qv;refine iA D' dd.typeIs PySem.F.entry_dict_update (PySem.F.args_dict_update_2 _ _) (Ex.Dm (knd:=iO (c_ X.prog X.w)) a b ZU Dz)
  ⟨e_ hu,xs,ys,dd,dd2,?_,λx hx=>?_,by rw[aw]at hz;omega,λh' Dx hs=>?_⟩
 ·have e:(ys.map λx=>(iO (c_ X.prog X.w)).hash x.1)=more.map λp=>sM X.prog X.w p.1:=by have:=congrArg (ZC (sM X.prog X.w)) SH.qv;rw[bS,bS]at this;exact this.symm
  rw[e];exact hh
 ·obtain⟨_,cc,_,p⟩:=I.d5 _ _ (SH.bV x hx);exact p.typeIs
 ·rw[Ex.zI xs ys (by rw[<-hk];exact hn)]at Dx;obtain⟨o',es,ep,ho,h2,h3,h4,_,h5⟩:=Dx;refine⟨.non,aP H a (.dT (kvs++more)),qc (t':=s.toks) I (by rw[ha];exact g1) hs ⟨o',ho⟩ ⟨hz,hd,_,(lf.append SH).keeps λc ys ec=>?_,o',es,ep,ho,h2,h3,h4,h5⟩,rfl,q⟩;rw[aF (nQ ec ha (λz=>nomatch z))];exact ec
inductive aaS(vs:List V)(H:Hp)(Q:VK):Prop
 |mk (a:ah) (kvs:List (fE×V)) (ks:List Int) (_:vs=[.ref a]) (_:H a=some (.dK kvs)) (_:kvs.map (·.1)=ks.map bJ) (_:∀(ns:List Int)(p:ah),ns.Perm ks->ns.Pairwise (· <= ·)->H p=none->Q (.ref p) (aP H p (.be (ns.map V.int))))
theorem B3{P:a7}{w:bP}:∀{es:List fP}{vs:List (fE×aj)}{ks:List Int},Pairs (c_ P w) es vs->vs.map (·.1)=ks.map bJ->rf (es.map (·.key)) ks
 |_,_,[],.nil,_=> .nil|_,_,k::ks,.nil,h=>by cases h|_,_,[],.cons _ _ _,h=>by cases h|e::es,kv::vs,k::ks,.cons h1 h2 t,h=>by rw[aS,aS]at h;injection h with e1 e2;have h1':ua kv.1 e.key=true:=h1;rw[e1]at h1';obtain⟨tk,et⟩:=QX (k:=k) (v:=e.key) h1';rw[aS,et];exact .cons k tk (B3 t e2)
theorem IV(hc:X.calm=true):ud X (.builtin "sorted") aaS:=by
 intro pins s σ H vs us Q I r h;obtain⟨a,kvs,ks,rfl,ha,hk,q⟩:=h;rw[dq.So r];obtain⟨z,hd,ws,lf,o,es,ep,ho,hx,yh,hko,hp,hn⟩:=M0 I.d5 ha;have hl:kvs.length=ws.length:=fw lf;have dX:es.size=ws.length:=by rw[<-hp.length];simp
 refine Ex.yN (I.ok.hd hc) hd ho hx yh (by omega) (B3 hp (by rw[<-KV.qv lf];exact hk)) λh' p out ns c yM hat k4 hi pm pw=>?_;have qS:H p=none:=I.d5.fresh yM;have hol:ns.length<=al:=by have e:=congrArg i0 hk;rw[aq,aq]at e;rw[pm.length_eq];omega
 exact⟨.ref p,aP H p (.be (ns.map V.int)),I.rW (t':=s.toks) k4 yM ⟨by rw[aq];exact hol,out.toList,c,xj hi,hat⟩,rfl,q ns p pm pw qS⟩
inductive aaT(vs:List V)(H:Hp)(Q:VK):Prop
 |mk (a:ah) (kvs:List (List fE×V)) (kk:List (List Int)) (_:vs=[.ref a]) (_:H a=some (.dT kvs)) (_:kvs.map (·.1)=kk.map (λk=>k.map bJ)) (_:(∀k∈kk,k≠[])) (_:∀(ys:List (List Int×ah))(p:ah),(ys.map (·.1)).Perm kk->ys.Pairwise (λx y=>Ex.Aq y.1 x.1=false)->(∀y∈ys,H y.2=some (.bV (y.1.map V.int)))->H p=none->Q (.ref p) (aP H p (.be (ys.map λy=>V.ref y.2))))
theorem aaU(k:List Int):(k.map (bJ:Int->fE)).map kV=k.map V.int:=by rw[bS];rfl
theorem EA:∀(ys:List (List Int×ah)),dq (ys.map λy=>V.ref y.2) (ys.map λy=>aY y.2)
 | []=> .nil|y::ys=> .cons rfl (EA ys)
theorem IW(hc:X.calm=true):ud X (.builtin "sorted") aaT:=by
 intro pins s σ H vs us Q I r h;obtain⟨a,kvs,kk,rfl,ha,hk,j8,q⟩:=h;rw[dq.So r];obtain⟨z,hd,xs,lf,o,es,ep,ho,hx,yh,hes,V7,hn⟩:=IN I.d5 ha;have hl:kvs.length=xs.length:=fw lf;have dX:es.size=xs.length:=m8 hes;have hkx:xs.map (·.1)=kk.map (λk=>k.map bJ):=by rw[<-lf.qv];exact hk
 have lift:∀(ws:List (List fE×ah×aj))(ll:List (List Int)),ws.map (·.1)=ll.map (λk=>k.map bJ)->∃qs:List (List Int×ah),qs.map (·.1)=ll/\ws.map (λx=>aY x.2.1)=qs.map (λy=>aY y.2)/\∀y∈qs,∃x∈ws,x.1=y.1.map bJ/\x.2.1=y.2:=by
  intro ws;induction ws with
  |nil=>
   intro ll e;cases ll with|nil=>exact⟨[],rfl,rfl,λy hy=>by simp at hy⟩|cons _ _=>cases e
  |cons x ws ih=>
   intro ll e;cases ll with
   |nil=>cases e|cons k ll=>
    rw[aS,aS]at e;injection e with e1 e2;obtain⟨qs,h1,h2,h3⟩:=ih ll e2;refine⟨(k,x.2.1)::qs,by rw[aS,h1],by rw[aS,aS,h2],λy hy=>?_⟩;rcases aU.mp hy with z|z
    ·subst z;exact⟨x,aC ..,e1,rfl⟩
    ·obtain⟨x',Dl,r'⟩:=h3 y z;exact⟨x',az _ Dl,r'⟩
 obtain⟨qs,h1,h2,h3⟩:=lift xs kk hkx;have afC:∀y∈qs,H y.2=some (.bV (y.1.map V.int)):= λy hy=>by obtain⟨x,Dl,e1,e2⟩:=h3 y hy;have:=lf.bV x Dl;rw[e1,e2,aaU]at this;exact this
 have xq:es.toList.map (·.key)=qs.map λy=>aY y.2:=by rw[hes,bS,<-h2];rfl
 refine Ex.yO (I.ok.hd hc) hd ho hx yh (by omega) xq (λy hy=>?_) λh' p ys c yM hat k4 pm pw=>?_
 ·obtain⟨_,cc,rv,jx⟩:=I.d5 _ _ (afC y hy);exact⟨cc.toArray,jx,by simpa using rv.ints,j8 y.1 (by rw[<-h1];exact aQ.mpr ⟨y,hy,rfl⟩)⟩
 ·have qS:H p=none:=I.d5.fresh yM;have hol:ys.length<=al:=by have e:=congrArg i0 h2;rw[aq,aq]at e;rw[pm.length_eq];omega
  exact⟨.ref p,aP H p (.be (ys.map λy=>V.ref y.2)),I.rW (t':=s.toks) k4 yM ⟨by rw[aq];exact hol,ys.map λy=>aY y.2,c,EA ys,hat⟩,rfl,q ys p (by rw[<-h1];exact pm.map _) pw (λy hy=>afC y (pm.mem_iff.mp hy)) qS⟩
end
theorem Inv.SI{X:Cx}{pins:List (ah×gS)}{σ:St}{H:Hp}{s:aA}{d:ah}{o:gS}{kvs:List (List fE×V)}(I:Inv X pins σ H s)(h:H d=some (.nB o (.dT kvs))):(d==db)=false/\s.heap.get? d=some o/\o.ExactDict/\∃(es:Array fP)(ep:Nat),o.data= .dict es ep/\es.size=kvs.length/\∀(i:Nat)(k:List fE)(v:V),kvs[i]? =some (k,v)->∃(en:fP)(q:ah),es[i]? =some en/\en.key= .ref q/\H q=some (.bV (k.map kV))/\RelV v en.val:=by
 obtain⟨hd,z,hs,xs,pr,o',es,ep,ho,hx,yh,he,_⟩:=I.d5 d _ h;rw[hd]at ho;cases ho;refine⟨hs,hd,hx,es,ep,yh,?_,λi k v e=>?_⟩
 ·have l1:es.size=xs.length:=m8 he;have l2:kvs.length=xs.length:=fw pr;omega
 ·obtain⟨b,hb,e1,e2,e3⟩:=fV pr e;have q:=entry_at he i;rw[hb]at q;exact⟨_,b.2.1,q,rfl,e2,e3⟩
def SJ(d:ah)(o:gS)(kvs:List (List fE×V)):It:=⟨λi H=>H d=some (.nB o (.dT kvs))/\i<kvs.length,λi H x H'=>∃(T q:ah)(k:List fE)(v:V),kvs[i]? =some (k,v)/\x= .ref T/\H T=none/\H q=some (.bV (k.map kV))/\H'=aP H T (.bV [.ref q,v]),λi H=>H d=some (.nB o (.dT kvs))/\kvs.length<=i⟩
theorem IX{P:a7}{w:bP}{K:ak}{d:ah}{o:gS}{es:Array fP}{ep:Nat}{kvs:List (List fE×V)}{IU:List Expr}{kk:Nat}{Dt:mZ}(it:ah)(Ak:o.data= .dict es ep):Fy P w K (.Tuple IU kk Dt) (SJ d o kvs) [it] it (λi h=>∃ok ov,pj h it d i kvs.length ep ok ov) where
 mem:=by simp
 obj:= λi h st b hb=>by
  have e:b=it:=by simpa using hb
  subst e;obtain⟨ok,ov,e⟩:=st;exact⟨_,e,λv z=>nomatch z⟩
 keep:= λi h h' st k=>let⟨ok,ov,e⟩:=st;⟨ok,ov,k it (by simp) _ e⟩
 item:=by
  intro X hP hw hK hc i pins s σ H E I hf st hg;subst hP hw hK;obtain⟨hd,hi⟩:=hg;obtain⟨hs,hgd,hx,Yn,Vp,yh,hsz,ent⟩:=I.SI hd;obtain⟨rfl,rfl⟩:=Na Ak yh;obtain⟨⟨k,v⟩,CW⟩:∃p,kvs[i]? =some p:=⟨kvs[i],ay hi⟩;obtain⟨en,q,hen,rS,hq,rv⟩:=ent i k v CW;obtain⟨ok,ov,he⟩:=st;have f8:it<s.heap.objs.size:=bw he;refine Ex.Dn he hgd yh hsz hen λh' ho hT hk=>?_;refine⟨_,rfl,wpAny_letOwnedTupleGo_items (s:={s with heap:=h'}) ho λAl V8 sb=>?_⟩;have hT2:Al.get? s.heap.objs.size=some {cls:= .type "tuple",data:= .seq #[en.key,en.val]}:=(sb.2 _ (pO f8)).trans hT;have new:ie X.prog X.w (aP H s.heap.objs.size (.bV [.ref q,v])) Al s.heap.objs.size (.bV [.ref q,v]):=
   ⟨by show 2<=al;decide,[en.key,en.val],.cons rS (.cons rv .nil),⟨_,hT2,rfl,_,rfl⟩⟩
  have I1:Inv X pins σ (aP H s.heap.objs.size (.bV [.ref q,v])) {s with heap:=Al}:=
   I.Ez (t':=s.toks) (ch:=[it]) (λb ob hb e=>(sb.2 b (by simpa using hb)).trans (hk b ob (by simpa using hb) e)) hf (aB _) new
  refine⟨.ref s.heap.objs.size,_,I1,rfl,⟨_,q,k,v,CW,rfl,I.d5.fresh (aB _),hq,rfl⟩,⟨en.key,en.val,V8⟩,λb hb=>?_⟩;have e:b=it:=by simpa using hb
  rw[e,aF (b4 f8)];exact(hf it (by simp)).1
 done:=by intro X hP hw hK hc i pins s σ H E I hf st hg;subst hP hw hK;obtain⟨hd,hi⟩:=hg;obtain⟨f0,f1,f2,f3,f4,f5⟩:=hf it (by simp);obtain⟨hs,hgd,hx,Yn,Vp,yh,hsz,ent⟩:=I.SI hd;obtain⟨rfl,rfl⟩:=Na Ak yh;obtain⟨ok,ov,he⟩:=st;exact Ex.vQ (I.ok.hd hc) he hgd yh hsz hi λh' eb=>⟨rfl,I.mM (t':=s.toks) (λb ob hb e=>eb b ob hb e) f0 f1 f3 f4 f5⟩
 Ds:= λA i s Q E st h=>let⟨_,_,e⟩:=st;PySem.W.kcp_self e h
inductive SK(R:It->Hp->Prop)(x:V)(H1:Hp):Prop
 |mk (d o kvs:_) (_:x= .ref d) (_:H1 d=some (.nB o (.dT kvs))) (_:R (SJ d o kvs) H1)
def WL(td:TE):TI:= λσ H R=>td σ H λx H1=>SK R x H1
theorem yP{X:Cx}{e:Expr}{td:TE}{lE lP:mZ}{IU:List Expr}{kk:Nat}{Dt:mZ}(he:PE X e td)(ID:lp e "items" X.bW (fL e X.bW)=fL e X.bW:=by rfl)(BW:(lE.endLine==lP.line)=true:=by rfl):PI X (.Tuple IU kk Dt) (.Call (.Attribute e "items" lE) [] [] lP) (WL td):=by
 intro pins s σ H R I h;refine tI (T:="dict") (id:="dict.items") ID rfl BW fX ZO F.type_dict_items (fJ (he pins s σ H _ I h) λu s1 ⟨x,H1,I1,rx,d,o,kvs,ex,hd,q⟩=>?_);subst ex;obtain rfl:u=aY d:=rx;obtain⟨hs,hgd,hx,es,ep,yh,hsz,ent⟩:=I1.SI hd;have hT:s1.TypeIs (.ref d) "dict":=⟨o,hgd,hx.1⟩;refine⟨hT,λb z=>?_,?_⟩
 ·cases z;exact⟨o,hgd,hx.2.1⟩
 have I2:Inv X pins σ H1 {s1 with heap:=s1.heap.push {cls:= .type "dict_items",data:= .fields #[.ref d]}}:=I1.k4 (t':=s1.toks) λb ob q=>aI _ q;have oH:aX (bA X.prog X.w) X.A (zk (.ref s1.heap.objs.size)) (PIE X pins σ (.Tuple IU kk Dt) R) X.xe {s1 with heap:=s1.heap.push {cls:= .type "dict_items",data:= .fields #[.ref d]}}:=by refine Ex.BF (d:=d) ⟨_,ba _ rfl,rfl,rfl⟩ (aI _ hgd) yh (K_ (tk:=s1.toks) I2 _ (IX _ yh) ⟨.none,.none,?_⟩ q);rw[hsz];exact ba _ rfl
 show aX _ _ (Mm lP (.builtin "dict.items") [.ref d] [] []) _ X.xe s1;exact method_meetsIn ZO F.entry_dict_items rfl (Ob ⟨rfl,hT,F.args_dict_items_1 _,_,Ex.Am d hs,hT,oH⟩)
section
variable{X:Cx}{a b c d:Expr}{ta tb tc td:TE}{pos:mZ}
def WM(r r' r'':R2)(ta tb tc td:TE):TE:= λσ H Q=>ta σ H λx H1=>tb σ H1 λy H2=>r x y H2 λz H3=>∃k,z= .bl k/\(if k=true then tc σ H3 λw' H4=>r' y w' H4 λz' H5=>∃k',z'= .bl k'/\(if k'=true then td σ H5 λu' H6=>r'' w' u' H6 Q else Q (.bl false) H5)else Q (.bl false) H3)
theorem Pk{op Sb aaW:QY}{r r' r'':R2}(ho:uQ X (fj op) r)(zH:uQ X (fj Sb) r')(alo:uQ X (fj aaW) r'')(ha:PE X a ta)(hb:PE X b tb)(hc:PE X c tc)(hd:PE X d td)(hm:lastMarks [op,Sb,aaW] [b,c,d]=false:=by with_unfolding_all rfl):PT X (.Compare a [op,Sb,aaW] [b,c,d] pos) (R_ (WM r r' r'' ta tb tc td)):=by
 intro pins s σ H Q I h;refine isTrue_chain (fJ (ha pins s σ H _ I h) λv s1 ⟨x,H1,I1,r1,q1⟩=>test_link (fJ (hb pins s1 σ H1 _ I1 q1) λu s2 ⟨y,H2,I2,r2,q2⟩=>fJ (ho pins s2 σ H2 x y v u _ I2 r1 r2 q2) λdv s3 ⟨z,H3,I3,r3,k,e,q3⟩=>?_)) hm;subst e;cases r3;refine cR ?_;cases k with
 |false=>obtain⟨k',e',q'⟩:=q3;cases e';exact ite_ff ⟨H3,I3,q'⟩
 |true=>
  refine ite_tt (test_link (fJ (hc pins s3 σ H3 _ I3 q3) λw' s4 ⟨z',H4,I4,r4,q4⟩=>fJ (zH pins s4 σ H4 y z' u w' _ I4 r2 r4 q4) λd' s5 ⟨z2,H5,I5,r5,k2,e2,q5⟩=>?_));subst e2;cases r5;refine cR ?_;cases k2 with
  |false=>obtain⟨k',e',q'⟩:=q5;cases e';exact ite_ff ⟨H5,I5,q'⟩
  |true=>refine ite_tt (test_last (fJ (hd pins s5 σ H5 _ I5 q5) λw2 s6 ⟨z3,H6,I6,r6,q6⟩=>fJ (alo pins s6 σ H6 z' z3 w' w2 _ I6 r4 r6 q6) λd2 s7 ⟨z4,H7,I7,r7,k3,e3,q7⟩=>?_));subst e3;cases r7;exact cR ⟨H7,I7,q7⟩
end
abbrev xr:=List (List fE)
abbrev G9:=List (xr×ah×V)
abbrev NX:=List (xr×ah×aj)
abbrev Lb:G9->NX->Prop:=Paired λ(p:xr×ah×V) (q:xr×ah×aj)=>p.1=q.1/\p.2.1=q.2.1/\RelV p.2.2 q.2.2
abbrev nk(P:a7)(w:bP):X7 P w xr:=Ex.RK (c_ P w)
def SM(P:a7)(w:bP)(kvs:G9)(a:ah)(h:cX):Prop:=kvs.length<=al/\(a==db)=false/\∃xs:NX,Lb kvs xs/\∃o es ep,h.get? a=some o/\o.ExactDict/\o.data= .dict es ep/\es.toList=xs.map (ij (nk P w))/\(xs.map (·.1)).Nodup
def DN(P:a7)(w:bP)(a:ah)(kvs:G9):HO:= .ext (SM P w kvs a)
theorem SN{P:a7}{w:bP}{H:Hp}{h:cX}{a:ah}{kvs:G9}(x:SM P w kvs a h):ie P w H h a (DN P w a kvs):=by
 refine⟨x,?_,λh1 h2 y k=>?_⟩
 ·obtain⟨_,_,xs,_,o,es,ep,e,_⟩:=x;exact⟨o,e⟩
 ·obtain⟨z,hd,xs,r,o,es,ep,e,t⟩:=y;exact⟨z,hd,xs,r,o,es,ep,k o e,t⟩
def jC(H:Hp)(k:xr)(b:ah):Prop:=∃qs:List ah,H b=some (.bV (qs.map V.ref))/\Paired (λ(l:List fE) (q:ah)=>H q=some (.bV (l.map kV))) k qs
theorem jC.keeps{H H':Hp}{k:xr}{b:ah}(n:jC H k b)(ht:∀c ys,H c=some (.bV ys)->H' c=some (.bV ys)):jC H' k b:=by obtain⟨qs,e,r⟩:=n;exact⟨qs,ht _ _ e,Paired.gJ r λ_ _ z=>ht _ _ z⟩
theorem Ng:∀{qs:List ah}{us:List aj},dq (qs.map V.ref) us->us=qs.map aY
 | [],_,r=>by cases r;rfl|q::qs,_,r=>by
  rw[aS]at r;cases r with|cons h t=>rw[Ng t];cases h;rfl
theorem IY{P:a7}{w:bP}{H:Hp}{h:cX}(ok:rV P w H h):∀{k:xr}{qs:List ah},Paired (λ(l:List fE) (q:ah)=>H q=some (.bV (l.map kV))) k qs->Ex.iI (c_ P w) h k (qs.map aY)
 |_,_,.nil=> .nil|_,_,.cons hq t=> .cons (sf ok hq) (IY ok t)
theorem xt{P:a7}{w:bP}{H:Hp}{h:cX}{k:xr}{b:ah}(ok:rV P w H h)(n:jC H k b):(nk P w).is h k b:=by obtain⟨qs,e,r⟩:=n;obtain⟨_,cc,rv,o,h1,h2,m,h3⟩:=(show ie P w H h b (.bV (qs.map V.ref))from ok b _ e);refine⟨o,cc.toArray,m,h1,h2,h3,?_⟩;rw[Ng rv];exact IY ok r
def vY(kvs:G9)(k:xr):Option V:=(kvs.find? λp=>decide (p.1=k)).map (·.2.2)
theorem xu{kvs:G9}{xs:NX}(r:Lb kvs xs)(k:xr):rT (vY kvs k) ((j3 xs k).map (·.2)):=by
 induction r with
 |nil=>exact g1|@cons p q ps qs h t ih=>
  obtain⟨h1,_,h3⟩:=h;by_cases e:p.1=k
  ·have e':q.1=k:=h1.symm.trans e;have a1:vY (p::ps) k=some p.2.2:=by simp[vY,dR,e]
   have a2:j3 (q::qs) k=some q.2:=by simp[j3,dR,e']
   rw[a1,a2];exact h3
  ·have e':¬q.1=k:= λz=>e (h1.trans z);have a1:vY (p::ps) k=vY ps k:=by simp[vY,dR,e]
   have a2:j3 (q::qs) k=j3 qs k:=by simp[j3,dR,e']
   rw[a1,a2];exact ih
theorem Lb.mem{kvs:G9}{xs:NX}(r:Lb kvs xs):∀x∈xs,∃p∈kvs,p.1=x.1/\p.2.1=x.2.1:=by
 induction r with
 |nil=>intro x hx;simp at hx|@cons p q ps qs h t ih=>
  intro x hx;rcases aU.mp hx with e|e
  ·subst e;exact⟨p,aC ..,h.1,h.2.1⟩
  ·obtain⟨p',VT,r'⟩:=ih x e;exact⟨p',az _ VT,r'⟩
section
variable{X:Cx}{pins:List (ah×gS)}{σ:St}{H:Hp}{s:aA}{a b:ah}{kvs:G9}{k:xr}{A:cT}{E:aj->aA->Prop}
structure B4(P:a7)(w:bP)(H:Hp)(a:ah)(kvs:G9):Prop where
 xf:H a=some (DN P w a kvs)
 qv:∀p∈kvs,jC H p.1 p.2.1
theorem Nh(I:Inv X pins σ H s)(d:B4 X.prog X.w H a kvs):kvs.length<=al/\(a==db)=false/\∃xs:NX,Lb kvs xs/\s.heap.DictOfH (nk X.prog X.w) a xs:=by obtain⟨⟨z,hd,xs,r,o,es,ep,ho,hx,yh,he,hn⟩,_,_⟩:=I.d5 a _ d.xf;refine⟨z,hd,xs,r,o,es,ep,ho,hx,yh,he,λx Dl=>?_,hn⟩;obtain⟨p,hp,e1,e2⟩:=r.mem x Dl;rw[<-e1,<-e2];exact xt I.d5 (d.qv p hp)
theorem SO(hu:A.units+2<iw):(nk X.prog X.w).room A.in1:=hu
inductive SQ(P:a7)(w:bP)(Q:VK)(y x:V)(H2:Hp):Prop
 |mk (a b kvs k:_) (_:x= .ref a) (_:y= .ref b) (_:B4 P w H2 a kvs) (_:jC H2 k b) (_:Q (.bl (!(vY kvs k).isSome)) H2)
def WN(P:a7)(w:bP)(ty td:TE):TE:= λσ H Q=>ty σ H λy H1=>td σ H1 λx H2=>SQ P w Q y x H2
theorem Pl{i o:Expr}{ty td:TE}(hu:X.A.units+2<iw)(hi:PE X i ty)(ho:PE X o td):PC X .NotIn i o (WN X.prog X.w ty td):=by intro pins s σ H Q I h;refine fJ (hi pins s σ H _ I h) λiv s1 ⟨y,H1,I1,ry,q1⟩=>fJ (ho pins s1 σ H1 _ I1 q1) λu s2 ⟨x,H2,I2,rx,a,b,kvs,k,ex,ey,d,n,q2⟩=>?_;subst ex ey;obtain rfl:u=aY a:=rx;obtain rfl:iv=aY b:=ry;obtain⟨z,hd,xs,lf,dd⟩:=Nh I2 d;refine ahZ (SO hu) (xt I2.d5 n) hd dd ?_;have q:=(xu lf k).oS;rw[qH]at q;rw[<-q];exact⟨.bl _,H2,I2.ww _,rfl,q2⟩
inductive aaX(P:a7)(w:bP)(Q:VK)(x y:V)(H2:Hp):Prop
 |mk (a b kvs k v:_) (_:x= .ref a) (_:y= .ref b) (_:B4 P w H2 a kvs) (_:jC H2 k b) (_:vY kvs k=some v) (_:Q v H2)
def YE(P:a7)(w:bP)(td ty:TE):TE:= λσ H Q=>td σ H λx H1=>ty σ H1 λy H2=>aaX P w Q x y H2
theorem WO{o i:Expr}{td ty:TE}{pos:mZ}(hu:X.A.units+2<iw)(ho:PE X o td)(hi:PE X i ty)(hs:aaI i):PE X (.Subscript o i pos) (YE X.prog X.w td ty):=by
 intro pins s σ H Q I h;refine M3 C6.lookup hs (fJ (ho pins s σ H _ I h) λu s1 ⟨x,H1,I1,rx,q1⟩=>fJ (hi pins s1 σ H1 _ I1 q1) λiv s2 ⟨y,H2,I2,ry,a,b,kvs,k,v,ex,ey,d,n,hv,q2⟩=>?_);subst ex ey;obtain rfl:u=aY a:=rx;obtain rfl:iv=aY b:=ry;obtain⟨z,hd,xs,lf,dd⟩:=Nh I2 d;have q:=xu lf k;rw[hv]at q;cases e:j3 xs k with|none=>rw[e]at q;exact q.elim|some p=>rw[e]at q;exact⟨dd.typeIs,adc (SO hu) (xt I2.d5 n) dd e ⟨v,H2,I2.ww _,q,q2⟩⟩
inductive aaY(P:a7)(w:bP)(D:rX)(σ:St)(v x y:V)(H3:Hp):Prop
 |mk (a b kvs k:_) (_:x= .ref a) (_:y= .ref b) (_:B4 P w H3 a kvs) (_:jC H3 k b) (_:vY kvs k=none) (_:kvs.length<al) (_:D.nx σ (aP H3 a (DN P w a (kvs++[(k,b,v)]))))
def YF(P:a7)(w:bP)(td ty tv:TE):TS:= λD σ H=>tv σ H λv H1=>td σ H1 λx H2=>ty σ H2 λy H3=>aaY P w D σ v x y H3
theorem yQ{v:V}{u:aj}:∀{kvs:G9}{xs:NX},Lb kvs xs->RelV v u->Lb (kvs++[(k,b,v)]) (xs++[(k,b,u)])
 |_,_,.nil,r=> .cons ⟨rfl,rfl,r⟩ .nil|_,_,.cons h t,r=> .cons h (yQ t r)
theorem Pn{v:V}{u:aj}{Q:Unit->aA->Prop}(hu:A.units+1<iw)(I:Inv X pins σ H s)(d:B4 X.prog X.w H a kvs)(n:jC H k b)(hv:vY kvs k=none)(hz:kvs.length<al)(r:RelV v u)(h:∀s',Inv X pins σ (aP H a (DN X.prog X.w a (kvs++[(k,b,v)]))) s'->Q () s'):aX (bA X.prog X.w) A (dictSet a (.ref b) u) Q E s:=by
 obtain⟨z,hd,xs,lf,dd⟩:=Nh I d;have hl:kvs.length=xs.length:=fw lf;have ha:j3 xs k=none:=by
  have q:=xu lf k;rw[hv]at q;cases e:j3 xs k with|none=>rfl|some p=>rw[e]at q;exact q.elim
 refine wpAny_dictSet_heap (knd:=nk X.prog X.w) (hsz:=by omega) hu (xt I.d5 n) dd λh' Dx hs=>h _ ?_;rw[ze ha]at Dx;obtain⟨o',es,ep,ho,h2,h3,h4,_,h5⟩:=Dx;refine qc I (by rw[d.xf];exact g1) hs ⟨o',ho⟩ (SN ⟨by rw[aw,bp];omega,hd,_,yQ lf r,o',es,ep,ho,h2,h3,h4,h5⟩)
theorem WP{o i kI:Expr}{td ty tv:TE}{pos sd:mZ}(hu:X.A.units+2<iw)(ho:PE X o td)(hi:PE X i ty)(hv:PE X kI tv)(hs:rB kI (some (.Subscript o i sd)) pos.line X.bW=i4 false):PS X (.Assign [.Subscript o i sd] kI pos) (YF X.prog X.w td ty tv):=by
 intro pins s σ H D I h;refine Vj (fJ (hv pins s σ H _ I h) λr s1 ⟨v,H1,I1,rv,q1⟩=>fJ (ho pins s1 σ H1 _ I1 q1) λu s2 ⟨x,H2,I2,rx,q2⟩=>fJ (hi pins s2 σ H2 _ I2 q2) λiv s3 ⟨y,H3,I3,ry,a,b,kvs,k,ex,ey,d,n,hn,hz,q3⟩=>?_) hs;subst ex ey;obtain rfl:u=aY a:=rx;obtain rfl:iv=aY b:=ry;obtain⟨z,hd,xs,lf,dd⟩:=Nh I3 d;have hl:kvs.length=xs.length:=fw lf;have ha:j3 xs k=none:=by
  have q:=xu lf k;rw[hn]at q;cases e:j3 xs k with|none=>rfl|some p=>rw[e]at q;exact q.elim
 refine ade (knd:=nk X.prog X.w) (hsz:=by omega) (SO hu) (xt I3.d5 n) dd λh' Dx KA=>?_;rw[ze ha]at Dx;obtain⟨o',es,ep,zH,h2,h3,h4,_,h5⟩:=Dx;exact⟨σ,_,qc I3 (by rw[d.xf];exact g1) KA ⟨o',zH⟩ (SN ⟨by rw[aw,bp];omega,hd,_,yQ lf rv,o',es,ep,zH,h2,h3,h4,h5⟩),q3⟩
def SR(P:a7)(w:bP)(tk tv:TE):TE:= λσ H Q=>∀p,H p=none->tk σ (aP H p (DN P w p [])) λy H1=>tv σ H1 λv H2=>∃b k,y= .ref b/\H2 p=some (DN P w p [])/\jC H2 k b/\Q (.ref p) (aP H2 p (DN P w p [(k,b,v)]))
theorem SU{ke ve:Expr}{tk tv:TE}{pos:mZ}(hu:X.A.units+1<iw)(hk:PE X ke tk)(hv:PE X ve tv):PE X (.Dict [some ke] [ve] pos) (SR X.prog X.w tk tv):=by
 intro pins s σ H Q I q;have hn:=I.d5.fresh (aB s.heap.objs.size);have I1:=I.rW (a:=s.heap.objs.size) (o:=DN X.prog X.w s.heap.objs.size []) (h':=s.heap.push {cls:= .type "dict",data:= .dict #[]}) (t':=s.toks) (λ_ _ q=>aI _ q) (aB _)
  (SN ⟨bj _,beq_eq_false_iff_ne.mpr (iN (b4 I.big)),[],.nil,_,#[],0,ba _ rfl,⟨rfl,rfl,rfl⟩,rfl,rfl,jr⟩)
 refine wpAny_Dict_any (by rfl) rfl (by simp) (by simp) (ZM (fJ (hk pins _ σ _ _ I1 (q _ hn)) λku s2 ⟨y,H1,I2,ry,q1⟩=>fJ (hv pins s2 σ H1 _ I2 q1) λvu s3 ⟨v,H2,I3,rv,b,k,ey,e,n,q2⟩=>adf ?_));subst ey;obtain rfl:ku=aY b:=ry;unfold storeAll;simp only[X',EX];refine ae (ae (Pn (kvs:=[]) hu I3 ⟨e,λp hp=>by simp at hp⟩ n rfl (by show 0<al;decide) rv λs4 I4=>au ?_));exact au ⟨.ref s.heap.objs.size,_,I4,rfl,q2⟩
end
end L2
section
namespace L2
open PySem PySem.Spec PyProof.Rows
open PySem.W (WData Codec OpenSpec Well WellAll ReadsW ReadsAllW)
mutual
inductive Dw(K:ak)(H:Hp):V->WData->Prop
 |non:Dw K H .non .none
 |bl (b:Bool):Dw K H (.bl b) (.bool b)
 |int (i:Int):Dw K H (.int i) (.int i)
 |str (x:bT):Dw K H (.str x) (.str x)
 |G8 (b:Array UInt8):Dw K H (.G8 b) (.bytes b.toList)
 |be {a:ah} {xs:List V} {ds:List WData}:cv K H a xs->sN K H xs ds->Dw K H (.ref a) (.list ds)
 |bV {a:ah} {xs:List V} {ds:List WData}:eh K H a xs->sN K H xs ds->Dw K H (.ref a) (.tuple ds)
inductive sN(K:ak)(H:Hp):List V->List WData->Prop
 |nil:sN K H [] []
 |cons {v:V} {vs:List V} {d:WData} {ds:List WData}:Dw K H v d->sN K H vs ds->sN K H (v::vs) (d::ds)
end
theorem Ni{K:ak}{H:Hp}:∀ns:List Int,sN K H (ns.map V.int) (ns.map WData.int)
 | []=> .nil|n::r=> .cons (.int n) (Ni r)
theorem Nj{K:ak}{H:Hp}:∀(ns:List Int)(xs:List V),sN K H xs (ns.map WData.int)->xs=ns.map V.int
 | [],xs,h=>by cases h;rfl|n::r,xs,h=>by
  cases h with|cons h1 h2=>cases h1;rw[Nj r _ h2]<;>rfl
section
variable{P:a7}{w:bP}{K:ak}{H:Hp}{h:cX}{R:PySem.W.WRecords}{cl:bT->Option ah}
theorem aaZ{a:ah}{xs:List V}(d5:rV P w H h)(KX:K.In h)(q:cv K H a xs):∃(cc:List aj)(o:gS)(n:Nat),dq xs cc/\h.get? a=some o/\o.cls= .type "list"/\o.data= .seq cc.toArray n:=by
 rcases q with q|⟨o,cc,n,e,hc,_,hd,_,hv⟩
 ·obtain⟨_,cc,n,hv,e⟩:=(show ie P w H h a (.be xs)from q.ok d5);exact⟨cc,_,n,hv,e,rfl,rfl⟩
 ·exact⟨cc.toList,o,n,hv,KX _ _ e,hc,by simp[hd]⟩
theorem aa0{a:ah}{xs:List V}(d5:rV P w H h)(KX:K.In h)(q:eh K H a xs):∃(cc:List aj)(o:gS)(n:Nat),dq xs cc/\h.get? a=some o/\o.cls= .type "tuple"/\o.data= .seq cc.toArray n:=by
 rcases q with q|⟨o,cc,n,e,hc,hd,_,hv⟩
 ·obtain⟨_,cc,hv,o,e,hc,n,hd⟩:=(show ie P w H h a (.bV xs)from q.ok d5);exact⟨cc,o,n,hv,e,hc,hd⟩
 ·exact⟨cc.toList,o,n,hv,KX _ _ e,hc,by simp[hd]⟩
mutual
theorem Dw.YG(d5:rV P w H h)(KX:K.In h):∀(d:WData)(v:V)(u:aj),Dw K H v d->RelV v u->∃as,ReadsW R cl h u d as
 | .none,_,_,x,r=>by cases x;cases r;exact⟨_,ReadsW.none⟩| .bool b,_,_,x,r=>by cases x;cases r;exact⟨_,ReadsW.bool b⟩| .int i,_,_,x,r=>by cases x;obtain⟨t,rfl⟩:=r;exact⟨_,ReadsW.int i t⟩
 | .str s,_,_,x,r=>by cases x;obtain⟨t,rfl⟩:=r;exact⟨_,ReadsW.str s t⟩
 | .bytes b,_,_,x,r=>by cases x;obtain⟨t,rfl⟩:=r;exact⟨_,ReadsW.bytes _ t⟩
 | .list ds,_,_,x,r=>by
  cases x with
  |be hs ha=>cases r;obtain⟨cc,o,n,rv,ho,hc,hd⟩:=aaZ d5 KX hs;obtain⟨as,hr⟩:=Dw.B5 d5 KX ds _ cc ha rv;exact⟨_,ReadsW.list ho hc hd hr⟩
 | .tuple ds,_,_,x,r=>by
  cases x with
  |bV hs ha=>cases r;obtain⟨cc,o,n,rv,ho,hc,hd⟩:=aa0 d5 KX hs;obtain⟨as,hr⟩:=Dw.B5 d5 KX ds _ cc ha rv;exact⟨_,ReadsW.tuple ho hc hd hr⟩
 | .float _,_,_,x,_=>by cases x| .dict _,_,_,x,_=>by cases x| .bytearray _,_,_,x,_=>by cases x| .set _,_,_,x,_=>by cases x| .frozenset _,_,_,x,_=>by cases x| .obj _ _,_,_,x,_=>by cases x
theorem Dw.B5(d5:rV P w H h)(KX:K.In h):∀(ds:List WData)(vs:List V)(us:List aj),sN K H vs ds->dq vs us->∃as,ReadsAllW R cl h us ds as
 | [],_,_,x,r=>by cases x;cases r;exact⟨_,ReadsAllW.nil⟩|d::ds,_,_,x,r=>by
  cases x with
  |cons h1 h2=>
   cases r with
   |cons r1 r2=>obtain⟨as,q1⟩:=Dw.YG d5 KX d _ _ h1 r1;obtain⟨bs,q2⟩:=Dw.B5 d5 KX ds _ _ h2 r2;exact⟨_,ReadsAllW.cons q1 q2⟩
end
end
mutual
def Nk:WData->Bool
 | .none=>true| .bool _=>true| .int _=>true| .str _=>true| .bytes _=>true| .list xs=>Ar xs| .tuple xs=>Ar xs|_=>false
def Ar:List WData->Bool
 | []=>true|x::r=>Nk x&&Ar r
end
theorem IZ{α:Type}{f:α->WData}(h:∀a,Nk (f a)=true):∀l:List α,Ar (l.map f)=true
 | []=>rfl|x::r=>by show(Nk (f x)&&Ar (r.map f))=true;rw[h x,IZ h r]<;>rfl
theorem uo:∀(c:Codec)(a:c.denote),Nk (c.enc a)=true
 | .unit,_=>rfl| .bool,_=>rfl| .int _ _,_=>rfl| .nat _ _,_=>rfl| .u8,_=>rfl| .bytes _ _,_=>rfl| .text _ _ _ _,_=>rfl| .list _ _ c,a=>IZ (λx=>uo c x) a| .pair c d,a=>by show(Nk (c.enc a.1)&&(Nk (d.enc a.2)&&true))=true;rw[uo c a.1,uo d a.2]<;>rfl| .triple c d e,a=>by show(Nk (c.enc a.1)&&(Nk (d.enc a.2.1)&&(Nk (e.enc a.2.2)&&true)))=true;rw[uo c a.1,uo d a.2.1,uo e a.2.2]<;>rfl| .option c,none=>rfl| .option c,some x=>uo c x
theorem EB:∀(cs:List Codec)(a:Codec.denoteAll cs),Ar (Codec.encAll cs a)=true
 | [],_=>rfl|c::cs,a=>by show(Nk (c.enc a.1)&&Ar (Codec.encAll cs a.2))=true;rw[uo c a.1,EB cs a.2]<;>rfl
theorem vZ:∀{xs:List WData}{d:WData},d∈xs->d.weight<=WData.weightAll xs
 | [],d,h=>absurd h (by simp)|x::r,d,h=>by
  show d.weight<=x.weight+1+WData.weightAll r;rcases aU.mp h with e|m
  ·rw[e];omega
  ·have z:=vZ m;omega
def I0:aj->V
 | .none=> .non| .bool b=> .bl b| .int i _=> .int i| .str x _=> .str x| .bytes b _=> .G8 b| .ref a=> .ref a|_=> .non
def Po(A:List ah):aj->Prop
 | .none=>True| .bool _=>True| .int _ _=>True| .str _ _=>True| .bytes _ _=>True| .ref a=>a∈A|_=>False
theorem Po.kg{A B:List ah}(h:∀a∈A,a∈B):∀{u:aj},Po A u->Po B u:= λ{u} x=>by
 cases u with|ref a=>exact h a x|none=>trivial|bool b=>trivial|int i t=>trivial|str s t=>trivial|bytes b t=>trivial|_=>exact fM x
theorem SV{A:List ah}{u:aj}(x:Po A u):RelV (I0 u) u:=by
 cases u with|ref a=>rfl|none=>rfl|bool b=>rfl|int i t=>exact⟨t,rfl⟩|str s t=>exact⟨t,rfl⟩|bytes b t=>exact⟨t,rfl⟩|_=>exact fM x
theorem qY{A:List ah}:∀{vs:List aj},(∀u∈vs,Po A u)->dq (vs.map I0) vs
 | [],_=> .nil|u::r,h=> .cons (SV (h u (aC ..))) (qY λx hx=>h x (az _ hx))
def sO(h:cX)(A:List ah)(a:ah):Prop:=∃vs:List aj,vs.length<=al/\(∀u∈vs,Po A u)/\(h.get? a=some {cls:= .type "list",data:= .seq vs.toArray}\/h.get? a=some {cls:= .type "tuple",data:= .seq vs.toArray})
theorem sO.kg{h:cX}{A B:List ah}{a:ah}(k:∀a∈A,a∈B)(x:sO h A a):sO h B a:=by obtain⟨vs,h1,h2,h3⟩:=x;exact⟨vs,h1,λu hu=>(h2 u hu).kg k,h3⟩
theorem qd{P:CU}{h:cX}:∀{vs:List aj}{ds:List WData},WellAll P h vs ds->vs.length=ds.length
 |_,_,.nil=>rfl|_,_,.cons _ b=>by show _+1=_+1;rw[qd b]
theorem EC{P:CU}{h:cX}{v:aj}{ds:List WData}(x:Well P h v (.list ds)):∃(a:ah)(vs:List aj),v= .ref a/\h.get? a=some {cls:= .type "list",data:= .seq vs.toArray}/\WellAll P h vs ds:=by
 cases x with|list ho pF=>exact⟨_,_,rfl,ho,pF⟩
theorem B6{P:CU}{h:cX}{v:aj}{ds:List WData}(x:Well P h v (.tuple ds)):∃(a:ah)(vs:List aj),v= .ref a/\h.get? a=some {cls:= .type "tuple",data:= .seq vs.toArray}/\WellAll P h vs ds:=by
 cases x with|tuple ho pF=>exact⟨_,_,rfl,ho,pF⟩
theorem ED{P:CU}{h:cX}{us:List aj}{d:WData}{ds:List WData}(x:WellAll P h us (d::ds)):∃(v:aj)(vs:List aj),us=v::vs/\Well P h v d/\WellAll P h vs ds:=by
 cases x with|cons a b=>exact⟨_,_,rfl,a,b⟩
theorem Nl{n:Nat}(h:n<=1048576):n<=al:=aW h (by decide)
section
variable{P:CU}{h:cX}
mutual
theorem SW:∀(d:WData)(v:aj),Well P h v d->Nk d=true->d.weight<=1048576->∃A:List ah,Po A v/\∀a∈A,sO h A a
 | .none,_,x,_,_=>by cases x;exact⟨[],trivial,λa m=>absurd m (by simp)⟩| .bool b,_,x,_,_=>by cases x;exact⟨[],trivial,λa m=>absurd m (by simp)⟩| .int i,_,x,_,_=>by cases x;exact⟨[],trivial,λa m=>absurd m (by simp)⟩| .str s,_,x,_,_=>by cases x;exact⟨[],trivial,λa m=>absurd m (by simp)⟩| .bytes b,_,x,_,_=>by cases x;exact⟨[],trivial,λa m=>absurd m (by simp)⟩| .list ds,_,x,p,z=>by
  obtain⟨a,vs,rfl,ho,pF⟩:=EC x;have z2:WData.weightAll ds<=1048576:=z;obtain⟨A,h1,h2⟩:=xx ds _ pF p λd hd=>aW (vZ hd) z2;have k:∀b∈A,b∈a::A:= λb hb=>az _ hb;refine⟨a::A,aC ..,λb hb=>?_⟩;rcases aU.mp hb with e|m
  ·rw[e];exact⟨vs,Nl (by rw[qd pF];exact aW (PySem.W.length_le_weightAllW ds) z2),λu hu=>(h1 u hu).kg k,.inl ho⟩
  ·exact(h2 b m).kg k
 | .tuple ds,_,x,p,z=>by
  obtain⟨a,vs,rfl,ho,pF⟩:=B6 x;have z2:WData.weightAll ds<=1048576:=z;obtain⟨A,h1,h2⟩:=xx ds _ pF p λd hd=>aW (vZ hd) z2;have k:∀b∈A,b∈a::A:= λb hb=>az _ hb;refine⟨a::A,aC ..,λb hb=>?_⟩;rcases aU.mp hb with e|m
  ·rw[e];exact⟨vs,Nl (by rw[qd pF];exact aW (PySem.W.length_le_weightAllW ds) z2),λu hu=>(h1 u hu).kg k,.inr ho⟩
  ·exact(h2 b m).kg k
 | .float _,_,_,p,_=>Bool.noConfusion (show false=true from p)| .dict _,_,_,p,_=>Bool.noConfusion (show false=true from p)| .bytearray _,_,_,p,_=>Bool.noConfusion (show false=true from p)| .set _,_,_,p,_=>Bool.noConfusion (show false=true from p)| .frozenset _,_,_,p,_=>Bool.noConfusion (show false=true from p)| .obj _ _,_,_,p,_=>Bool.noConfusion (show false=true from p)
theorem xx:∀(ds:List WData)(vs:List aj),WellAll P h vs ds->Ar ds=true->(∀d∈ds,d.weight<=1048576)->∃A:List ah,(∀u∈vs,Po A u)/\∀a∈A,sO h A a
 | [],_,x,_,_=>by cases x;exact⟨[],λu m=>absurd m (by simp),λa m=>absurd m (by simp)⟩|d::ds,_,x,p,z=>by
  obtain⟨v,vs,rfl,x1,x2⟩:=ED x;have q:Nk d=true/\Ar ds=true:=Bool.and_eq_true_iff.mp p;obtain⟨A,a1,a2⟩:=SW d v x1 q.1 (z d (aC ..));obtain⟨B,b1,b2⟩:=xx ds vs x2 q.2 λe he=>z e (az _ he);have kA:∀b∈A,b∈A++B:= λb hb=>bC.mpr (.inl hb);have kB:∀b∈B,b∈A++B:= λb hb=>bC.mpr (.inr hb);refine⟨A++B,λu hu=>?_,λb hb=>?_⟩
  ·rcases aU.mp hu with e|m
   ·rw[e];exact a1.kg kA
   ·exact(b1 u m).kg kB
  ·rcases bC.mp hb with m|m
   ·exact(a2 b m).kg kA
   ·exact(b2 b m).kg kB
end
end
def WQ(o:gS):Option HO:=match o.data with| .seq vs _=>if(o.cls==pP "list")=true then some (.nB o (.be (vs.toList.map I0)))else some (.nB o (.bV (vs.toList.map I0)))|_=>none
def si(K:ak)(h:cX)(A:List ah):Hp:= λb=>if b∈A then(if(K.lookup b).isNone=true then(h.get? b).bind WQ else none)else none
def I_(H:Hp):Prop:=∀b,H b=none\/∃o u,H b=some (.nB o u)
theorem Ja(vs:List aj):WQ {cls:= .type "list",data:= .seq vs.toArray}=some (.nB {cls:= .type "list",data:= .seq vs.toArray} (.be (vs.map I0))):=by show(if(pP "list"==pP "list")=true then some (HO.nB {cls:= .type "list",data:= .seq vs.toArray} (.be (vs.toArray.toList.map I0)))else some (HO.nB {cls:= .type "list",data:= .seq vs.toArray} (.bV (vs.toArray.toList.map I0))))=_;rw[if_pos (beq_self_eq_true _)]
theorem Jb(vs:List aj):WQ {cls:= .type "tuple",data:= .seq vs.toArray}=some (.nB {cls:= .type "tuple",data:= .seq vs.toArray} (.bV (vs.map I0))):=by show(if(pP "tuple"==pP "list")=true then some (HO.nB {cls:= .type "tuple",data:= .seq vs.toArray} (.be (vs.toArray.toList.map I0)))else some (HO.nB {cls:= .type "tuple",data:= .seq vs.toArray} (.bV (vs.toArray.toList.map I0))))=_;rw[if_neg (by decide)]
section
variable{P:a7}{w:bP}{K:ak}{h:cX}{A:List ah}
theorem AS{b:ah}{o:gS}(hb:b∈A)(hk:K.lookup b=none)(e:h.get? b=some o):si K h A b=WQ o:=by unfold si;rw[if_pos hb,hk,if_pos (show(none:Option gS).isNone=true from rfl),e]<;>rfl
theorem WR{b:ah}{u:HO}(q:si K h A b=some u):b∈A/\K.lookup b=none:=by
 unfold si at q;by_cases hb:b∈A
 ·rw[if_pos hb]at q;cases hk:K.lookup b with|none=>exact⟨hb,rfl⟩|some o=>rw[hk,if_neg (by simp)]at q;cases q
 ·rw[if_neg hb]at q;cases q
theorem AT(ar:∀a∈A,sO h A a){b:ah}{u:HO}(q:si K h A b=some u):K.lookup b=none/\∃vs:List aj,vs.length<=al/\(∀u∈vs,Po A u)/\((h.get? b=some {cls:= .type "list",data:= .seq vs.toArray}/\u= .nB {cls:= .type "list",data:= .seq vs.toArray} (.be (vs.map I0)))\/(h.get? b=some {cls:= .type "tuple",data:= .seq vs.toArray}/\u= .nB {cls:= .type "tuple",data:= .seq vs.toArray} (.bV (vs.map I0)))):=by
 obtain⟨hb,hk⟩:=WR q;obtain⟨vs,h1,h2,h3⟩:=ar b hb;refine⟨hk,vs,h1,h2,?_⟩;rcases h3 with e|e
 ·rw[AS hb hk e,Ja]at q;exact .inl ⟨e,(ax q).symm⟩
 ·rw[AS hb hk e,Jb]at q;exact .inr ⟨e,(ax q).symm⟩
theorem Pp(ar:∀a∈A,sO h A a):I_ (si K h A):= λb=>by
 cases q:si K h A b with
 |none=>exact .inl rfl|some u=>
  obtain⟨_,vs,_,_,⟨_,e⟩|⟨_,e⟩⟩:=AT ar q
  ·exact .inr ⟨_,_,by rw[e]⟩
  ·exact .inr ⟨_,_,by rw[e]⟩
theorem WS(ar:∀a∈A,sO h A a):rV P w (si K h A) h:= λb u q=>by
 obtain⟨_,vs,h1,h2,⟨e,rfl⟩|⟨e,rfl⟩⟩:=AT ar q
 ·exact⟨e,by rw[aq];exact h1,vs,_,qY h2,e⟩
 ·exact⟨e,by rw[aq];exact h1,vs,qY h2,_,e,rfl,_,rfl⟩
theorem AU{c c':aj}{vs us:List aj}(e:(some {cls:=c,data:= .seq vs.toArray}:Option gS)=some {cls:=c',data:= .seq us.toArray}):c=c'/\vs=us:=by have e1:=ax e;have e2:c=c':=congrArg gS.cls e1;have e3:Od vs.toArray=Od us.toArray:=congrArg gS.data e1;injection e3 with e4;refine⟨e2,?_⟩;have e5:=congrArg J8 e4;simpa using e5
theorem alp(KX:K.In h)(ar:∀a∈A,sO h A a){a:ah}{vs:List aj}(ha:a∈A)(e:h.get? a=some {cls:= .type "list",data:= .seq vs.toArray}):(∀u∈vs,Po A u)/\cv K (si K h A) a (vs.map I0):=by
 obtain⟨us,h1,h2,h3⟩:=ar a ha;have hu:us=vs:=by
  rcases h3 with q|q
  ·rw[e]at q;exact(AU q).2.symm
  ·rw[e]at q;exact absurd (pP.inj (AU q).1) (by decide)
 subst hu;refine⟨h2,?_⟩;cases hk:K.lookup a with
 |none=>exact .inl (.inr ⟨_,by rw[AS ha hk e,Ja]⟩)|some o=>have e2:=KX a o hk;rw[e]at e2;obtain rfl:=ax e2;exact .inr ⟨_,us.toArray,_,hk,rfl,rfl,rfl,by rw[a9];exact h1,by simpa using qY h2⟩
theorem alq(KX:K.In h)(ar:∀a∈A,sO h A a){a:ah}{vs:List aj}(ha:a∈A)(e:h.get? a=some {cls:= .type "tuple",data:= .seq vs.toArray}):(∀u∈vs,Po A u)/\eh K (si K h A) a (vs.map I0):=by
 obtain⟨us,h1,h2,h3⟩:=ar a ha;have hu:us=vs:=by
  rcases h3 with q|q
  ·rw[e]at q;exact absurd (pP.inj (AU q).1) (by decide)
  ·rw[e]at q;exact(AU q).2.symm
 subst hu;refine⟨h2,?_⟩;cases hk:K.lookup a with
 |none=>exact .inl (.inr ⟨_,by rw[AS ha hk e,Jb]⟩)|some o=>have e2:=KX a o hk;rw[e]at e2;obtain rfl:=ax e2;exact .inr ⟨_,us.toArray,_,hk,rfl,rfl,by rw[a9];exact h1,by simpa using qY h2⟩
mutual
theorem aa1{Pm:CU}(KX:K.In h)(ar:∀a∈A,sO h A a):∀(d:WData)(v:aj),Well Pm h v d->Nk d=true->Po A v->Dw K (si K h A) (I0 v) d
 | .none,_,x,_,_=>by cases x;exact .non| .bool b,_,x,_,_=>by cases x;exact .bl b| .int i,_,x,_,_=>by cases x;exact .int i| .str s,_,x,_,_=>by cases x;exact .str s| .bytes b,_,x,_,_=>by cases x;have z:=Dw.G8 (K:=K) (H:=si K h A) b.toArray;exact z| .list ds,_,x,p,hu=>by obtain⟨a,vs,rfl,ho,pF⟩:=EC x;obtain⟨h2,hs⟩:=alp KX ar hu ho;exact .be hs (FR KX ar ds _ pF p h2)
 | .tuple ds,_,x,p,hu=>by obtain⟨a,vs,rfl,ho,pF⟩:=B6 x;obtain⟨h2,hs⟩:=alq KX ar hu ho;exact .bV hs (FR KX ar ds _ pF p h2)
 | .float _,_,_,p,_=>Bool.noConfusion (show false=true from p)| .dict _,_,_,p,_=>Bool.noConfusion (show false=true from p)| .bytearray _,_,_,p,_=>Bool.noConfusion (show false=true from p)| .set _,_,_,p,_=>Bool.noConfusion (show false=true from p)| .frozenset _,_,_,p,_=>Bool.noConfusion (show false=true from p)| .obj _ _,_,_,p,_=>Bool.noConfusion (show false=true from p)
theorem FR{Pm:CU}(KX:K.In h)(ar:∀a∈A,sO h A a):∀(ds:List WData)(vs:List aj),WellAll Pm h vs ds->Ar ds=true->(∀u∈vs,Po A u)->sN K (si K h A) (vs.map I0) ds
 | [],_,x,_,_=>by cases x;exact .nil|d::ds,_,x,p,hu=>by obtain⟨v,vs,rfl,x1,x2⟩:=ED x;have q:Nk d=true/\Ar ds=true:=Bool.and_eq_true_iff.mp p;exact .cons (aa1 KX ar d v x1 q.1 (hu _ (aC ..))) (FR KX ar ds vs x2 q.2 λu m=>hu u (az _ m))
end
end
theorem Pq{P:a7}{w:bP}{K:ak}{mg mb:bT->Option aj}{CX:QI}{k:Nat}{fa:ah}{fd:fR}{ps:List bT}{sp:Sp}{ir:aA}{DA:List aj}{ds:List WData}{R:PySem.W.WRecords}{cl:bT->Option ah}{d0:WData}(KX:K.In ir.heap)(hns:ir.heap.Ns cb mg)(hb:ir.heap.Ns ac5 mb)(QJ:∀x:bT,x≠"__name__"->mb x=mi x)(alr:ir.heap.NoLimit)(hg:ir.gens= #[])(QK:WellAll w.params ir.heap DA ds)(wx:Ar ds=true)(hwt:∀d∈ds,d.weight<=1048576)(hr:lO k Kl)(F:∀base:cX,K.In base->base.Ns cb mg->dQ P w K mg base CX k fa fd ps sp)(afD:∀(s:aA)(us:List aj),us.length=ps.length->Kg s fd ⟨us,[]⟩ (ps.zip us))(dX:ds.length=ps.length)(O4:∀(H:Hp)(xs:List V),I_ H->sN K H xs ds->sp xs H (λv H'=>Dw K H' v d0) λ_ _ _=>False)(hCX:∀H e s',CX [] H ir (λ_ _ _=>False) e s'->False):pB (bA P w) Kl (.call (.ref fa) ⟨DA,[]⟩) (λr s'=>∃u as,r= .ok (.ret u)/\ReadsW R cl s'.heap u d0 as/\OldK ir.heap s'.heap/\s'.os=ir.os/\D5 s'.gens) ir:=by
 obtain⟨A,ho,ar⟩:=xx ds DA QK wx hwt;have hO:I_ (si K ir.heap A):=Pp ar;have d5:rV P w (si K ir.heap A) ir.heap:=WS ar;have hS:=FR KX ar ds DA QK wx ho;have hV:=qY ho;have hK:∀b u,si K ir.heap A b=some u->K.lookup b=none:= λb u q=>(AT ar q).1;have noA:∀{b:ah}{o:gS}{es:Array fP}{ep:Nat},ir.heap.get? b=some o->o.data= .dict es ep->si K ir.heap A b=none:= λ{b o es ep} e d=>by
  cases q:si K ir.heap A b with
  |none=>rfl|some u=>
   obtain⟨_,vs,_,_,⟨e2,_⟩|⟨e2,_⟩⟩:=AT ar q
   ·rw[e2]at e;cases e;have d':Od vs.toArray _=Data.dict es ep:=d;cases d'
   ·rw[e2]at e;cases e;have d':Od vs.toArray _=Data.dict es ep:=d;cases d'
 generalize si K ir.heap A=H at hO d5 hS hK noA;have Nm:∀{b:ah}{o:gS},ir.heap.get? b=some o->H b=none->(Fu ir.heap H).get? b=some o:= λe n=>RS e n;have nsK:∀{b:ah}{m:bT->Option aj},ir.heap.Ns b m->(Fu ir.heap H).Ns b m:= λ{b m} ⟨o,es,ep,e,d,r⟩=>⟨o,es,ep,Nm e (noA e d),d,r⟩;have nK:∀b o,K.lookup b=some o->H b=none:= λb o e=>by
  cases q:H b with|none=>rfl|some u=>rw[hK b u q]at e;cases e
 have hKb:K.In (Fu ir.heap H):= λb o e=>Nm (KX b o e) (nK b o e);have hM:Mod K mg (Fu ir.heap H):=⟨hKb,nsK hns,⟨mb,nsK hb,QJ⟩,let⟨mc,h1,h2⟩:=alr;⟨mc,nsK h1,h2⟩⟩;have e0:Ix P w K mg (Fu ir.heap H) Kl [] ir H:=⟨rfl,hM,λb o e=>We e,AJ (OT _ _),trivial,λb hb=>absurd (show b∈([]:List ah)from hb) (by simp),d5,.of_eq hg⟩;have hl:DA.length=ps.length:=by rw[qd QK];exact dX
 refine wn ((F _ hKb (nsK hns)).run Kl [] ir H ⟨DA,[]⟩ DA (DA.map I0) _ _ hr e0 (afD ir DA hl) hV (O4 H _ hO hS)) λr s' x=>?_;cases r with
 |error e=>exact(hCX H e s' x).elim|ok fl=>
  cases fl with
  |next=>exact fM x|brk=>exact fM x|cont=>exact fM x|ret u=>
   obtain⟨v,H',os,pG,un,WT,r',q⟩:=x;have k4:∀b o,ir.heap.get? b=some o->s'.heap.get? b=some o:= λb o e=>by
    cases q2:H b with
    |none=>exact un.keep b o e q2 (by intro z;exact absurd (show b∈([]:List ah)from z) (by simp)) (by simp)|some u2=>
     rcases hO b with z|⟨ob,u3,z⟩
     ·rw[q2]at z;cases z
     ·have z2:=un.Ao b ob _ z;obtain⟨e1,_⟩:=d5 b _ z;obtain⟨e2,_⟩:=WT b _ z2;rw[e]at e1;cases e1;exact e2
   have KX':K.In s'.heap:= λb o e=>k4 b o (KX b o e);obtain⟨as,QL⟩:=Dw.YG (R:=R) (cl:=cl) WT KX' d0 v u q r';exact⟨u,as,rfl,QL,OldK.of_keep k4,os,pG⟩
theorem B7{ds:List WData}(h:WData.layableAll ds=true):∀d∈ds,d.weight<=1048576:= λd hd=>(PySem.W.layableW_iff.mp (ik.mp h d hd)).2.2
theorem B8:∀(cs:List Codec)(a:Codec.denoteAll cs),(Codec.encAll cs a).length=cs.length
 | [],_=>rfl|c::cs,a=>by show(Codec.encAll cs a.2).length+1=cs.length+1;rw[B8 cs a.2]
theorem Pr{r:OpenSpec}{k:Nat}{q:a7}{SX:List bT}{XP:(bT->Option aj)->cX->Prop}{YP:bP->cX->Prop}{d:DefRec}{K:CU->ak}{CX:bP->QI}{ps:List bT}{sp:bP->Sp}(SY:r.wellSaid=true)(hdf:d.params.defaults=[])(dX:r.args.length=ps.length)(hr:lO k Kl)(hY:∀(w:bP)(h:cX),YP w h->(K w.params).In h)(F:∀(w:bP)(mg:bT->Option aj)(fa:ah)(h:cX),YP w h->(K w.params).In h->h.Ns cb mg->mg d.name=some (.ref fa)->∃fd:fR,(∀(s:aA)(us:List aj),us.length=ps.length->Kg s fd ⟨us,[]⟩ (ps.zip us))/\∀base:cX,(K w.params).In base->base.Ns cb mg->dQ r.prog w (K w.params) mg base (CX w) k fa fd ps (sp w))(O4:∀(w:bP)(H:Hp)(xs:List V)(a:Codec.denoteAll r.args),I_ H->Codec.withinAll r.args a=true->Codec.app r.args r.asked a=true->sN (K w.params) H xs (Codec.encAll r.args a)->sp w xs H (λv H'=>Dw (K w.params) H' v (r.ret.enc (Codec.app r.args r.f a))) λ_ _ _=>False)(hCX:∀(w:bP)(H:Hp)(s:aA)(e:aj)(s':aA),CX w [] H s (λ_ _ _=>False) e s'->False):PySem.W.WalkOS q SX XP YP r d [] (λf vs=>ah1 f vs):=by intro w Ek ir mg mb G Y fa o pm cd doc dV kV ho hd RL hD hmg hg args DA as alt alu QL QK S0;obtain⟨a,e1,e2⟩:=PySem.W.os_pre_some alt;obtain⟨e3,S1⟩:=Codec.encAll_of_decAll r.args args a e1;subst e3;have KX:=hY w _ Y;obtain⟨fd,hb,hF⟩:=F w mg fa _ Y KX G.T.g hmg;refine PySem.W.enter_call (wn (Pq (R:=[]) (cl:=classAt Ek.heap) (d0:=r.ret.enc (Codec.app r.args r.f a)) KX G.T.g G.T.b G.T.builtins G.T.nolimit hg QK (EB _ _) (B7 alu) hr hF hb (by rw[B8];exact dX) (λH xs hO hS=>O4 w H xs a hO S1 e2 hS) λH e s'=>hCX w H ir e s') λr' s' hq=>?_);obtain⟨u,as',rfl,h1,h2,h3,h4⟩:=hq;exact⟨.inl ⟨u,_,as',rfl,λ_=>rfl,h1,(OpenSpec.post_iff SY S1 _ _).mpr rfl,λz=>Bool.noConfusion (show false=true from z)⟩,h2,h3,h4⟩
theorem Lc{r:OpenSpec}{k:Nat}{q:a7}{SX:List bT}{XP:(bT->Option aj)->cX->Prop}{YP:bP->cX->Prop}{d:DefRec}{K:CU->ak}{CX:QI}{ps:List bT}{sp:ak->Sp}(SY:r.wellSaid=true)(hdf:d.params.defaults=[])(dX:r.args.length=ps.length)(hr:lO k Kl)(hY:∀(w:bP)(h:cX),YP w h->(K w.params).In h)(F:∀(w:bP)(mg:bT->Option aj)(fa:ah)(h:cX),YP w h->(K w.params).In h->h.Ns cb mg->mg d.name=some (.ref fa)->∃fd:fR,(∀(s:aA)(us:List aj),us.length=ps.length->Kg s fd ⟨us,[]⟩ (ps.zip us))/\∀base:cX,(K w.params).In base->base.Ns cb mg->dQ r.prog w (K w.params) mg base CX k fa fd ps (sp (K w.params)))(O4:∀(K:ak)(H:Hp)(xs:List V)(a:Codec.denoteAll r.args),I_ H->Codec.withinAll r.args a=true->Codec.app r.args r.asked a=true->sN K H xs (Codec.encAll r.args a)->sp K xs H (λv H'=>Dw K H' v (r.ret.enc (Codec.app r.args r.f a))) λ_ _ _=>False)(hCX:∀(H:Hp)(s:aA)(e:aj)(s':aA),CX [] H s (λ_ _ _=>False) e s'->False):PySem.W.WalkOS q SX XP YP r d [] (λf vs=>ah1 f vs):=Pr (K:=K) (CX:= λ_=>CX) (sp:= λw=>sp (K w.params)) SY hdf dX hr hY F (λw H xs a h1 h2 h3 h4=>O4 (K w.params) H xs a h1 h2 h3 h4) λ_ H s e s'=>hCX H s e s'
end L2
end
namespace Ex
open PySem
open Sem (wp)
section
variable{prog:a7}{w:bP}{K:Type}[DecidableEq K]{knd:KeyKind prog w K}{A:cT}{E:aj->aA->Prop}{s:aA}
theorem yR{d:ah}{kvs:List (K×aj)}{k:K}{key v:aj}{Q:aj->aA->Prop}(rS:knd.is k key=true)(hm:s.heap.DictOf knd d kvs)(hz:kvs.length<=al)(h1:∀x,on kvs k=some x->Q x {s with toks:=s.toks+1})(h2:on kvs k=none->∀h',h'.DictOf knd d (kvs++[(k,v)])->df d s.heap h'->Q v {s with heap:=h',toks:=s.toks+1}):aX (bA prog w) A (oh d key v) Q E s:=by
 obtain⟨o,es,ep,ho,hc,hd,hk,hp,hn⟩:=hm;have hes:es.size<=al:=by
  have e1:=hp.length;have e2:es.toList.length=es.size:=by simp
  omega
 unfold oh;refine dP (ae (knd.pyHash rS (ae (wpAny_dictFind_of (s:={s with toks:=s.toks+1}) rS ho hd hk ?_))));have afF:(es.toList.findIdx? λe=>knd.is k e.key)=es.findIdx? λe=>knd.is k e.key:=by obtain⟨l⟩:=es;simp
 cases hi:es.findIdx? λe=>knd.is k e.key with
 |some i=>
  obtain⟨e,he,_,hv⟩:=hp.at (afF.trans hi);refine ae (dL (s:={s with toks:=s.toks+1}) ho hd ?_);have V8:es[i]? =some e:=by rw[<-nI];exact he
  rw[V8];exact ae (iW (au (h1 _ hv)))
 |none=>
  have Vo:(kvs.findIdx? λkv=>decide (kv.1=k))=none:=by rw[<-hp.findIdx k,afF,hi]
  have OJ:=not_mem_of_findIdx_none Vo;have hv:on kvs k=none:=by unfold on;rw[fZ,gC];intro x hx q;exact OJ (aQ.mpr ⟨x,hx,of_decide_eq_true q⟩)
  refine ae (iW (ae (zf (hz:=by omega) (s:={s with toks:=s.toks+1}) ho hd (au (h2 hv _ ⟨_,_,ep+1,cu _ ho (lS (fU hd _)),hc.mapDictKeys _,fU hd _,hk.push rS _,?_,?_⟩ (cy ..))))))
  ·have:=hp.append rS (knd.hash k) v;obtain⟨l⟩:=es;simpa using this
  ·rw[aK,f_];exact⟨hn,by simp,λx hx y hy e=>OJ (by
    have:y=k:=by simpa using hy
    rw[<-this,<-e];exact hx)⟩
theorem yS(d:ah){k:K}{key:aj}(rS:knd.is k key=true)(hd:(d==db)=false)(J4:aj):U_ prog w (Builtin.«dict.setdefault» ⟨[.ref d,key,J4],[]⟩) (λ_ R s=>∃kvs,s.heap.DictOf knd d kvs/\kvs.length<=al/\(∀v,on kvs k=some v->R (.ok (.ret v)) {s with toks:=s.toks+1})/\(on kvs k=none->∀h',h'.DictOf knd d (kvs++[(k,J4)])->df d s.heap h'->R (.ok (.ret J4)) {s with heap:=h',toks:=s.toks+1})):= .of_wp λA R s ⟨kvs,hm,hz,h1,h2⟩=>by unfold Builtin.«dict.setdefault» yj;refine ae (ae (lz hm.typeIs ?_));show aX _ _ (i4 (d,key,some J4)) _ _ s;refine au ?_;show aX _ _ (if(d==db)=true then _ else(oh d key J4>>=_)) _ _ s;rw[if_neg (by rw[hd];simp)];exact ae (yR rS hm hz (λv hv=>au ⟨v,rfl,h1 v hv⟩) λhn h' HP KA=>au ⟨J4,rfl,h2 hn h' HP KA⟩)
end
open PySem.AutoSeq1 in
theorem As(l:ah)(items:Array aj)(n:Nat)(b:ah)(o:gS)(B9:Array aj)(n2:Nat)(hc:o.cls= .type "tuple")(hd:o.data= .seq B9 n2)(hs0:¬(!items.isEmpty&&gh (items.size+B9.size))=true)(Z4:items.size<=al)(hs2:items.size+B9.size<=al+1):Meets (Builtin.«list.extend» ⟨[.ref l,.ref b],[]⟩) (λ_ R s=>s.heap.get? l=some {cls:= .type "list",dict:=none,data:= .seq items n,slots:= #[]}/\s.heap.get? b=some o/\R (.ok (.ret dI)) {s with heap:=s.heap.update l (mR λx=>x++B9),toks:=s.toks}):= .of_wp λprog w A R s h=>by
 obtain⟨c,dd,dt,sl⟩:=o;cases hc;cases hd;obtain⟨hp,g,d,tk,os⟩:=s;obtain⟨hl,hb,h⟩:=h;have Wz:(items++B9).size<=al+1:=by rw[Array.size_append];exact hs2
 have f1:=idx_int;have f2:=sub_tuple_tuple;have f3:=sub_list_list;have f4:=sub_tuple_list;have f5:=sub_list_tuple
 wp_walk using(gF hl rfl (hz:=Z4) (_hz':=Wz)),wpAny_loadPart' hl,wpAny_loadPart' hb
 exact⟨_,rfl,h⟩
end Ex
namespace L2
open PySem PySem.Spec PyProof.Rows
theorem pc{α β:Type}{F:α->β->Prop}:∀{l l':List α}{m m':List β},Paired F l m->Paired F l' m'->Paired F (l++l') (m++m')
 |_,_,_,_,.nil,h=>h|_,_,_,_,.cons r t,h=> .cons r (pc t h)
section
variable{X:Cx}
inductive YH(x:V)(xs:List V)(H:Hp)(Q:VK):Prop
 |mk (a:ah) (kvs:List (fE×V)) (k:fE) (y:V) (_:x= .ref a) (_:xs=[kV k,y]) (_:H a=some (.dK kvs)) (_:kvs.length<al) (_:(∀v,iV kvs k=some v->Q v H)) (_:(iV kvs k=none->Q y (aP H a (.dK (kJ kvs k y)))))
theorem WU:MtR X "dict.setdefault" YH:=by
 intro pins s σ H x xs v us Q I rx rxs h;obtain⟨a,kvs,k,y,rfl,rfl,ha,hz,q1,q2⟩:=h;obtain rfl:v=aY a:=rx;obtain⟨u,w',rfl,r1,r2⟩:=vals2 rxs;obtain⟨z,hd,vs,lf,dd⟩:=M0 I.d5 ha;refine iA jR dd.typeIs Ac (zq _ _ _) (Ex.yS (knd:=c_ X.prog X.w) a (vm r1) hd w')
  ⟨vs,dd,by rw[<-lf.length];exact z,λp hp=>?_,λhn h' Dx hs=>?_⟩
 ·have q:=lf.val k;rw[hp]at q;cases e:iV kvs k with|none=>rw[e]at q;exact q.elim|some w2=>rw[e]at q;exact⟨w2,H,I.ww _,q,q1 w2 e⟩
 ·have hn':iV kvs k=none:=by
   have q:=lf.val k;rw[hn]at q;cases e:iV kvs k with|none=>rfl|some w2=>rw[e]at q;exact q.elim
  have alv:kJ kvs k y=kvs++[(k,y)]:=nU _ hn';have hl:(kJ kvs k y).length<=al:=by have:=nT kvs k y;omega
  have he:∃q,h'.get? a=some q:=by obtain⟨o',_,_,ho,_⟩:=Dx;exact⟨o',ho⟩
  refine⟨y,aP H a (.dK (kJ kvs k y)),qc I (by rw[ha];exact g1) hs he (K7 hl hd ?_ Dx),r2,q2 hn'⟩;rw[alv];exact pc lf (.cons ⟨rfl,r2⟩ .nil)
end
abbrev xy:=Option fE
def S2:aj->Bool
 | .none=>true|_=>false
theorem xz{v:aj}(h:S2 v=true):v= .none:=by cases v<;>first|rfl|cases h
def afG:xy->aj->Bool
 |none,v=>S2 v|some k,v=>ua k v
def okH(w:bP):xy->Int
 |none=>CO 0xFCA86420|some k=>aez w k
theorem jD:∀{k:xy}{v:aj},afG k v=true->(k=none/\v= .none)\/∃q,k=some q/\ua q v=true
 |none,v,h=> .inl ⟨rfl,xz h⟩|some q,v,h=> .inr ⟨q,rfl,h⟩
theorem v0(k:fE):ua k .none=false:=by cases k<;>rfl
theorem Jc{prog:a7}{w:bP}{A:cT}{E:aj->aA->Prop}{s:aA}{Q:Int->aA->Prop}(h:Q (CO 0xFCA86420) {s with toks:=s.toks+1}):aX (bA prog w) A (pyHash .none) Q E s:=PySem.W.pyHash_slot (T:="NoneType") rfl F.slot_NoneType_hash F.entry_NoneType_hash (F.args_NoneType_hash_1 _) (ahI _) (.inl rfl) (ae (au (ae (wpAny_mkInt (au ⟨_,_,rfl,h⟩)))))
theorem Jd{prog:a7}{w:bP}{A:cT}{E:aj->aA->Prop}{s:aA}{Q:Bool->aA->Prop}(h:Q true s):aX (bA prog w) A (eqBool .none .none) Q E s:=by
 unfold eqBool;refine dP ?_;show aX _ _ (if(dI==dI)=true then _ else _) Q E s;have e:(dI==dI)=true:=by decide
 rw[if_pos e];exact ae (iW (au h))
theorem afH(k:fE):decide ((some k:xy)=none)=false:=decide_eq_false (λq=>nomatch q)
theorem afI(k:fE):decide ((none:xy)=some k)=false:=decide_eq_false (λq=>nomatch q)
theorem afJ(a b:fE):decide ((some a:xy)=some b)=decide (a=b):=by
 by_cases e:a=b
 ·subst e;simp
 ·rw[decide_eq_false e,decide_eq_false λq=>e (ax q)]
def k7(prog:a7)(w:bP):ZK prog w xy where
 is:=afG
 hash:=okH w
 inj:= λv a b ha hb=>by
  rcases jD ha with⟨rfl,rfl⟩|⟨p,rfl,hp⟩
  ·rcases jD hb with⟨rfl,_⟩|⟨q,rfl,hq⟩
   ·rfl
   ·rw[v0]at hq;cases hq
  ·rcases jD hb with⟨rfl,rfl⟩|⟨q,rfl,hq⟩
   ·rw[v0]at hp;cases hp
   ·rw[(c_ prog w).inj v p q hp hq]
 byValue:= λk v h=>by
  rcases jD h with⟨rfl,rfl⟩|⟨p,rfl,hp⟩
  ·rfl
  ·exact(c_ prog w).byValue p v hp
 pyHash:= λ{A E s k v Q} hv h=>by
  rcases jD hv with⟨rfl,rfl⟩|⟨p,rfl,hp⟩
  ·exact Jc h
  ·exact(c_ prog w).pyHash hp h
 eqBool:= λ{A E s a b u v Q} hu hv h=>by
  rcases jD hu with⟨rfl,rfl⟩|⟨p,rfl,hp⟩
  ·rcases jD hv with⟨rfl,rfl⟩|⟨q,rfl,hq⟩
   ·exact Jd (by rw[decide_eq_true rfl]at h;exact h)
   ·rw[afI]at h;rcases gI hq with⟨j,t,rfl,rfl⟩|⟨y,t,rfl,rfl⟩
    ·exact G3 j t _ _ _ _ h
    ·exact G4 y t _ _ _ _ h
  ·rcases jD hv with⟨rfl,rfl⟩|⟨q,rfl,hq⟩
   ·rw[afH]at h;rcases gI hp with⟨j,t,rfl,rfl⟩|⟨y,t,rfl,rfl⟩
    ·exact G5 j t _ _ _ _ h
    ·exact G6 y t _ _ _ _ h
   ·rw[afJ]at h;exact(c_ prog w).eqBool hp hq h
 «strs»:= λk x t v h=>by
  rcases jD h with⟨rfl,e⟩|⟨p,rfl,hp⟩
  ·exact nomatch e
  ·exact(c_ prog w).strs p x t v hp
def okV:xy->V
 |none=> .non|some k=>kV k
theorem aa4{P:a7}{w:bP}{k:xy}{u:aj}(r:RelV (okV k) u):(k7 P w).is k u=true:=by
 cases k with
 |none=>obtain rfl:u=dI:=r;rfl
 |some q=>exact vm (P:=P) (w:=w) (k:=q) r
theorem B_{P:a7}{w:bP}:∀{ks:List xy}{us:List aj},dq (ks.map okV) us->ItemsAre (k7 P w) ks us
 | [],_,.nil=> .nil|_::_,_,.cons r t=> .cons (aa4 r) (B_ t)
theorem EE{P:a7}{w:bP}:∀{ks:List fE}{us:List aj},ItemsAre (c_ P w) ks us->ItemsAre (k7 P w) (ks.map some) us
 |_,_,.nil=> .nil|_,_,.cons r t=> .cons r (EE t)
theorem S3{P:a7}{w:bP}{h:cX}{a:ah}{vs:List (fE×aj)}(dd:h.DictOf (c_ P w) a vs):∃f,h.MapOf (k7 P w) a f/\f none=none:=by
 obtain⟨o,es,ep,ho,hc,hd,hk,hp,hn⟩:=dd;refine⟨findBy (k7 P w).is es,⟨o,es,ep,ho,hc,hd,λe he=>?_,λ_=>rfl⟩,?_⟩
 ·obtain⟨k,h1,h2⟩:=hk e he;exact⟨some k,h1,h2⟩
 ·unfold findBy;rw[fZ,Array.find?_eq_none];intro e he q;obtain⟨k,h1,_⟩:=hk e he;have e0:=xz (v:=e.key) q;rw[e0]at h1;have:ua k .none=true:=h1;rw[v0]at this;cases this
theorem S4{P:a7}{w:bP}(k:List fE):gn (k7 P w) (k.map some)=gn (c_ P w) k:=by unfold gn;rw[bS];rfl
theorem xA:∀{p q:List fE},p.map some=q.map some->p=q
 | [],[],_=>rfl| [],_::_,e=>by cases e|_::_,[],e=>by cases e|a::p,b::q,e=>by have h:=da e;rw[ax h.1,xA h.2]
theorem S5{P:a7}{w:bP}{h:cX}{a:ah}{xs:List (List fE×ah×aj)}(dd:h.DictOfH (iO (c_ P w)) a xs):h.DictOfH (iO (k7 P w)) a (xs.map λx=>(x.1.map some,x.2.1,x.2.2)):=by
 obtain⟨o,es,ep,ho,hc,hd,he,V7,hn⟩:=dd;refine⟨o,es,ep,ho,hc,hd,?_,λx hx=>?_,?_⟩
 ·rw[he,bS];refine cZ λx _=>?_;show(⟨gn (c_ P w) x.1,.ref x.2.1,x.2.2⟩:fP)=⟨gn (k7 P w) (x.1.map some),.ref x.2.1,x.2.2⟩;rw[S4]
 ·obtain⟨y,hy,rfl⟩:=aQ.mp hx;obtain⟨o',cc,n,h1,h2,h3,h4⟩:=V7 y hy;exact⟨o',cc,n,h1,h2,h3,EE h4⟩
 ·rw[bS];have e:(λx:List xy×ah×aj=>x.1) ∘ (λx:List fE×ah×aj=>(x.1.map some,x.2.1,x.2.2))=(λk:List fE=>k.map some) ∘ (λx=>x.1):=rfl;rw[e,<-bS];exact dF.mpr (hn.imp λ{p q} ne e=>ne (xA e))
theorem S6{xs:List (List fE×ah×aj)}{k:List xy}(hk:none∈k):j3 (xs.map λx=>(x.1.map some,x.2.1,x.2.2)) k=none:=by unfold j3;rw[fZ,gC];intro x hx q;obtain⟨y,_,rfl⟩:=aQ.mp hx;have e:y.1.map some=k:=of_decide_eq_true q;rw[<-e]at hk;obtain⟨z,_,ez⟩:=aQ.mp hk;cases ez
theorem Nn{P:a7}{w:bP}{H:Hp}{h:cX}{a:ah}{ks:List xy}(ok:rV P w H h)(e:H a=some (.bV (ks.map okV))):(iO (k7 P w)).is h ks a:=by obtain⟨z,us,r,o,ho,hc,n,hd⟩:=ok a _ e;exact⟨o,_,n,ho,hc,hd,by simpa using B_ r⟩
def Ps(H:Hp)(a:ah)(y:V)(r:Option V):Prop:=lx H a y r\/(r=none/\y= .non/\∃kvs,Rd H a (.dK kvs))\/(r=none/\∃(kvs:List (List fE×V))(k:List xy)(b:ah),Rd H a (.dT kvs)/\y= .ref b/\H b=some (.bV (k.map okV))/\none∈k)
section
variable{X:Cx}{pins:List (ah×gS)}{σ:St}{H:Hp}{s:aA}{a:ah}{y d:V}{u r:aj}{o:Option V}{A:cT}{E:aj->aA->Prop}
theorem aa5{Q:aj->aA->Prop}(hu:A.units+1<iw)(I:Inv X pins σ H s)(g:Ps H a y o)(ry:RelV y u)(h:∀w' s',Inv X pins σ H s'->RelV (o.getD .non) w'->Q w' s'):aX (bA X.prog X.w) A (call (.builtin "dict.get") [.ref a,u]) Q E s:=by
 rcases g with g|⟨rfl,rfl,kvs,e⟩|⟨rfl,kvs,k,b,e,rfl,eb,hk⟩
 ·exact aaN hu I g ry h
 ·obtain⟨z,hd,vs,lf,dd⟩:=vn I.d5 e;obtain rfl:u=dI:=ry;obtain⟨f,hm,hf⟩:=S3 dd;refine iA du dd.typeIs e6 (l6 _ _) (meets_dict_get (k7 X.prog X.w) a (k:=none) rfl hd) ⟨f,hm,h _ _ (I.ww _) ?_⟩;rw[hf];rfl
 ·cases (show u=aY b from ry);obtain⟨z,hd,xs,lf,dd⟩:=vo I.d5 e;refine iA du dd.typeIs e6 (l6 _ _) (meetsH_dict_get (iO (k7 X.prog X.w)) a b hd) ⟨e_ hu,k,_,Nn I.d5 eb,S5 dd,h _ _ (I.ww _) ?_⟩;rw[S6 hk];rfl
theorem aa6{Q:aj->aA->Prop}(hu:A.units+1<iw)(I:Inv X pins σ H s)(g:Ps H a y o)(ry:RelV y u)(rd:RelV d r)(h:∀w' s',Inv X pins σ H s'->RelV (o.getD d) w'->Q w' s'):aX (bA X.prog X.w) A (call (.builtin "dict.get") [.ref a,u,r]) Q E s:=by
 rcases g with g|⟨rfl,rfl,kvs,e⟩|⟨rfl,kvs,k,b,e,rfl,eb,hk⟩
 ·exact SA hu I g ry rd h
 ·obtain⟨z,hd,vs,lf,dd⟩:=vn I.d5 e;obtain rfl:u=dI:=ry;obtain⟨f,hm,hf⟩:=S3 dd;refine iA du dd.typeIs e6 (l7 _ _ _) (Vk (k7 X.prog X.w) a (k:=none) rfl hd r) ⟨f,hm,h _ _ (I.ww _) ?_⟩;rw[hf];exact rd
 ·cases (show u=aY b from ry);obtain⟨z,hd,xs,lf,dd⟩:=vo I.d5 e;refine iA du dd.typeIs e6 (l7 _ _ _) (Q3 (iO (k7 X.prog X.w)) a b hd r) ⟨e_ hu,k,_,Nn I.d5 eb,S5 dd,h _ _ (I.ww _) ?_⟩;rw[S6 hk];exact rd
end
inductive WV(ty:TE)(σ:St)(Q:VK)(x:V)(H1:Hp):Prop
 |mk (a:_) (_:x= .ref a) (_:IsD H1 a) (_:ty σ H1 λy H2=>∃o,Ps H2 a y o/\Q (o.getD .non) H2)
def aa7(td ty:TE):TE:= λσ H Q=>td σ H λx H1=>WV ty σ Q x H1
inductive WW(ty tx:TE)(σ:St)(Q:VK)(x:V)(H1:Hp):Prop
 |mk (a:_) (_:x= .ref a) (_:IsD H1 a) (_:ty σ H1 λy H2=>tx σ H2 λz H3=>∃o,Ps H3 a y o/\Q (o.getD z) H3)
def aa8(td ty tx:TE):TE:= λσ H Q=>td σ H λx H1=>WW ty tx σ Q x H1
section
variable{X:Cx}{o e f:Expr}{lE lP:mZ}{td ty tx:TE}
theorem B'(hu:X.A.units+1<iw)(ho:PE X o td)(he:PE X e ty)(m:M1 X o "get" lE e lP):PE X (.Call (.Attribute o "get" lE) [e] [] lP) (aa7 td ty):=by intro pins s σ H Q I h;refine tI m.base m.De m.line fX du tF (fJ (ho pins s σ H _ I h) λu s1 ⟨x,H1,I1,rx,a,ex,d,q1⟩=>?_);subst ex;obtain rfl:u=aY a:=rx;obtain⟨t1,t2,_⟩:=K9 I1 d;refine⟨t1,t2,?_⟩;rw[m.M4];refine jQ rfl (om (jP (fJ (he pins s1 σ H1 _ I1 q1) λiv s2 ⟨y,H2,I2,ry,ov,g,q2⟩=>qL ?_)));exact aa5 hu I2 g ry λw' s3 I3 IC=>⟨_,H2,I3,IC,q2⟩
theorem S7(hu:X.A.units+1<iw)(ho:PE X o td)(he:PE X e ty)(hf:PE X f tx)(m:M2 X o "get" lE e f lP):PE X (.Call (.Attribute o "get" lE) [e,f] [] lP) (aa8 td ty tx):=by intro pins s σ H Q I h;refine tI m.base m.De m.line fX du tF (fJ (ho pins s σ H _ I h) λu s1 ⟨x,H1,I1,rx,a,ex,d,q1⟩=>?_);subst ex;obtain rfl:u=aY a:=rx;obtain⟨t1,t2,_⟩:=K9 I1 d;refine⟨t1,t2,?_⟩;rw[m.M4];refine jQ rfl (om (jP (fJ (he pins s1 σ H1 _ I1 q1) λiv s2 ⟨y,H2,I2,ry,q2⟩=>jP (fJ (hf pins s2 σ H2 _ I2 q2) λfv s3 ⟨z,H3,I3,rz,ov,g,q3⟩=>qL ?_))));exact aa6 hu I3 g ry rz λw' s4 I4 IC=>⟨_,H3,I4,IC,q3⟩
end
section
variable{X:Cx}
inductive S8(x:V)(vs:List V)(H:Hp)(Q:VK):Prop
 |mk (l b xs zs:_) (_:x= .ref l) (_:vs=[.ref b]) (_:H l=some (.be xs)) (_:H b=some (.bV zs)) (_:xs.length+zs.length<=al) (_:Q .non (aP H l (.be (xs++zs))))
theorem Ld:MtM X "list.extend" S8:=by
 intro pins s σ H x vs v us Q I rx rv h;obtain⟨l,b,xs,zs,rfl,rfl,hH,hB,hz,q⟩:=h;cases rx;obtain⟨u,rfl,ru⟩:=rv.Yi;cases ru;obtain⟨z,cc,n,r,hl,e⟩:=I.IE hH;obtain⟨z2,Ap,r2,o2,e2,c2,n2,d2⟩:=I.d5 b _ hB;have oR:=r2.length;have hsz:cc.toArray.size+Ap.toArray.size<=al:=by rw[a9,a9];omega
 have IF:¬(!cc.toArray.isEmpty&&gh (cc.toArray.size+Ap.toArray.size))=true:=by rw[BX hsz,EW];exact bn
 refine wo j7 ⟨_,e,rfl⟩ VN (Vi _ _)
  (Ex.As l cc.toArray n b o2 Ap.toArray n2 c2 d2 IF (by rw[a9];omega) (by omega)) ⟨e,e2,?_⟩
 refine⟨.non,_,I.Wv (its':=cc++Ap) hH e (by simp) (r.append r2) ?_,rfl,q⟩;rw[aw];omega
end
theorem Le{J:It}{n:Nat}{g:TG}{tb:TS}{D:rX}{σ:St}{H:Hp}(Pv:Nat->St->Hp->Prop)(h0:Pv 0 σ H)(hgo:∀i σ H,i<n->Pv i σ H->J.go i H)(qJ:∀σ H,Pv n σ H->J.stop n H)(hs:∀i x σ H H',i<n->Pv i σ H->J.Ip i H x H'->g x σ H' λkh H2=>tb {D with nx:=Pv (i+1),ct:=Pv (i+1),bk:=D.nx} kh H2)(hd:∀σ H,Pv n σ H->D.nx σ H):∃W:Nat->Nat->St->Hp->Prop,(∃m,W 0 m σ H)/\∀i m σ H,W i m σ H->(J.stop i H/\D.nx σ H)\/(J.go i H/\∃N:St->Hp->Prop,(∀h9 H',N h9 H'->∃m',m'<m/\W (i+1) m' h9 H')/\∀x H',J.Ip i H x H'->g x σ H' λkh H2=>tb {D with nx:=N,ct:=N,bk:=D.nx} kh H2):=by
 refine⟨λi m σ H=>m=n-i/\i<=n/\Pv i σ H,⟨n,by simp,bj _,h0⟩,?_⟩;rintro i m σ H ⟨rfl,hi,p⟩;by_cases f8:i<n
 ·exact .inr ⟨hgo i σ H f8 p,Pv (i+1),λh9 H' p'=>⟨n-(i+1),by omega,rfl,f8,p'⟩,λx H' y=>hs i x σ H H' f8 p y⟩
 ·have e:i=n:=by omega
  subst e;exact .inl ⟨qJ σ H p,hd σ H p⟩
theorem YI{J:It}{n:Nat}{g:TG}{tt:TT}{te:TE}{vs:List Nat}{σ:St}{H1:Hp}{D:ah}{Qd:Hp->Prop}(Pv:Nat->Hp->Prop)(h0:Pv 0 (aP H1 D (.be [])))(hgo:∀i H,i<n->Pv i H->J.go i H)(qJ:∀H,Pv n H->J.stop n H)(hs:∀i x H H',i<n->Pv i H->J.Ip i H x H'->g x (iU σ vs) H' λkh H2=>iU kh vs=iU σ vs/\tt kh H2 λb H3=>if b=true then te kh H3 λy H4=>∃acc,H4 D=some (.be acc)/\acc.length<al/\Pv (i+1) (aP H4 D (.be (acc++[y])))else Pv (i+1) H3)(hd:∀H,Pv n H->Qd H):∃W:Nat->Nat->Hp->Prop,(∃m,W 0 m (aP H1 D (.be [])))/\∀i m H,W i m H->(J.stop i H/\Qd H)\/(J.go i H/\∃Nx:Hp->Prop,(∀H',Nx H'->∃m',m'<m/\W (i+1) m' H')/\∀x H',J.Ip i H x H'->g x (iU σ vs) H' λkh H2=>iU kh vs=iU σ vs/\tt kh H2 λb H3=>if b=true then te kh H3 λy H4=>∃acc,H4 D=some (.be acc)/\acc.length<al/\Nx (aP H4 D (.be (acc++[y])))else Nx H3):=by
 refine⟨λi m H=>m=n-i/\i<=n/\Pv i H,⟨n,by simp,bj _,h0⟩,?_⟩;rintro i m H ⟨rfl,hi,p⟩;by_cases f8:i<n
 ·exact .inr ⟨hgo i H f8 p,Pv (i+1),λH' p'=>⟨n-(i+1),by omega,rfl,f8,p'⟩,λx H' y=>hs i x H H' f8 p y⟩
 ·have e:i=n:=by omega
  subst e;exact .inl ⟨qJ H p,hd H p⟩
end L2
namespace Mv
open PySem PySem.Spec PyProof.Rows L2 Mt
open Vaglrc (Sym Rule Grammar)
variable{P:a7}{X:Cx}{pos:mZ}{x:bT}{a f C q d:ah}{b i k c:Nat}{r:eA}{H H' H0:Hp}{o:HO}{l cN ks s:List Nat}{qs S:List ah}{rs:List (Nat×Nat)}{α β:Type}{fd:fR}{K:ak}{g:aL}{t:cK}{w:bP}{T:Nat->List (Nat×Nat)}{ad:Nat->ah}
theorem ml{N P:List bT}{sc:mY}(a:sc.kind= .function:=by rfl)(b:sc.isCoroutine=false:=by rfl)(c:sc.isGenerator=false:=by rfl)(d:N.Nodup:=by decide+kernel)(e:N.take P.length=P:=by rfl)(f:∀x∈P,sc.names.lookup x=some .local\/sc.names.lookup x=some .cell:=by decide+kernel)(g:∀y∈sc.names,y.2≠.free:=by decide+kernel):bU N P sc:=⟨a,b,c,d,e,f,g⟩
theorem g9{sd:mZ}(i:Nat){e:Expr}{te:TE}(hN:X.N.Nodup)(he:PE X e te)(hi:X.N[i]? =some x:=by rfl)(hx:Loc X.bW.scope x:=by exact l8 rfl)(hs:rB e (some (.Name x sd)) pos.line X.bW=i4 false:=by rfl)(hf:X.fn x=true\/X.bW.scope.names.lookup x=some .local:=by first|exact .inl rfl|exact .inr rfl|assumption):PS X (.Assign [.Name x sd] e pos) (KL te (ow i)):=vS hN hi hx he hs hf
theorem nr(i:Nat)(hN:X.N.Nodup)(hi:X.N[i]? =some x:=by rfl)(hx:Loc X.bW.scope x:=by exact l8 rfl)(hf:X.fn x=true\/X.bW.scope.names.lookup x=some .local:=by first|exact .inl rfl|exact .inr rfl|assumption):PG X (.Name x pos) (ow i):=ML hN hi hx hf
theorem ft{a b:Expr}{ta tb:TE}{r:R2}(hr:IxR X r)(ha:PE X a ta)(hb:PE X b tb)(hs:MX b:=by exact λ_ _=>rfl):PE X (.Subscript a b pos) (Yu r ta tb):=Eu hr ha hb hs
def mm(i:Nat):dZ:=adh.main.body.getD i (.Pass ⟨0,0,0,0⟩)
theorem aE.aP{H:Hp}{p:ah}{o:HO}(h:H p=none):aE H (aP H p o):= λb u e=>by rw[aF (aH e h)];exact e
theorem aE.kj{p:ah}(s:aE H H')(h:H' p=none):aE H (L2.aP H' p o):=s.trans (aE.aP h)
theorem cF{b:Bool}{A B:Prop}(h:b=true)(a:A):if b=true then A else B:=by rw[if_pos h];exact a
theorem bZ{b:Bool}{A B:Prop}(h:b=false)(a:B):if b=true then A else B:=by rw[h];exact alc a
theorem dV{i j:Int}(h:i=j):decide (V.int i=V.int j)=true:=decide_eq_true (by rw[h])
theorem mh{i j:Int}(h:i≠j):decide (V.int i=V.int j)=false:=decide_eq_false λe=>h (V.int.inj e)
structure jL(P:a7)(w:bP)(K:ak)(mg:bT->Option aj)(base:cX)(x:bT)(k:Nat)(ps:List bT)(sp:Sp):Prop where
 ex:∃(f:ah)(fd:fR),dQ P w K mg base ki k f fd ps sp/\mg x=some (.ref f)/\fk K (.ref f)=true/\Binds K fd ps []
section
variable{X:Cx}{k j:Nat}{ps:List bT}{sp:Sp}{x:bT}{p pos:mZ}{e:Expr}{es:List Expr}{t:TA}
theorem cO(G:jL X.prog X.w X.K X.mg X.base x k ps sp)(hr:lO j X.A)(hk:k<=j)(hg:Gl X x)(ha:PA X (e::es) t)(H_:(x==("__debug__":bT))=false:=by decide)(he:cn (e::es) X.bW=(false,fL e X.bW)::cn es X.bW:=by rfl)(wx:(jd pos (cn es X.bW)).any (·.1)=false:=by rfl):PE X (.Call (.Name x p) (e::es) [] pos) (Se sp [] E0 t):=by obtain⟨f,fd,F,h1,h2,h3⟩:=G.ex;exact Wp F (hr.kg hk) hg h1 h2 h3 .nil Nb ha H_ he wx
end
structure YJ(P:a7)(w:bP)(K:ak)(mg:bT->Option aj)(base:cX)(x:bT)(C:ah)(k:Nat)(ps:List bT)(sp:Sp):Prop where
 ex:∃(f:ah)(fd:fR),Mk K C f/\dQ P w K mg base ki k f fd ps sp/\mg x=some (.ref C)/\Binds K fd ps []
structure MeB(P:a7)(w:bP)(K:ak)(mg:bT->Option aj)(base:cX)(x:bT)(C:ah)(k:Nat)(ps:List bT)(sp:Sp):Prop where
 ex:∃(f:ah)(fd:fR),Wn K C x f/\dQ P w K mg base ki k f fd ps sp/\Binds K fd ps []
section
variable{X:Cx}{k j:Nat}{ps:List bT}{sp:Sp}{x:bT}{C:ah}{p pos:mZ}{e:Expr}{es:List Expr}{t:TA}
theorem No(G:YJ X.prog X.w X.K X.mg X.base x C k ps sp)(hr:lO j X.A)(hk:k+1<=j)(hg:Gl X x)(ha:PA X (e::es) t)(H_:(x==("__debug__":bT))=false:=by decide)(he:cn (e::es) X.bW=(false,fL e X.bW)::cn es X.bW:=by rfl)(wx:(jd pos (cn es X.bW)).any (·.1)=false:=by rfl):PE X (.Call (.Name x p) (e::es) [] pos) (MT C sp [] E0 t):=by obtain⟨f,fd,M,F,h1,h3⟩:=G.ex;exact Wq M F (hr.kg hk) hg h1 h3 .nil Nb ha H_ he wx
end
inductive ly(mg:bT->Option aj)(x:bT)(i:Int):Prop
 |mk (u:_) (_:mg x=some u) (_:RelV (.int i) u)
theorem lQ{i:Int}(h:ly X.mg x i)(hg:Gl X x)(hd:(x==("__debug__":bT))=false:=by decide):PE X (.Name x pos) (tC (.int i)):=by obtain⟨u,h1,h2⟩:=h;exact Wh hg h1 h2 hd
def nV(n:Nat):V:= .int (n:Int)
def eS(l:List Nat):List V:=l.map nV
def v1:mq->List V
 | .non k=>[.int 0,nV k]| .range lo hi=>[.int 1,nV lo,nV hi]
def uq(H:Hp)(y:mq)(a:ah):Prop:=H a=some (.bV (v1 y))
def qw(H:Hp)(l:List mq)(qs:List ah):Prop:=Paired (uq H) l qs
inductive j1(H:Hp)(r:eA)(a:ah):Prop
 |mk (t:ah) (qs:List ah) (_:H a=some (.bV [nV r.lhs,.ref t])) (_:H t=some (.bV (qs.map V.ref))) (_:qw H r.rhs qs)
def eY(H:Hp)(rs:List eA)(as:List ah):Prop:=Paired (j1 H) rs as
theorem uq.keeps(s:aE H H'){y:mq}(h:uq H y a):uq H' y a:=s _ _ h
theorem qw.keeps(s:aE H H'){l:List mq}(h:qw H l qs):qw H' l qs:=Paired.gJ h λ_ _ z=>z.keeps s
theorem j1.keeps(s:aE H H')(h:j1 H r a):j1 H' r a:=by obtain⟨t,qs,h1,h2,h3⟩:=h;exact⟨t,qs,s _ _ h1,s _ _ h2,h3.keeps s⟩
theorem eY.keeps(s:aE H H'){rs:List eA}{as:List ah}(h:eY H rs as):eY H' rs as:=Paired.gJ h λ_ _ z=>z.keeps s
theorem cJ{α β:Type}{F:α->β->Prop}:∀{l:List α}{m:List β}{x:α}{y:β},Paired F l m->F x y->Paired F (l++[x]) (m++[y])
 |_,_,_,_,.nil,h=> .cons h .nil|_,_,_,_,.cons r t,h=> .cons r (cJ t h)
theorem a6{F:α->β->Prop}{l:List α}{m:List β}(h:Paired F l m):l.length=m.length:=fw h
theorem b0{α β:Type}{F:α->β->Prop}:∀{l:List α}{m:List β},Paired F l m->∀{i:Nat}{y:β},m[i]? =some y->∃x,l[i]? =some x/\F x y
 |_,_,.nil,i,y,e=>by simp at e|_,_,.cons r t,0,y,e=>by have e':=ax e;subst e';exact⟨_,rfl,r⟩|_,_,.cons r t,i+1,y,e=>by obtain⟨x,h1,h2⟩:=b0 t (i:=i) (y:=y) (by simpa using e);exact⟨x,by simpa using h1,h2⟩
theorem uT{n:Nat}(h:l[i]? =some n):(eS l)[i]? =some (nV n):=by unfold eS;rw[aM,h];rfl
structure Gm(mg:bT->Option aj):Prop where
 nt:ly mg "NONTERMINAL" 0
 rg:ly mg "RANGE" 1
 mn:ly mg "MOST_NONTERMINALS" 20
 mr:ly mg "MOST_RULES" 60
 ms:ly mg "MOST_SYMBOLS" 8
 lb:ly mg "LAST_BYTE" 255
 te:ly mg "THE_END" 256
 mst:ly mg "MOST_STATES" 128
 mo:ly mg "MOVE_ON" 0
 pt:ly mg "PUT_TOGETHER" 1
 ac:ly mg "ACCEPT" 2
 r1:ly mg "WRONG_NUMBER" (-1)
 r2:ly mg "NO_GRAMMAR_ROW" (-2)
 r3:ly mg "TOO_LONG" (-3)
 r4:ly mg "NO_SUCH_STATE" (-4)
 r5:ly mg "NO_SYMBOL" (-5)
 r6:ly mg "TOO_MANY_STATES" (-6)
 r7:ly mg "HAS_CONFLICTS" (-7)
 r8:ly mg "TOO_MANY_STEPS" (-8)
 mnu:ly mg "MOST_NUMBERS" 200
 mby:ly mg "MOST_BYTES" 200
 mss:ly mg "MOST_STEPS" 4000
 c0:ly mg "LOAD" 0
 c1:ly mg "CLASSES" 1
 c2:ly mg "STATES" 2
 c3:ly mg "ITEMS" 3
 c4:ly mg "MOVES" 4
 c5:ly mg "COMPLETE" 5
 c6:ly mg "ACTS" 6
 c7:ly mg "GO" 7
 c8:ly mg "CONFLICTS" 8
 fD:mg "len"=none
 tuple:mg "tuple"=none
 list:mg "list"=none
 sum:mg "sum"=none
 all:mg "all"=none
 any:mg "any"=none
 xB:mg "reversed"=none
 range:mg "range"=none
 sorted:mg "sorted"=none
 min:mg "min"=none
 max:mg "max"=none
 nu:mg "enumerate"=none
variable{P:a7}{w:bP}{K:ak}{mg:bT->Option aj}{base:cX}{Cg C CH CL:ah}
abbrev ur:dZ:=mm 9
inductive xC(K:ak)(vs:List V)(H:Hp)(Q:VK)(E_:XK):Prop
 |mk (a:ah) (x:List Nat) (p n:Nat) (_:vs=[.ref a,nV p,nV n]) (_:cv K H a (eS x)) (_:(jK n (x.drop p)=none->∀H',aE H H'->Q .non H')) (_:∀y,jK n (x.drop p)=some y->∀H' q,aE H H'->uq H' y q->Q (.ref q) H')
theorem xD:bU ["row","place","nonterminals","head"] ["row","place","nonterminals"] (a5 ur):=ml
theorem afK(x:List Nat)(p:Nat):qV (eS x) (some (p:Int)) (some ((p:Int)+3))=eS ((x.drop p).take 3):=by
 unfold qV eS;have e1:HT.u6 (x.map nV).length 0 (some (p:Int))=min p x.length:=by
  simp only[HT.u6,aq]
  first|(split<;>omega)|omega
 have e2:HT.u6 (x.map nV).length (x.map nV).length (some ((p:Int)+3))=min (p+3) x.length:=by
  simp only[HT.u6,aq]
  first|(split<;>omega)|omega
 rw[e1,e2,<-Hu,<-oq];congr 1;by_cases h:p<=x.length
 ·rw[show min p x.length=p by omega];by_cases h':p+3<=x.length
  ·rw[show min (p+3) x.length-p=3 by omega]
  ·rw[e8 (by rw[eC];omega),e8 (by rw[eC];omega)]
 ·rw[jW (show x.length<=min p x.length by omega),jW (show x.length<=p by omega)];simp
theorem Ca(F:lg K "read_symbol" "read_symbol" ur f fd)(T:Gm mg):dQ P w K mg base ki 1 f fd ["row","place","nonterminals"] (xC K):=by
 refine F.ok xD (λvs H Q E h=>?_) (λgl A bN s H vs Q E hr h=>?_)
 ·obtain⟨a,x,p,n,rfl,_⟩:=h;rfl
 ·obtain⟨a,x,p,n,rfl,hS,q0,q1⟩:=h;have nd:=xD.nd;refine⟨_,am (g9 3 nd (uf xi (pv 0) (pZ (pv 1)) (pZ (e7 i9 (pv 1) aR)))) (am (dD (PW.pt (r_ (bY aeY (cg bM rfl T.fD bB (af (pv 3) aD)) aR (ck _)) (r_ (bY g8 (ft b_ (pv 3) aR) (lQ T.nt rfl) (ck _)) (r9 (pb mO ue aR (ft b_ (pv 3) aR) (pv 2)))))) (aJ (bG (ii (af (lQ T.nt rfl) (af (ft b_ (pv 3) aR) aD))))) b5) (am (dD (PW.pt (r_ (bY g8 (cg bM rfl T.fD bB (af (pv 3) aD)) aR (ck _)) (r_ (bY g8 (ft b_ (pv 3) aR) (lQ T.rg rfl) (ck _)) (r9 (Pk mO mO mO aR (ft b_ (pv 3) aR) (ft b_ (pv 3) aR) (lQ T.lb rfl)))))) (aJ (bG (ii (af (lQ T.rg rfl) (af (ft b_ (pv 3) aR) (af (ft b_ (pv 3) aR) aD)))))) b5) (aJ (bG gd)))),?_⟩;refine⟨_,rfl,_,rfl,_,rfl,_,rfl,_,_,rfl,rfl,_,rfl,a,_,rfl,hS,λl hl=>?_⟩;have s1:aE H (aP H l (.be (qV (eS x) (some (p:Int)) (some ((p:Int)+3))))):=aE.aP hl;rw[afK]at s1;show OV _ _ _ _ (aP H l (.be (qV (eS x) (some (p:Int)) (some ((p:Int)+3)))));rw[afK];generalize x.drop p=d at q0 q1 s1 ⊢;generalize xE:aP H l (.be (eS (d.take 3)))=H1 at s1 ⊢;have hL:H1 l=some (.be (eS (d.take 3))):=by rw[<-xE];exact ai
  clear xE
  match d,hL,q0,q1 with
  | [],hL,q0,q1=>refine⟨_,rfl,l,_,rfl,.inl (cv.of hL),_,_,rfl,rfl,_,rfl,bZ rfl (bZ rfl ?_)⟩;refine⟨_,rfl,l,_,rfl,.inl (cv.of hL),rfl,_,rfl,bZ rfl (bZ rfl ?_)⟩;exact q0 rfl H1 s1| [c0],hL,q0,q1=>
   refine⟨_,rfl,l,_,rfl,.inl (cv.of hL),_,_,rfl,rfl,_,rfl,bZ rfl (bZ rfl ?_)⟩;refine⟨_,rfl,l,_,rfl,.inl (cv.of hL),rfl,_,rfl,bZ rfl (bZ rfl ?_)⟩;refine q0 ?_ H1 s1
   match c0 with|0=>rfl|1=>rfl|c0+2=>rfl
  | [c0,c1],hL,q0,q1=>
   refine⟨_,rfl,l,_,rfl,.inl (cv.of hL),_,_,rfl,rfl,_,rfl,cF rfl ?_⟩;refine⟨_,rfl,l,_,_,_,rfl,rfl,cv.of hL,aN (j:=0) rfl,rfl,_,rfl,?_⟩;by_cases h0:c0=0
   ·subst h0;refine cF (dV rfl) ⟨_,rfl,l,_,_,_,rfl,rfl,cv.of hL,aN (j:=1) rfl,_,_,rfl,rfl,_,rfl,cF (decide_eq_true (by omega)) ⟨_,rfl,_,_,rfl,rfl,_,rfl,?_⟩⟩;by_cases h1:c1<n
    ·refine cF (decide_eq_true (by omega)) ⟨_,rfl,l,_,_,_,rfl,rfl,cv.of hL,aN (j:=1) rfl,(by show 2<=al;decide),λt ht=>?_⟩;exact q1 (.non c1) (by simp[jK,h1]) _ t (aE.kj s1 ht) ai
    ·refine bZ (decide_eq_false (by omega)) ⟨_,rfl,l,_,rfl,.inl (cv.of hL),rfl,_,rfl,bZ rfl (bZ rfl ?_)⟩;exact q0 (by simp[jK,h1]) H1 s1
   ·refine bZ (mh (by omega)) (bZ rfl ⟨_,rfl,l,_,rfl,.inl (cv.of hL),rfl,_,rfl,bZ rfl (bZ rfl ?_)⟩);refine q0 ?_ H1 s1
    match c0,h0 with|0,h0=>exact absurd rfl h0|1,_=>rfl|c0+2,_=>rfl
  |c0::c1::c2::r,hL,q0,q1=>
   have hL:H1 l=some (.be [nV c0,nV c1,nV c2]):=hL;refine⟨_,rfl,l,_,rfl,.inl (cv.of hL),_,_,rfl,rfl,_,rfl,cF rfl ?_⟩;refine⟨_,rfl,l,_,_,_,rfl,rfl,cv.of hL,aN (j:=0) rfl,rfl,_,rfl,?_⟩;by_cases h0:c0=0
   ·subst h0;refine cF (dV rfl) ⟨_,rfl,l,_,_,_,rfl,rfl,cv.of hL,aN (j:=1) rfl,_,_,rfl,rfl,_,rfl,cF (decide_eq_true (by omega)) ⟨_,rfl,_,_,rfl,rfl,_,rfl,?_⟩⟩;by_cases h1:c1<n
    ·refine cF (decide_eq_true (by omega)) ⟨_,rfl,l,_,_,_,rfl,rfl,cv.of hL,aN (j:=1) rfl,(by show 2<=al;decide),λt ht=>?_⟩;exact q1 (.non c1) (by simp[jK,h1]) _ t (aE.kj s1 ht) ai
    ·refine bZ (decide_eq_false (by omega)) ⟨_,rfl,l,_,rfl,.inl (cv.of hL),rfl,_,rfl,cF rfl ⟨_,rfl,l,_,_,_,rfl,rfl,cv.of hL,aN (j:=0) rfl,rfl,_,rfl,bZ (mh (by omega)) (bZ rfl ?_)⟩⟩;exact q0 (by simp[jK,h1]) H1 s1
   ·refine bZ (mh (by omega)) (bZ rfl ⟨_,rfl,l,_,rfl,.inl (cv.of hL),rfl,_,rfl,cF rfl ⟨_,rfl,l,_,_,_,rfl,rfl,cv.of hL,aN (j:=0) rfl,rfl,_,rfl,?_⟩⟩);by_cases h1:c0=1
    ·subst h1;refine cF (dV rfl) ⟨_,rfl,l,_,_,_,rfl,rfl,cv.of hL,aN (j:=1) rfl,_,_,rfl,rfl,_,rfl,cF (decide_eq_true (by omega)) ⟨_,rfl,l,_,_,_,rfl,rfl,cv.of hL,aN (j:=2) rfl,_,_,rfl,rfl,_,rfl,?_⟩⟩;by_cases h2:c1<=c2
     ·refine cF (decide_eq_true (by omega)) ⟨_,_,rfl,rfl,_,rfl,?_⟩;by_cases h3:c2<256
      ·refine cF (decide_eq_true (by omega)) ⟨_,rfl,l,_,_,_,rfl,rfl,cv.of hL,aN (j:=1) rfl,_,rfl,l,_,_,_,rfl,rfl,cv.of hL,aN (j:=2) rfl,(by show 3<=al;decide),λt ht=>?_⟩;exact q1 (.range c1 c2) (by simp[jK,h2,h3]) _ t (aE.kj s1 ht) ai
      ·refine bZ (decide_eq_false (by omega)) ?_;exact q0 (by simp[jK,h3]) H1 s1
     ·refine bZ (decide_eq_false (by omega)) ⟨_,rfl,bZ rfl ?_⟩;exact q0 (by simp[jK,h2]) H1 s1
    ·refine bZ (mh (by omega)) (bZ rfl ?_);refine q0 ?_ H1 s1
     match c0,h0,h1 with|0,h0,_=>exact absurd rfl h0|1,_,h1=>exact absurd rfl h1|c0+2,_,_=>rfl
theorem alB(x:List Nat)(p k:Nat):qV (eS x) (some (p:Int)) (some ((p:Int)+(k:Int)))=eS ((x.drop p).take k):=by
 unfold qV eS;have e1:HT.u6 (x.map nV).length 0 (some (p:Int))=min p x.length:=by
  simp only[HT.u6,aq]
  first|(split<;>omega)|omega
 have e2:HT.u6 (x.map nV).length (x.map nV).length (some ((p:Int)+(k:Int)))=min (p+k) x.length:=by
  simp only[HT.u6,aq]
  first|(split<;>omega)|omega
 rw[e1,e2,<-Hu,<-oq];congr 1;by_cases h:p<=x.length
 ·rw[show min p x.length=p by omega];by_cases h':p+k<=x.length
  ·rw[show min (p+k) x.length-p=k by omega]
  ·rw[e8 (by rw[eC];omega),e8 (by rw[eC];omega)]
 ·rw[jW (show x.length<=min p x.length by omega),jW (show x.length<=p by omega)];simp
theorem Lf{K:ak}(e:X.K=K):ud X (wA "len") (λxs H Q=>∃p ys,xs=[V.ref p]/\(cv K H p ys\/eh K H p ys)/\Q (V.int ys.length) H):=by subst e;exact bM
theorem Je(y:mq):(v1 y).length=lM y:=by cases y<;>rfl
theorem a_{l:List ah}:(l.map V.ref).length=l.length:=aq _
abbrev Np:dZ:=mm 11
inductive S9(vs:List V)(H:Hp)(Q:VK)(E_:XK):Prop
 |mk (a:ah) (r:eA) (_:vs=[.ref a]) (_:j1 H r a) (_:r.rhs.length<=8) (_:∀H',aE H H'->Q (nV (Mt.told r)) H')
theorem S_:bU ["rule","symbol"] ["rule"] (a5 Np):=ml
theorem Ta(l:List mq):((l.map λy=>((lM y:Nat):Int))).sum=((eD l:Nat):Int):=by
 induction l with|nil=>rfl|cons y l ih=>rw[aS,Hh,ih];simp[eD]
theorem WX(F:lg K "told_length" "told_length" Np f fd)(T:Gm mg):dQ P w K mg base ki 1 f fd ["rule"] S9:=by
 refine F.ok S_ (λvs H Q E h=>?_) (λgl A bN s H vs Q E hr h=>?_)
 ·obtain⟨a,r,rfl,_⟩:=h;rfl
 ·obtain⟨a,r,rfl,⟨t,qs,ha,ht,hq⟩,h8,k⟩:=h;have nd:=S_.nd;have dX:=a6 hq;refine⟨_,aJ (bG (e7 i9 aR (cg (aaD rfl) rfl T.sum (by decide+kernel) (af (qb (own:=[("symbol",1)]) rfl nd (yG (ft cw (pv 0) aR)) (gi (N:=["rule","symbol"]) (sc:=a5 Np) (by decide+kernel)) (λ_ _ _ _ _=>nr 1 nd) (λ_ _ _ _ _=>mP) (λ_ _ _ _ _=>cg (Lf (K:=K) rfl) rfl T.fD bB (af (pv 1) aD))) aD)))),?_⟩;refine⟨_,rfl,a,_,_,_,rfl,rfl,eh.of ha,aN (j:=1) rfl,t,rfl,⟨_,eh.of ht⟩,λD hD=>?_⟩;have s1:aE H (aP H D (.be [])):=aE.aP hD;refine FM (K:=K) (a:=t) (xs:=qs.map V.ref) (λi H'=>aE H H'/\H' D=some (.be ((r.rhs.take i).map λy=>nV (lM y)))) ⟨s1,ai⟩ (λi H' _ ⟨s2,_⟩=>eh.of (s2 _ _ ht)) ?_ ?_
  ·rintro i x H' hi ⟨s2,WY⟩;rw[aM]at hi;cases e:qs[i]? with
   |none=>rw[e]at hi;cases hi|some q=>
    rw[e]at hi;have hx:=ax hi;subst hx;obtain⟨y,hy,mW⟩:=b0 hq e;have Lg:=mW.keeps s2;refine⟨rfl,⟨_,rfl,q,_,rfl,.inr (eh.of Lg),_,WY,?_,λb o eb=>?_,?_⟩⟩
    ·rw[aq,a4];exact d8 (iy _ _) (d8 h8 (by decide))
    ·rw[aF (aH eb hD)];exact s2 b o eb
    ·rw[ai,bQ,hy];simp only[l9,aK,aS,i3];rw[show(v1 y).length=lM y from Je y];rfl
  ·rintro H' ⟨s2,WY⟩;rw[a_,<-dX,a8]at WY;refine⟨D,r.rhs.map (λy=>((lM y:Nat):Int)),rfl,cv.of (by rw[WY,bS];rfl),_,_,rfl,rfl,?_⟩;rw[Ta];have:V.int (2+((eD r.rhs:Nat):Int))=nV (Mt.told r):=by unfold nV Mt.told;congr 1
   show Q (V.int (2+_)) H';rw[this];exact k H' s2
abbrev yT:dZ:=mm 10
inductive Cb(K:ak)(vs:List V)(H:Hp)(Q:VK)(E_:XK):Prop
 |mk (a:ah) (x:List Nat) (p n:Nat) (_:vs=[.ref a,nV p,nV n]) (_:cv K H a (eS x)) (_:(mJ n (x.drop p)=none->∀H',aE H H'->Q .non H')) (_:∀r,mJ n (x.drop p)=some r->∀H' q,aE H H'->j1 H' r q->Q (.ref q) H')
theorem Cc:bU ["row","place","nonterminals","head","symbols","behind","symbol"] ["row","place","nonterminals"] (a5 yT):=ml
theorem FS(F:lg K "read_rule" "read_rule" yT f fd)(T:Gm mg)(GS:jL P w K mg base "read_symbol" 1 ["row","place","nonterminals"] (xC K)):dQ P w K mg base ki 2 f fd ["row","place","nonterminals"] (Cb K):=by
 refine F.ok Cc (λvs H Q E h=>?_) (λgl A bN s H vs Q E hr h=>?_)
 ·obtain⟨a,x,p,n,rfl,_⟩:=h;rfl
 ·obtain⟨a,x,p,n,rfl,hS,q0,q1⟩:=h;have nd:=Cc.nd;refine⟨_,am (g9 3 nd (uf xi (pv 0) (pZ (pv 1)) (pZ (e7 i9 (pv 1) aR)))) (am (dD (PW.pt (Em (bY ue (cg bM rfl T.fD bB (af (pv 3) aD)) aR (ck _)) (Em (o_ (pb mO ue aR (ft b_ (pv 3) aR) (pv 2))) (KJ (o_ (pb mO mO aR (ft b_ (pv 3) aR) (lQ T.ms rfl))))))) (aJ (bG gd)) b5) (am (g9 4 nd (cV aD)) (am (g9 5 nd (e7 i9 (pv 1) aR)) (am (mN bi (bY ue (cg bM rfl T.fD bB (af (pv 4) aD)) (ft b_ (pv 3) aR) (ck _)) (am (g9 6 nd (cO GS hr (aB _) rfl (af (pv 0) (af (pv 5) (af (pv 2) aD))))) (am (dD (bY og (pv 6) gd (ck _)) (aJ (bG gd)) b5) (am (fz (i_ bf bv bx d_ (pv 4) (af (pv 6) aD))) (aJ (g9 5 nd (e7 i9 (pv 5) (cg bM rfl T.fD bB (af (pv 6) aD))))))))) (aJ (bG (ii (af (ft b_ (pv 3) aR) (af (qU nD rfl T.tuple (by decide+kernel) (af (pv 4) aD)) aD))))))))),?_⟩;refine⟨_,rfl,_,rfl,_,rfl,_,rfl,_,_,rfl,rfl,_,rfl,a,_,rfl,hS,λl hl=>?_⟩;show OV _ _ _ _ (aP H l (.be (qV (eS x) (some (p:Int)) (some ((p:Int)+((2:Nat):Int))))));rw[alB];have s1:aE H (aP H l (.be (eS ((x.drop p).take 2)))):=aE.aP hl;generalize xE:aP H l (.be (eS ((x.drop p).take 2)))=H1 at s1 ⊢;have hL:H1 l=some (.be (eS ((x.drop p).take 2))):=by rw[<-xE];exact ai
  clear xE
  match hd:x.drop p,hL with
  | [],hL=>refine⟨_,rfl,l,_,rfl,.inl (cv.of hL),_,_,rfl,rfl,_,rfl,cF rfl ?_⟩;exact q0 (by rw[hd];rfl) H1 s1| [c0],hL=>refine⟨_,rfl,l,_,rfl,.inl (cv.of hL),_,_,rfl,rfl,_,rfl,cF rfl ?_⟩;exact q0 (by rw[hd];rfl) H1 s1|c0::m::r,hL=>
   have hL:H1 l=some (.be [nV c0,nV m]):=hL;refine⟨_,rfl,l,_,rfl,.inl (cv.of hL),_,_,rfl,rfl,_,rfl,bZ rfl ?_⟩;refine⟨_,rfl,l,_,_,_,rfl,rfl,cv.of hL,aN (j:=0) rfl,_,_,rfl,rfl,_,rfl,cF (decide_eq_true (by omega)) ⟨_,rfl,_,_,rfl,rfl,_,rfl,?_⟩⟩;by_cases h0:c0<n
   ·rw[decide_eq_true (show(c0:Int)<(n:Int) by omega)];refine bZ rfl ⟨_,rfl,l,_,_,_,rfl,rfl,cv.of hL,aN (j:=1) rfl,_,_,rfl,rfl,_,rfl,cF (decide_eq_true (by omega)) ⟨_,_,rfl,rfl,_,rfl,?_⟩⟩;by_cases h1:m<=8
    ·rw[decide_eq_true (show(m:Int)<=8 by omega)];refine bZ rfl ⟨bj _,λt ht=>⟨_,rfl,_,_,rfl,rfl,?_⟩⟩;have s2:aE H1 (aP H1 t (.be [])):=aE.aP ht;have WZ:x.drop (p+2)=r:=by rw[<-js,hd];rfl
     have YK:c0<n/\m<=8:=⟨h0,h1⟩;have ZT:t≠l:= λz=>by rw[z,hL]at ht;cases ht
     refine⟨λk σ H'=>∃(done:List mq)(qs:List ah)(v:Option V),k=m-done.length/\σ=[some (.ref a),some (nV p),some (nV n),some (.ref l),some (.ref t),some (nV (p+2+eD done)),v]/\H' t=some (.be (qs.map V.ref))/\qw H' done qs/\aE H1 H'/\RdS n m r done,⟨m,[],[],none,rfl,rfl,ai,.nil,s2,Ow n m r⟩,?_⟩;rintro k σ H' ⟨done,qs,v,rfl,rfl,hT,hq,s3,R⟩;have dX:=a6 hq;refine⟨_,rfl,t,_,rfl,.inl (cv.of hT),_,rfl,l,_,_,_,rfl,rfl,cv.of (s3 _ _ hL),aN (j:=1) rfl,_,_,rfl,rfl,_,rfl,?_⟩;rw[a_,<-dX];by_cases hm:done.length<m
     ·refine cF (decide_eq_true (by omega)) ⟨_,λ_ _ z=>z,?_⟩;refine⟨_,rfl,_,rfl,_,rfl,a,x,p+2+eD done,n,rfl,(s1.trans s3).seq hS,λe4 H4 s4=>?_,λy e4 H4 q s4 hy=>?_⟩
      ·refine⟨_,rfl,rfl,_,rfl,cF rfl ?_⟩;refine q0 ?_ H4 ((s1.trans s3).trans s4);rw[hd];have e5:jK n (r.drop (eD done))=none:=by rw[<-WZ,js];exact e4
       show(if c0<n/\m<=8 then(bm n m r).map _ else none)=none;rw[if_pos YK,Rr R hm e5];rfl
      ·have e5:jK n (r.drop (eD done))=some y:=by rw[<-WZ,js];exact e4
       refine⟨_,rfl,rfl,_,rfl,bZ rfl ?_⟩;have AV:=s4 _ _ hT;refine⟨_,rfl,.inl ⟨rfl,_,cv.of AV⟩,_,rfl,t,_,_,rfl,rfl,AV,?_,?_⟩
       ·rw[a_,<-dX];exact bX hm (aW h1 (by decide))
       ·have hqt:q≠t:= λz=>by have RJ:H4 q=some (.bV (v1 y)):=hy;rw[z,AV]at RJ;cases RJ
        have hy5:aP H4 t (.be (qs.map V.ref++[.ref q])) q=some (.bV (v1 y)):=by rw[aF hqt];exact hy
        refine⟨_,rfl,_,rfl,q,_,rfl,.inr (eh.of hy5),_,_,rfl,rfl,m-(done++[y]).length,?_,done++[y],qs++[q],some (.ref q),rfl,?_,?_,?_,?_,Rq R hm e5⟩
        ·rw[aw,bp];omega
        ·show[some (V.ref a),some (nV p),some (nV n),some (V.ref l),some (V.ref t),some (V.int (((p+2+eD done:Nat):Int)+((v1 y).length:Int))),some (V.ref q)]=_;rw[Je,rQ];have:((p+2+eD done:Nat):Int)+((lM y:Nat):Int)=((p+2+(eD done+lM y):Nat):Int):=by omega
         rw[this];rfl
        ·rw[ai,aK];rfl
        ·refine cJ (Paired.gJ hq λz b hz=>?_) hy5;have hz4:=s4 _ _ hz;show aP H4 t _ b=_;rw[aF (nQ hz4 AV (λz=>nomatch z))];exact hz4
        ·intro b o eb;rw[aF (aH eb ht)];exact s4 _ _ (s3 _ _ eb)
     ·have HP:done.length=m:=by have:=R.le;omega
      refine bZ (decide_eq_false (by omega)) ?_;refine⟨_,rfl,l,_,_,_,rfl,rfl,cv.of (s3 _ _ hL),aN (j:=0) rfl,_,rfl,t,_,rfl,.inl ⟨cv.of hT,λu hu=>⟨(by show 2<=al;decide),λv' Vm=>?_⟩⟩⟩;have s5:aE H' (aP (aP H' u (.bV (qs.map V.ref))) v' (.bV [nV c0,.ref u])):=aE.kj (aE.aP hu) Vm;refine q1 {lhs:=c0,rhs:=done} ?_ _ v' ((s1.trans s3).trans s5) ⟨u,qs,ai,?_,hq.keeps s5⟩
      ·rw[hd];show(if c0<n/\m<=8 then(bm n m r).map _ else none)=_;rw[if_pos YK,Rs R HP];rfl
      ·have j8:u≠v':= λz=>by rw[<-z,ai]at Vm;cases Vm
       rw[aF j8,ai]
    ·rw[decide_eq_false (show¬(m:Int)<=8 by omega)];refine cF rfl ?_;exact q0 (by rw[hd];show(if c0<n/\m<=8 then _ else none)=none;rw[if_neg λz=>h1 z.2]) H1 s1
   ·rw[decide_eq_false (show¬(c0:Int)<(n:Int) by omega)];refine cF rfl ?_;exact q0 (by rw[hd];show(if c0<n/\m<=8 then _ else none)=none;rw[if_neg λz=>h0 z.1]) H1 s1
def d6(S:List ah)(H:Hp):Hp:= λb=>if b∈S then none else H b
theorem bo{b:ah}:d6 S H b=some o↔b∉S/\H b=some o:=by
 unfold d6;by_cases h:b∈S
 ·simp[h]
 ·simp[h]
theorem ci(S:List ah)(H:Hp):aE (d6 S H) H:= λb o e=>(bo.mp e).2
theorem Pt(h:∀b o,b∉S->H b=some o->H' b=some o):aE (d6 S H) (d6 S H'):= λb o e=>by obtain⟨h1,h2⟩:=bo.mp e;exact bo.mpr ⟨h1,h b o h1 h2⟩
theorem uu(h:aE H H'):aE (d6 S H) (d6 S H'):=Pt λb o _ e=>h b o e
theorem mQ(h:a∈S):d6 S (aP H a o)=d6 S H:=by
 funext b;unfold d6;by_cases hb:b∈S
 ·simp[hb]
 ·simp only[hb,if_false];rw[aF λe=>hb (by rw[e];exact h)]
theorem aE.Pu:aE H H:= λ_ _ z=>z
theorem j1.nt(hS:∀b∈S,∀xs,H b≠some (.bV xs))(h:j1 H r a):j1 (d6 S H) r a:=by have key:∀{b:ah}{xs:List V},H b=some (.bV xs)->d6 S H b=some (.bV xs):= λ{b xs} e=>bo.mpr ⟨λm=>hS b m xs e,e⟩;obtain⟨t,qs,h1,h2,h3⟩:=h;exact⟨t,qs,key h1,key h2,Paired.gJ h3 λ_ _ z=>key z⟩
theorem eY.nt(hS:∀b∈S,∀xs,H b≠some (.bV xs)){rs:List eA}{as:List ah}(h:eY H rs as):eY (d6 S H) rs as:=Paired.gJ h λ_ _ z=>z.nt hS
theorem cS(s:aE (d6 S H) H')(h:a∈S):aE (d6 S H) (aP H' a o):= λb u e=>by rw[aF λz=>(bo.mp e).1 (by rw[z];exact h)];exact s b u e
theorem Pw{n:Nat}{x:List Nat}(h:mJ n x=some r):r.rhs.length<=8:=by
 unfold mJ at h;split at h
 ·split at h
  ·rename_i a m y hc;cases e:bm n m y with|none=>rw[e]at h;cases h|some z=>rw[e]at h;have e2:=ax h;rw[<-e2];show z.1.length<=8;rw[(pS e).1];exact hc.2
  ·cases h
 ·cases h
abbrev FT:dZ:=sg (mm 8) 0
def grF(n l:V):List (bT×V):=[("nonterminals",n),("rules",l)]
structure GrT(K:ak)(C:ah):Prop where
 cl:KY K C
 n1:ff K C "nonterminals"
 n2:ff K C "rules"
inductive Jf(C:ah)(np:Nat)(fs:List V->List (bT×V))(vs:List V)(H:Hp)(Q:VK)(E_:XK):Prop
 |mk (p dx:ah) (as:List V) (_:vs= .ref p::as) (_:as.length=np) (_:H p=some (.gc C dx [])) (_:∀H':Hp,H' p=some (.gc C dx (fs as))->(∀b o,H b=some o->b≠p->H' b=some o)->Q .non H')
def aa9:List V->List (bT×V)
 | [n,l]=>grF n l|_=>[]
inductive aba(C:ah)(H:Hp)(g:aL)(a:ah):Prop
 |mk (dx l:ah) (as:List ah) (_:H a=some (.gc C dx (grF (nV g.nons) (.ref l)))) (_:H l=some (.be (as.map V.ref))) (_:eY H g.rules as)
theorem Tc:bU ["self","nonterminals","rules"] ["self","nonterminals","rules"] (a5 FT):=ml
theorem Px{C:ah}(F:lg K "__init__" "Grammar.__init__" FT f fd)(T:GrT K C):dQ P w K mg base ki 1 f fd ["self","nonterminals","rules"] (Jf C 2 aa9):=by
 refine F.ok Tc (λvs H Q E h=>?_) (λgl A bN s H vs Q E hr h=>?_)
 ·obtain⟨p,dx,as,rfl,h2,_⟩:=h;rw[aZ,h2];rfl
 ·obtain⟨p,dx,as,rfl,h2,hp,k⟩:=h
  match as,h2 with
  | [n,l],_=>
   refine⟨_,am (j0 (pv 0) (pv 1) rfl) (aJ (j0 (pv 0) (pv 2) rfl)),?_⟩;refine⟨_,rfl,_,rfl,p,C,dx,[],rfl,hp,T.cl,T.n1,(by show 0<1000;decide),?_⟩;refine⟨_,rfl,_,rfl,p,C,dx,_,rfl,ai,T.cl,T.n2,(by show 1<1000;decide),?_⟩;refine k _ ?_ λb o e hb=>by rw[aF hb,aF hb];exact e
   rw[ai];rfl
abbrev sj:dZ:=mm 12
inductive vt(K:ak)(C:ah)(vs:List V)(H:Hp)(Q:VK)(E_:XK):Prop
 |mk (a:ah) (x:List Nat) (_:vs=[.ref a]) (_:cv K H a (eS x)) (_:(gu x=none->∀H',aE H H'->Q .non H')) (_:∀g,gu x=some g->∀H' q,aE H H'->aba C H' g q->Q (.ref q) H')
theorem vv:bU ["row","rules","place","rule"] ["row"] (a5 sj):=ml
theorem Au{C:ah}(F:lg K "read_grammar" "read_grammar" sj f fd)(T:Gm mg)(GR:jL P w K mg base "read_rule" 2 ["row","place","nonterminals"] (Cb K))(GT:jL P w K mg base "told_length" 1 ["rule"] S9)(GM:YJ P w K mg base "Grammar" C 1 ["self","nonterminals","rules"] (Jf C 2 aa9)):dQ P w K mg base ki 3 f fd ["row"] (vt K C):=by
 refine F.ok vv (λvs H Q E h=>?_) (λgl A bN s H vs Q E hr h=>?_)
 ·obtain⟨a,x,rfl,_⟩:=h;rfl
 ·obtain⟨a,x,rfl,hS,q0,q1⟩:=h;have nd:=vv.nd;refine⟨_,am (dD (PW.pt (Em (bY ue (cg bM rfl T.fD bB (af (pv 0) aD)) aR (ck _)) (Em (o_ (pb mO mO aR (ft b_ (pv 0) aR) (lQ T.mn rfl))) (KJ (o_ (pb mO mO aR (ft b_ (pv 0) aR) (lQ T.mr rfl))))))) (aJ (bG gd)) b5) (am (g9 1 nd (cV aD)) (am (g9 2 nd aR) (am (mN bi (bY ue (cg bM rfl T.fD bB (af (pv 1) aD)) (ft b_ (pv 0) aR) (ck _)) (am (g9 3 nd (cO GR hr (aB _) rfl (af (pv 0) (af (pv 2) (af (ft b_ (pv 0) aR) aD))))) (am (dD (bY og (pv 3) gd (ck _)) (aJ (bG gd)) b5) (am (fz (i_ bf bv bx d_ (pv 1) (af (pv 3) aD))) (aJ (g9 2 nd (e7 i9 (pv 2) (cO GT hr (by decide) rfl (af (pv 3) aD))))))))) (am (dD (bY Iu (pv 2) (cg bM rfl T.fD bB (af (pv 0) aD)) (ck _)) (aJ (bG gd)) b5) (aJ (bG (No GM hr (by decide) rfl (af (ft b_ (pv 0) aR) (af (pv 1) aD))))))))),?_⟩
  match x,hS,q0,q1 with
  | [],hS,q0,q1=>refine⟨_,rfl,a,_,rfl,.inl hS,_,_,rfl,rfl,_,rfl,cF rfl ?_⟩;exact q0 rfl H (λ_ _ z=>z)| [c0],hS,q0,q1=>refine⟨_,rfl,a,_,rfl,.inl hS,_,_,rfl,rfl,_,rfl,cF rfl ?_⟩;exact q0 rfl H (λ_ _ z=>z)|n::m::r,hS,q0,q1=>
   have out:¬(1<=n/\n<=20/\m<=60)->Q .non H:= λz=>q0 (Ah z) H (λ_ _ z=>z);have dX:(eS (n::m::r)).length=r.length+2:=by simp[eS]
   refine⟨_,rfl,a,_,rfl,.inl hS,_,_,rfl,rfl,_,rfl,bZ (decide_eq_false (by rw[dX];omega)) ?_⟩;refine⟨_,rfl,a,_,_,_,rfl,rfl,hS,aN (j:=0) rfl,_,_,rfl,rfl,_,rfl,?_⟩;by_cases h1:1<=n
   ·refine cF (decide_eq_true (by omega)) ⟨_,_,rfl,rfl,_,rfl,?_⟩;by_cases h2:n<=20
    ·rw[decide_eq_true (show(n:Int)<=20 by omega)];refine bZ rfl ⟨_,rfl,a,_,_,_,rfl,rfl,hS,aN (j:=1) rfl,_,_,rfl,rfl,_,rfl,cF (decide_eq_true (by omega)) ⟨_,_,rfl,rfl,_,rfl,?_⟩⟩;by_cases h3:m<=60
     ·rw[decide_eq_true (show(m:Int)<=60 by omega)];refine bZ rfl ⟨bj _,λt ht=>?_⟩;have Fn:1<=n/\n<=20/\m<=60:=⟨h1,h2,h3⟩;have s1:aE H (aP H t (.be [])):=aE.aP ht;refine⟨λk σ H'=>∃(done:List eA)(qs:List ah)(v:Option V),k=m-done.length/\σ=[some (.ref a),some (.ref t),some (nV (2+eE done)),v]/\H' t=some (.be (qs.map V.ref))/\eY H' done qs/\aE H H'/\RdR n m r done,⟨m,[],[],none,rfl,rfl,ai,.nil,s1,Ox n m r⟩,?_⟩;rintro k σ H' ⟨done,qs,v,rfl,rfl,hT,hq,s2,R⟩;have yU:=a6 hq;refine⟨_,rfl,t,_,rfl,.inl (cv.of hT),_,rfl,a,_,_,_,rfl,rfl,s2.seq hS,aN (j:=1) rfl,_,_,rfl,rfl,_,rfl,?_⟩;rw[a_,<-yU];by_cases hm:done.length<m
      ·refine cF (decide_eq_true (by omega)) ⟨_,λ_ _ z=>z,?_⟩;refine⟨_,rfl,_,rfl,_,rfl,a,_,_,_,rfl,rfl,s2.seq hS,aN (j:=0) rfl,a,n::m::r,2+eE done,n,rfl,s2.seq hS,λe4 H4 s4=>?_,λy e4 H4 q s4 hy=>?_⟩
       ·refine⟨_,rfl,rfl,_,rfl,cF rfl ?_⟩;refine q0 ?_ H4 (s2.trans s4);have e5:mJ n (r.drop (eE done))=none:=by rw[show(n::m::r).drop (2+eE done)=r.drop (eE done) by rw[AE];rfl]at e4;exact e4
        rw[oe Fn,Ru R hm e5]
       ·have e5:mJ n (r.drop (eE done))=some y:=by rw[show(n::m::r).drop (2+eE done)=r.drop (eE done) by rw[AE];rfl]at e4;exact e4
        refine⟨_,rfl,rfl,_,rfl,bZ rfl ?_⟩;have AV:=s4 _ _ hT;refine⟨_,rfl,.inl ⟨rfl,_,cv.of AV⟩,_,rfl,t,_,_,rfl,rfl,AV,?_,?_⟩
        ·rw[a_,<-yU];exact bX hm (aW h3 (by decide))
        ·have AW:∀c∈[t],∀xs,H4 c≠some (.bV xs):= λc hc xs e=>by
          have:c=t:=by simpa using hc
          rw[this,AV]at e;cases e
         have sb:aE (d6 [t] H4) (aP H4 t (.be (qs.map V.ref++[.ref q]))):=cS (ci _ _) (by simp);have hy5:j1 (aP H4 t (.be (qs.map V.ref++[.ref q]))) y q:=(hy.nt AW).keeps sb;have h8:y.rhs.length<=8:=by have:=Pw e5;exact this
         refine⟨_,rfl,_,rfl,q,y,rfl,hy5,h8,λH6 s6=>⟨_,_,rfl,rfl,m-(done++[y]).length,?_,done++[y],qs++[q],some (.ref q),rfl,?_,?_,?_,?_,Rt R hm e5⟩⟩
         ·rw[aw,bp];omega
         ·rw[qt];have:((2+eE done:Nat):Int)+((Mt.told y:Nat):Int)=((2+(eE done+Mt.told y):Nat):Int):=by omega
          show[some (V.ref a),some (V.ref t),some (V.int (((2+eE done:Nat):Int)+((Mt.told y:Nat):Int))),some (V.ref q)]=_;rw[this];rfl
         ·rw[s6 _ _ ai,aK];rfl
         ·exact cJ (((eY.nt AW (hq.keeps s4)).keeps sb).keeps s6) (hy5.keeps s6)
         ·intro b o eb;refine s6 _ _ ?_;rw[aF (aH eb ht)];exact s4 _ _ (s2 _ _ eb)
      ·have HP:done.length=m:=by have:=R.le;omega
       refine bZ (decide_eq_false (by omega)) ?_;have hlr:r.drop (eE done)=[]↔2+eE done=(eS (n::m::r)).length:=by rw[dX,List.drop_eq_nil_iff];have:=R.fD;omega
       refine⟨_,rfl,_,rfl,a,_,rfl,.inl (s2.seq hS),rfl,_,rfl,?_⟩;by_cases OB:2+eE done=(eS (n::m::r)).length
       ·refine bZ ?_ ?_
        ·rw[<-OB];simp[nV]
        ·refine⟨_,rfl,a,_,_,_,rfl,rfl,s2.seq hS,aN (j:=0) rfl,_,rfl,λx dx nx ndx nex=>⟨x,dx,[nV n,.ref t],rfl,rfl,ai,λH5 hx5 k5=>⟨rfl,?_⟩⟩⟩;have s5:aE H' H5:=aE.K1 nx ndx k5;refine q1 {nons:=n,rules:=done} ?_ H5 x (s2.trans s5) ⟨dx,t,qs,hx5,s5 _ _ hT,hq.keeps s5⟩;rw[oe Fn,HV R HP,hlr.mpr OB]
       ·refine cF ?_ ?_
        ·rw[rh];exact mh λz=>OB (m9 z)
        ·refine q0 ?_ H' s2;rw[oe Fn,HV R HP];cases hd:r.drop (eE done)with|nil=>exact absurd (hlr.mp hd) OB|cons y ys=>rfl
     ·rw[decide_eq_false (show¬(m:Int)<=60 by omega)];exact cF rfl (out λz=>h3 z.2.2)
    ·rw[decide_eq_false (show¬(n:Int)<=20 by omega)];exact cF rfl (out λz=>h2 z.2.1)
   ·refine bZ (decide_eq_false (by omega)) ⟨_,rfl,cF rfl ?_⟩;exact out λz=>h1 z.1
theorem xF{f:bT}{v:V}{r:List (bT×V)}:((f,v)::r).lookup f=some v:=by simp[jO]
theorem lh{f g:bT}{v:V}{r:List (bT×V)}(h:(f==g)=false):((g,v)::r).lookup f=r.lookup f:=by simp[jO,h]
theorem lF{f g:bT}{v x:V}{r:List (bT×V)}(h:¬g=f):me f v ((g,x)::r)=(g,x)::me f v r:=if_neg h
def Td(g:aL):eA:={lhs:=g.nons,rhs:=[.non 0]}
def nW(g:aL):List eA:=fc g++[Td g]
def Te(n lr lc lo ls lm lw:V):List (bT×V):=[("nonterminals",n),("rules",lr),("classes",lc),("columns",lo),("states",ls),("moves",lm),("whole",lw)]
section
variable{n lr lc lo ls lm lw:V}
theorem FU:(Te n lr lc lo ls lm lw).lookup ("nonterminals":bT)=some n:=xF
theorem v_:(Te n lr lc lo ls lm lw).lookup ("rules":bT)=some lr:=(lh (by decide+kernel)).trans xF
theorem Tf:(Te n lr lc lo ls lm lw).lookup ("classes":bT)=some lc:=(lh (by decide+kernel)).trans ((lh (by decide+kernel)).trans xF)
theorem Lh:(Te n lr lc lo ls lm lw).lookup ("columns":bT)=some lo:=(lh (by decide+kernel)).trans ((lh (by decide+kernel)).trans ((lh (by decide+kernel)).trans xF))
theorem pd:(Te n lr lc lo ls lm lw).lookup ("states":bT)=some ls:=(lh (by decide+kernel)).trans ((lh (by decide+kernel)).trans ((lh (by decide+kernel)).trans ((lh (by decide+kernel)).trans xF)))
theorem wa:(Te n lr lc lo ls lm lw).lookup ("moves":bT)=some lm:=(lh (by decide+kernel)).trans ((lh (by decide+kernel)).trans ((lh (by decide+kernel)).trans ((lh (by decide+kernel)).trans ((lh (by decide+kernel)).trans xF))))
theorem FV:(Te n lr lc lo ls lm lw).lookup ("whole":bT)=some lw:=(lh (by decide+kernel)).trans ((lh (by decide+kernel)).trans ((lh (by decide+kernel)).trans ((lh (by decide+kernel)).trans ((lh (by decide+kernel)).trans ((lh (by decide+kernel)).trans xF)))))
end
structure AX(K:ak)(C:ah):Prop where
 cl:KY K C
 non:ff K C "nonterminals"
 YL:ff K C "rules"
 cls:ff K C "classes"
 col:ff K C "columns"
 QM:ff K C "states"
 YM:ff K C "moves"
 who:ff K C "whole"
def ClsAt(H:Hp)(p:Nat×Nat)(q:ah):Prop:=H q=some (.bV [nV p.1,nV p.2])
def pf(H:Hp)(cl:List (Nat×Nat))(qs:List ah):Prop:=Paired (ClsAt H) cl qs
theorem pf.keeps(s:aE H H'){cl:List (Nat×Nat)}(h:pf H cl qs):pf H' cl qs:=Paired.gJ h λ_ _ z=>s _ _ z
def oV:Option Nat->V
 |none=> .non|some n=>nV n
def vw(g:aL):List V:=(bE 257).map λb=>oV (nP g b)
inductive jo(C:ah)(H:Hp)(g:aL)(a ls lm lw:ah):Prop
 |mk (dx lr lc lo:ah) (as cs:List ah) (_:H a=some (.gc C dx (Te (nV g.nons) (.ref lr) (.ref lc) (.ref lo) (.ref ls) (.ref lm) (.ref lw)))) (_:H lr=some (.be (as.map V.ref))) (_:eY H (nW g) as) (_:H lc=some (.be (cs.map V.ref))) (_:pf H (ag g) cs) (_:H lo=some (.be (vw g)))
theorem jo.keeps{C:ah}(s:aE H H'){ls lm lw:ah}(h:jo C H g a ls lm lw):jo C H' g a ls lm lw:=by obtain⟨dx,lr,lc,lo,as,cs,h1,h2,h3,h4,h5,h6⟩:=h;exact⟨dx,lr,lc,lo,as,cs,s _ _ h1,s _ _ h2,h3.keeps s,s _ _ h4,h5.keeps s,s _ _ h6⟩
def Cd(H:Hp)(Q:VK)(rs:List eA):Prop:=∀(H':Hp)(q:ah)(as:List ah),aE H H'->H q=none->H' q=some (.be (as.map V.ref))->eY H' rs as->Q (.ref q) H'
theorem zP{α β:Type}{F:α->β->Prop}:∀{l:List α}{m:List β}(k:Nat),Paired F l m->Paired F (l.take k) (m.take k)
 |_,_,0,_=>by simp only[qm];exact .nil|_,_,k+1,.nil=> .nil|_,_,k+1,.cons r t=> .cons r (zP k t)
theorem Tg(xs:List V):qV xs none (some (-1))=xs.take (xs.length-1):=by
 unfold qV;have e1:HT.u6 xs.length 0 (none:Option Int)=0:=rfl;have e2:HT.u6 xs.length xs.length (some (-1))=xs.length-1:=by
  simp only[HT.u6]
  first|(split<;>omega)|omega
 rw[e1,e2,qj,pK]
abbrev abb:dZ:=mm 14
inductive Th(C:ah)(vs:List V)(H:Hp)(Q:VK)(E_:XK):Prop
 |mk (a:ah) (g:aL) (ls lm lw:ah) (_:vs=[.ref a]) (_:jo C H g a ls lm lw) (_:Cd H Q (fc g))
theorem afN:bU ["table"] ["table"] (a5 abb):=ml
theorem abc(F:lg K "own_rules" "own_rules" abb f fd)(T:AX K C):dQ P w K mg base ki 1 f fd ["table"] (Th C):=by
 refine F.ok afN (λvs H Q E h=>?_) (λgl A bN s H vs Q E hr h=>?_)
 ·obtain⟨a,g,ls,lm,lw,rfl,_⟩:=h;rfl
 ·obtain⟨a,g,ls,lm,lw,rfl,⟨dx,lr,lc,lo,as,cs,h1,h2,h3,h4,h5,h6⟩,k⟩:=h;refine⟨_,aJ (bG (uf xi (cE (pv 0) rfl) MU (pZ (MN Fz aR)))),?_⟩;refine⟨_,rfl,a,C,dx,_,_,rfl,h1,T.cl,T.YL,v_,?_⟩;refine⟨_,rfl,_,rfl,lr,_,rfl,cv.of h2,λl hl=>?_⟩;show Q (.ref l) (aP H l (.be (qV (as.map V.ref) none (some (-1)))));rw[Tg];have s1:aE H (aP H l (.be ((as.map V.ref).take ((as.map V.ref).length-1)))):=aE.aP hl;have dX:=a6 h3;have e:(nW g).take (as.length-1)=fc g:=by rw[<-dX];unfold nW;rw[aw,bp,zj,C8];rfl
  refine k _ l (as.take (as.length-1)) s1 hl ?_ ?_
  ·rw[ai,a_,oq]
  ·have:=zP (as.length-1) h3;rw[e]at this;exact eY.keeps s1 this
abbrev abd:dZ:=mm 15
inductive Nq(C:ah)(vs:List V)(H:Hp)(Q:VK)(E_:XK):Prop
 |mk (a:ah) (g:aL) (ls lm lw:ah) (_:vs=[.ref a]) (_:jo C H g a ls lm lw) (_:Q (nV (gs g)) H)
theorem afO:bU ["table"] ["table"] (a5 abd):=ml
theorem abe(F:lg K "end_column" "end_column" abd f fd)(T:Gm mg)(TT:AX K C):dQ P w K mg base ki 1 f fd ["table"] (Nq C):=by
 refine F.ok afO (λvs H Q E h=>?_) (λgl A bN s H vs Q E hr h=>?_)
 ·obtain⟨a,g,ls,lm,lw,rfl,_⟩:=h;rfl
 ·obtain⟨a,g,ls,lm,lw,rfl,⟨dx,lr,lc,lo,as,cs,h1,h2,h3,h4,h5,h6⟩,k⟩:=h;refine⟨_,aJ (bG (cg bM rfl T.fD bB (af (cE (pv 0) rfl) aD))),?_⟩;refine⟨_,rfl,a,C,dx,_,_,rfl,h1,TT.cl,TT.cls,Tf,lc,_,rfl,.inl (cv.of h4),?_⟩;rw[a_,<-a6 h5];exact k
abbrev Ti:dZ:=mm 16
inductive Tj(vs:List V)(H:Hp)(Q:VK)(E_:XK):Prop
 |mk (a:ah) (lo hi:Nat) (_:vs=[.ref a]) (_:uq H (.range lo hi) a) (_:lo<=hi) (_:hi<1000) (_:Q (nV (vi lo hi)) H)
theorem abf:bU ["symbol"] ["symbol"] (a5 Ti):=ml
theorem Py{lo hi:Nat}(h:lo<=hi):(1:Int)*2^((hi:Int)+1).toNat-1*2^((lo:Int)).toNat=((vi lo hi:Nat):Int):=by
 have e1:((hi:Int)+1).toNat=hi+1:=by omega
 have e2:((lo:Int)).toNat=lo:=by omega
 rw[e1,e2];unfold vi;have:2^lo<=2^(hi+1):=oO (by decide) (by omega);rw[Int.natCast_sub this,QF,QF];simp
theorem W0(F:lg K "span_bits" "span_bits" Ti f fd):dQ P w K mg base ki 1 f fd ["symbol"] Tj:=by
 refine F.ok abf (λvs H Q E h=>?_) (λgl A bN s H vs Q E hr h=>?_)
 ·obtain⟨a,lo,hi,rfl,_⟩:=h;rfl
 ·obtain⟨a,lo,hi,rfl,hS,h1,h2,k⟩:=h;have sZ:H a=some (.bV [.int 1,nV lo,nV hi]):=hS;refine⟨_,aJ (bG (e7 yH (e7 KS aR (e7 i9 (ft cw (pv 0) aR) aR)) (e7 KS aR (ft cw (pv 0) aR)))),?_⟩;refine⟨_,rfl,a,_,_,_,rfl,rfl,eh.of sZ,aN (j:=2) rfl,_,_,rfl,rfl,_,_,rfl,rfl,⟨by omega,by omega,by decide⟩,?_⟩;refine⟨_,rfl,a,_,_,_,rfl,rfl,eh.of sZ,aN (j:=1) rfl,_,_,rfl,rfl,⟨by omega,by omega,by decide⟩,_,_,rfl,rfl,?_⟩;show Q (V.int _) H;rw[Py h1];exact k
abbrev Li:dZ:=mm 35
inductive FW(C:ah)(vs:List V)(H:Hp)(Q:VK)(E_:XK):Prop
 |mk (a:ah) (g:aL) (ls lm lw:ah) (_:vs=[.ref a]) (_:jo C H g a ls lm lw) (_:Q (nV g.rules.length) H)
theorem W1:bU ["table"] ["table"] (a5 Li):=ml
theorem xG(g:aL):(nW g).length=g.rules.length+1:=by unfold nW fc;rw[aw,aq,bp]
theorem Tk(F:lg K "start_rule" "start_rule" Li f fd)(T:Gm mg)(TT:AX K C):dQ P w K mg base ki 1 f fd ["table"] (FW C):=by
 refine F.ok W1 (λvs H Q E h=>?_) (λgl A bN s H vs Q E hr h=>?_)
 ·obtain⟨a,g,ls,lm,lw,rfl,_⟩:=h;rfl
 ·obtain⟨a,g,ls,lm,lw,rfl,⟨dx,lr,lc,lo,as,cs,h1,h2,h3,h4,h5,h6⟩,k⟩:=h;refine⟨_,aJ (bG (e7 yH (cg bM rfl T.fD bB (af (cE (pv 0) rfl) aD)) aR)),?_⟩;refine⟨_,rfl,a,C,dx,_,_,rfl,h1,TT.cl,TT.YL,v_,lr,_,rfl,.inl (cv.of h2),_,_,rfl,rfl,?_⟩;rw[a_,<-a6 h3,xG];have e:((g.rules.length+1:Nat):Int)-1=((g.rules.length:Nat):Int):=by omega
  show Q (V.int _) H;rw[e];exact k
abbrev abg:dZ:=mm 36
inductive Nr(C:ah)(vs:List V)(H:Hp)(Q:VK)(E_:XK):Prop
 |mk (a:ah) (g:aL) (ls lm lw:ah) (ss:List V) (i:Int) (_:vs=[.ref a,.int i]) (_:jo C H g a ls lm lw) (_:H ls=some (.be ss)) (_:Q (.bl (decide (0<=i)&&decide (i<(ss.length:Int)))) H)
theorem afP:bU ["table","state"] ["table","state"] (a5 abg):=ml
theorem abh(F:lg K "has_state" "has_state" abg f fd)(T:Gm mg)(TT:AX K C):dQ P w K mg base ki 1 f fd ["table","state"] (Nr C):=by
 refine F.ok afP (λvs H Q E h=>?_) (λgl A bN s H vs Q E hr h=>?_)
 ·obtain⟨a,g,ls,lm,lw,ss,i,rfl,_⟩:=h;rfl
 ·obtain⟨a,g,ls,lm,lw,ss,i,rfl,⟨dx,lr,lc,lo,as,cs,h1,h2,h3,h4,h5,h6⟩,hs,k⟩:=h;refine⟨_,aJ (bG (Iw mO ue aR (pv 1) (cg bM rfl T.fD bB (af (cE (pv 0) rfl) aD)))),?_⟩;refine⟨_,rfl,_,_,rfl,rfl,_,rfl,?_⟩;by_cases h0:0<=i
  ·rw[decide_eq_true h0,Hv]at k;refine cF (decide_eq_true h0) ⟨_,rfl,a,C,dx,_,_,rfl,h1,TT.cl,TT.QM,pd,ls,_,rfl,.inl (cv.of hs),_,_,rfl,rfl,?_⟩;exact k
  ·rw[decide_eq_false h0,EU]at k;exact bZ (decide_eq_false h0) k
theorem qe{p:α->Bool}{l:List α}{x:α}(h:l[i]? =some x):(l.take (i+1)).filter p=(l.take i).filter p++if p x=true then[x]else[]:=by rw[bQ,h,eU];show _++CN p [x]=_;rw[eB];rfl
theorem uv{l:ah}{H3:Hp}(hl:H l=none)(s2:aE H H')(z:aE (d6 [l] H') H3):aE H H3:= λc o ec=>z c o (bo.mpr ⟨λm=>(by
 have:c=l:=by simpa using m
 rw[this,hl]at ec;cases ec),s2 _ _ ec⟩)
theorem oT{f:β->α->β}{l:List α}{x:α}(h:l[i]? =some x)(s:β):(l.take (i+1)).foldl f s=f ((l.take i).foldl f s) x:=by rw[bQ,h];simp
theorem jU{α β:Type}{f:β->α->β}{P:List α->β->Prop}:∀(l pre:List α)(s:β),P pre s->(∀pre x st,x∈l->P pre st->P (pre++[x]) (f st x))->P (pre++l) (l.foldl f s)
 | [],pre,s,h,_=>by rw[cz];exact h|x::l,pre,s,h,hs=>by rw[dm];have:=jU l (pre++[x]) (f s x) (hs pre x s (aC ..) h) λp y st hy q=>hs p y st (az _ hy) q;rw[fg]at this;exact this
theorem afQ{K:ak}(e:X.K=K):IxR X (Wt K):=by subst e;exact b_
theorem xH{K:ak}(e:X.K=K):IxR X (aaz K):=by subst e;exact cw
abbrev W2:dZ:=mm 18
def yV(b:Bool)(cov:List Bool):mq->Bool
 | .range _ _=>b| .non k=>cov.getD k false
theorem Lj(b:Bool)(cov:List Bool)(l:List mq):(l.map (yV b cov)).all id=jZ b cov l:=by unfold jZ;rw[aeh];congr 1
inductive Tl(K:ak)(vs:List V)(H:Hp)(Q:VK)(E_:XK):Prop
 |mk (ra ca:ah) (r:eA) (cov:List Bool) (b:Bool) (_:vs=[.ref ra,.ref ca,.bl b]) (_:j1 H r ra) (_:cv K H ca (cov.map V.bl)) (_:r.rhs.length<=8) (_:(∀k,jp k∈r.rhs->k<cov.length)) (_:∀H',aE H H'->Q (.bl (jZ b cov r.rhs)) H')
theorem YN:bU ["rule","covering","with_ranges","symbol"] ["rule","covering","with_ranges"] (a5 W2):=ml
theorem Lk{cov:List Bool}(h:k<cov.length):(cov.map V.bl)[k]? =some (V.bl (cov.getD k false)):=by rw[aM,ay h,aT,ay h];rfl
theorem dk{x:V}(h:(qs.map V.ref)[i]? =some x):∃q,qs[i]? =some q/\x= .ref q:=by
 rw[aM]at h;cases e:qs[i]? with|none=>rw[e]at h;cases h|some q=>rw[e]at h;exact⟨q,rfl,(ax h).symm⟩
theorem abi(F:lg K "all_covered" "all_covered" W2 f fd)(T:Gm mg):dQ P w K mg base ki 1 f fd ["rule","covering","with_ranges"] (Tl K):=by
 refine F.ok YN (λvs H Q E h=>?_) (λgl A bN s H vs Q E hr h=>?_)
 ·obtain⟨ra,ca,r,cov,b,rfl,_⟩:=h;rfl
 ·obtain⟨ra,ca,r,cov,b,rfl,⟨t,qs,ha,ht,hq⟩,hc,h8,hk,k⟩:=h;have nd:=YN.nd;have dX:=a6 hq;refine⟨_,aJ (bG (cg (aaE rfl) rfl T.all (by decide+kernel) (af (qb (own:=[("symbol",3)]) rfl nd (yG (ft cw (pv 0) aR)) (gi (N:=["rule","covering","with_ranges","symbol"]) (sc:=a5 W2) (by decide+kernel)) (λ_ _ _ _ _=>nr 3 nd) (λ_ _ _ _ _=>mP) (λ_ _ _ _ _=>BL (bY g8 (ft (xH (K:=K) rfl) (pv 3) aR) (lQ T.rg rfl) (ck _)) (pv 2) (ft (afQ (K:=K) rfl) (pv 1) (ft (xH (K:=K) rfl) (pv 3) aR)))) aD))),?_⟩;refine⟨_,rfl,ra,_,_,_,rfl,rfl,eh.of ha,aN (j:=1) rfl,t,rfl,⟨_,eh.of ht⟩,λD hD=>?_⟩;have s1:aE H (aP H D (.be [])):=aE.aP hD;refine FM (K:=K) (a:=t) (xs:=qs.map V.ref) (λi H'=>aE H H'/\H' D=some (.be ((r.rhs.take i).map λy=>V.bl (yV b cov y)))) ⟨s1,ai⟩ (λi H' _ ⟨s2,_⟩=>eh.of (s2 _ _ ht)) ?_ ?_
  ·rintro i x H' hi ⟨s2,WY⟩;obtain⟨q,e,rfl⟩:=dk hi;obtain⟨y,hy,mW⟩:=b0 hq e;have Lg:=mW.keeps s2;have oH:∃acc,H' D=some (.be acc)/\acc.length<al/\(aE H (aP H' D (.be (acc++[V.bl (yV b cov y)])))/\aP H' D (.be (acc++[V.bl (yV b cov y)])) D=some (.be ((r.rhs.take (i+1)).map λy=>V.bl (yV b cov y)))):=by
    refine⟨_,WY,?_,λc o ec=>?_,?_⟩
    ·rw[aq,a4];exact d8 (iy _ _) (d8 h8 (by decide))
    ·rw[aF (aH ec hD)];exact s2 c o ec
    ·rw[ai,bQ,hy];simp only[l9,aK,aS,i3]
   cases y with|range lo hi=>exact⟨rfl,_,rfl,q,_,_,_,rfl,rfl,eh.of Lg,aN (j:=0) rfl,rfl,_,rfl,cF (dV rfl) ⟨_,rfl,oH⟩⟩|non n=>have hn:n<cov.length:=hk n (aG hy);exact⟨rfl,_,rfl,q,_,_,_,rfl,rfl,eh.of Lg,aN (j:=0) rfl,rfl,_,rfl,bZ (mh (by decide)) ⟨_,rfl,_,rfl,q,_,_,_,rfl,rfl,eh.of Lg,aN (j:=1) rfl,ca,_,_,_,rfl,rfl,s2.seq hc,aN (Lk hn),oH⟩⟩
  ·rintro H' ⟨s2,WY⟩;rw[a_,<-dX,a8]at WY;refine⟨D,r.rhs.map (yV b cov),rfl,cv.of (by rw[WY,bS];rfl),?_⟩;rw[Lj];exact k H' s2
abbrev yW:dZ:=mm 17
inductive wb(C:ah)(vs:List V)(H:Hp)(Q:VK)(E_:XK):Prop
 |mk (a:ah) (g:aL) (ls lm lw:ah) (b:Bool) (_:vs=[.ref a,.bl b]) (_:Good g) (_:jo C H g a ls lm lw) (_:∀(H':Hp)(q:ah)(cov:List Bool),aE H H'->H q=none->H' q=some (.be (cov.map V.bl))->cov.length=g.nons->(∀x,cov.getD x false=true↔c9 g b x)->Q (.ref q) H')
theorem Ce:bU ["table","with_ranges","covering","changed","rule"] ["table","with_ranges"] (a5 yW):=ml
theorem xI(n:Nat)(x:α):(bz n [x]).flatten=bz n x:=by
 induction n with|zero=>rfl|succ n ih=>rw[jl,ga,ih];rfl
theorem Pz(n:Nat)(D:Nat->Prop):vh n D (bz n false):=⟨by simp,λa h=>by rw[aT,jq]at h;split at h<;>cases h⟩
theorem zQ(G:Good g)(h:r∈fc g):r.rhs.length<=8:=by obtain⟨q,hq,rfl⟩:=aQ.mp h;show(q.rhs.map (o1 g)).length<=8;rw[aq];exact(G.rule q hq).fD
theorem abj(cov:List Bool)(i:Nat)(x:Bool):(cov.map V.bl).set i (.bl x)=(cov.set i x).map V.bl:=by rw[ael]
theorem xJ{n j:Nat}(h:j<n):Sj n (j:Int)=some j:=by unfold Sj;simp[h]
theorem Jg(F:lg K "nonterminals_covering" "nonterminals_covering" yW f fd)(T:Gm mg)(TT:AX K C)(GO:jL P w K mg base "own_rules" 1 ["table"] (Th C))(GA:jL P w K mg base "all_covered" 1 ["rule","covering","with_ranges"] (Tl K)):dQ P w K mg base ki 2 f fd ["table","with_ranges"] (wb C):=by
 refine F.ok Ce (λvs H Q E h=>?_) (λgl A bN s H vs Q E hr h=>?_)
 ·obtain⟨a,g,ls,lm,lw,b,rfl,_⟩:=h;rfl
 ·obtain⟨a,g,ls,lm,lw,b,rfl,G,hT,k⟩:=h;have hT0:=hT;obtain⟨dx,lr,lc,lo,as,cs,h1,h2,h3,h4,h5,h6⟩:=hT0;have nd:=Ce.nd;refine⟨_,am (g9 2 nd (e7 FI (cV (af lD aD)) (cE (pv 0) rfl))) (am (g9 3 nd lD) (am (mN bi (lN (pv 3)) (am (g9 3 nd lD) (aJ (fQ bi rfl (fA (cO GO hr (aB _) rfl (af (pv 0) aD))) (nr 4 nd) (aJ (dD (PW.pt (r_ (o_ (lN (ft b_ (pv 2) (ft cw (pv 4) aR)))) (r9 (lN (cO GA hr (aB _) rfl (af (pv 4) (af (pv 2) (af (pv 1) aD)))))))) (am (BN lD (BM (pv 2) (ft cw (pv 4) aR) ug)) (aJ (g9 3 nd lD))) b5)))))) (aJ (bG (pv 2))))),?_⟩;refine⟨(by show 1<=al;decide),λl0 Av=>?_⟩;have s0:aE H (aP H l0 (.be [.bl false])):=aE.aP Av;have Cf:=G.tJ;refine⟨_,rfl,a,C,dx,_,_,rfl,s0 _ _ h1,TT.cl,TT.non,FU,l0,_,_,rfl,rfl,ai,by omega,by omega,?_,λl hl=>?_⟩
  ·show 1*((g.nons:Int)).toNat<=al;have:al=16777216:=bR;omega
  have e0:((g.nons:Int)).toNat=g.nons:=by omega
  rw[e0,xI];have s1:aE H (aP (aP H l0 (.be [.bl false])) l (.be (bz g.nons (.bl false)))):=aE.kj s0 hl;have FX:H l=none:=s0.free hl;generalize xE:aP (aP H l0 (.be [.bl false])) l (.be (bz g.nons (.bl false)))=H1 at s1 ⊢;have hL1:H1 l=some (.be ((bz g.nons false).map V.bl)):=by rw[<-xE,ai,yk]
  clear xE;refine⟨λm σ H'=>∃(cov:List Bool)(ch:Bool)(v:Option V),m=(if ch=true then n9 cov+1 else 0)/\σ=[some (.ref a),some (.bl b),some (.ref l),some (.bl ch),v]/\H' l=some (.be (cov.map V.bl))/\aE H H'/\vh g.nons (c9 g b) cov/\(ch=false->∀r∈fc g,jZ b cov r.rhs=true->cov.getD r.lhs false=true),⟨_,bz g.nons false,true,none,rfl,rfl,hL1,s1,Pz _ _,λz=>by cases z⟩,?_⟩;rintro m σ H' ⟨cov,ch,v,rfl,rfl,hL,s2,ok,dB⟩;refine⟨_,rfl,_,rfl,?_⟩;cases ch with
  |false=>refine bZ rfl ⟨_,rfl,?_⟩;exact k H' l cov s2 FX hL ok.fD λx=>Ri ok (dB rfl) x
  |true=>
   refine cF rfl ⟨_,λ_ _ z=>z,?_⟩;refine⟨_,rfl,a,g,ls,lm,lw,rfl,hT.keeps s2,λH2 q as' s3 sm hq hR=>?_⟩;have hL2:H2 l=some (.be (cov.map V.bl)):=s3 _ _ hL;have yU:q≠l:= λz=>by rw[z,hL]at sm;cases sm
   have dX:=a6 hR;have AW:∀c∈[l],∀xs,H2 c≠some (.bV xs):= λc hc xs e=>by
    have:c=l:=by simpa using hc
    rw[this,hL2]at e;cases e
   have hRb:=hR.nt AW;have hqb:d6 [l] H2 q=some (.be (as'.map V.ref)):=bo.mpr ⟨by simpa using yU,hq⟩;refine⟨q,rfl,⟨_,cv.of hq⟩,ig (K:=K) (a:=q) (xs:=as'.map V.ref) (λi σ H3=>∃v:Option V,σ=[some (.ref a),some (.bl b),some (.ref l),some (.bl (((fc g).take i).foldl (gx b) (cov,false)).2),v]/\H3 l=some (.be ((((fc g).take i).foldl (gx b) (cov,false)).1.map V.bl))/\aE (d6 [l] H2) H3) ⟨v,rfl,hL2,ci _ _⟩ (λi σ H3 _ ⟨_,_,_,s4⟩=>cv.of (s4 _ _ hqb)) ?_ ?_⟩
   ·rintro i x σ H3 hi ⟨v,rfl,oI,s4⟩;obtain⟨ra,e,rfl⟩:=dk hi;obtain⟨r,hy,mW⟩:=b0 hRb e;have FY:=aG hy;have RC:=iH G FY;have G_:vh g.nons (c9 g b) (((fc g).take i).foldl (gx b) (cov,false)).1:=vJ (λr hr=>tW g b r (eX hr)) ok;have Aw:((fc g).take (i+1)).foldl (gx b) (cov,false)=gx b (((fc g).take i).foldl (gx b) (cov,false)) r:=by rw[bQ,hy];simp
    rw[Aw];generalize ((fc g).take i).foldl (gx b) (cov,false)=st at oI G_ ⊢;have xK:=mW.keeps s4;have DB:=xK;obtain⟨t,qs,Ll,Nt,zR⟩:=DB;have f8:r.lhs<st.1.length:=by rw[G_.fD];exact RC.lhs
    refine⟨_,rfl,_,rfl,ra,_,_,_,rfl,rfl,eh.of Ll,aN (j:=0) rfl,l,_,_,_,rfl,rfl,cv.of oI,aN (Lk f8),_,rfl,?_⟩;have same:∀{H':Hp},aE H3 H'->aE (d6 [l] H2) H':= λz=>s4.trans z;cases hc:st.1.getD r.lhs false with
    |true=>
     refine bZ rfl (bZ rfl ?_);have e1:gx b st r=st:=by unfold gx;rw[if_neg λz=>by rw[hc]at z;cases z.1]
     rw[e1];exact⟨_,rfl,oI,s4⟩
    |false=>
     refine cF rfl ⟨_,rfl,_,rfl,_,rfl,ra,l,r,st.1,b,rfl,xK,cv.of oI,zQ G FY,λn hn=>by rw[G_.fD];exact RC.Oh n hn,λH4 s5=>⟨_,rfl,?_⟩⟩;cases ZZ:jZ b st.1 r.rhs with
     |false=>
      refine bZ rfl ?_;have e1:gx b st r=st:=by unfold gx;rw[if_neg λz=>by rw[ZZ]at z;cases z.2]
      rw[e1];exact⟨_,rfl,s5 _ _ oI,same s5⟩
     |true=>
      refine cF rfl ?_;have e1:gx b st r=(st.1.set r.lhs true,true):=by unfold gx;rw[if_pos ⟨hc,ZZ⟩]
      rw[e1];have DC:=s5 _ _ oI;refine⟨_,rfl,_,rfl,ra,_,_,_,rfl,rfl,eh.of (s5 _ _ Ll),aN (j:=0) rfl,l,_,_,_,rfl,rfl,DC,xJ (by rw[aq];exact f8),?_⟩;rw[abj];exact⟨_,rfl,ai,cS (same s5) (by simp)⟩
   ·rintro σ H3 ⟨v,rfl,oI,s4⟩;rw[a_,<-dX,a8]at oI;rw[a_,<-dX,a8];have G_:vh g.nons (c9 g b) ((fc g).foldl (gx b) (cov,false)).1:=vJ (λr hr=>tW g b r hr) ok;have Jh:wP b (fc g) cov ((fc g).foldl (gx b) (cov,false)):=by exact(jU (P:= λpre st=>vh g.nons (c9 g b) st.1/\wP b pre cov st) (fc g) [] (cov,false) ⟨ok,Df⟩ λpre x st hx q=>⟨Bk (tW g b x hx) q.1,Fb (by rw[q.1.fD];exact(iH G hx).lhs) q.2⟩).2
    generalize (fc g).foldl (gx b) (cov,false)=st at oI G_ Jh ⊢;obtain⟨q1,q2,q3⟩:=Jh;refine⟨if st.2=true then n9 st.1+1 else 0,?_,st.1,st.2,v,rfl,rfl,oI,?_,G_,λz=>?_⟩
    ·rw[if_pos rfl];cases hs:st.2 with|true=>rw[if_pos rfl];have:=q2 hs;omega|false=>rw[if_neg (by decide)];omega
    ·exact uv FX (s2.trans s3) s4
    ·obtain⟨e1,e2⟩:=q1 z;rw[e1];exact e2
abbrev Nu:dZ:=mm 19
inductive Tn(C:ah)(vs:List V)(H:Hp)(Q:VK)(E_:XK):Prop
 |mk (a:ah) (g:aL) (ls lm lw:ah) (_:vs=[.ref a]) (_:Good g) (_:jo C H g a ls lm lw) (_:Cd H Q (G7 g))
theorem To:bU ["table","productive","rule"] ["table"] (a5 Nu):=ml
theorem Ch(G:Good g):(fc g).length<=60:=by unfold fc;rw[aq];exact G.fD
theorem W3(F:lg K "productive_rules" "productive_rules" Nu f fd)(GC:jL P w K mg base "nonterminals_covering" 2 ["table","with_ranges"] (wb C))(GO:jL P w K mg base "own_rules" 1 ["table"] (Th C))(GA:jL P w K mg base "all_covered" 1 ["rule","covering","with_ranges"] (Tl K)):dQ P w K mg base ki 3 f fd ["table"] (Tn C):=by
 refine F.ok To (λvs H Q E h=>?_) (λgl A bN s H vs Q E hr h=>?_)
 ·obtain⟨a,g,ls,lm,lw,rfl,_⟩:=h;rfl
 ·obtain⟨a,g,ls,lm,lw,rfl,G,hT,k⟩:=h;have nd:=To.nd;refine⟨_,am (vS (i:=1) nd rfl (by first|exact l8 rfl|exact mU rfl|exact mU (l8 rfl)) (cO GC hr (aB _) rfl (af (pv 0) (af lD aD)))) (aJ (bG (qb (own:=[("rule",2)]) rfl nd (fA (cO GO hr (by decide) rfl (af (pv 0) aD))) (gi (N:=["table","productive","rule"]) (sc:=a5 Nu) (by decide+kernel)) (λ_ _ _ _ _=>nr 2 nd) (λ_ _ _ _ _=>se (lN (cO GA hr (by decide) rfl (af (pv 2) (af (pv 1) (af lD aD)))))) (λ_ _ _ _ _=>pv 2)))),?_⟩;refine⟨_,rfl,a,g,ls,lm,lw,true,rfl,G,hT,λH1 p cov s1 PB hp IL alG=>?_⟩;refine⟨_,rfl,a,g,ls,lm,lw,rfl,hT.keeps s1,λH2 q as s2 sm hq hR=>⟨q,rfl,⟨_,cv.of hq⟩,λD hD=>?_⟩⟩;have dX:=a6 hR;have s3:aE H2 (aP H2 D (.be [])):=aE.aP hD;refine nE (K:=K) (a:=q) (xs:=as.map V.ref) (λi H3=>aE H2 H3/\∃ps:List ah,H3 D=some (.be (ps.map V.ref))/\eY H3 (((fc g).take i).filter (λr=>jZ true cov r.rhs)) ps) ⟨s3,[],ai,.nil⟩ (λi H3 _ ⟨s4,_⟩=>cv.of (s4 _ _ hq)) ?_ ?_
  ·rintro i x H3 hi ⟨s4,ps,li,wy⟩;obtain⟨ra,e,rfl⟩:=dk hi;obtain⟨r,hy,mW⟩:=b0 hR e;have FY:=aG hy;have RC:=iH G FY;have wx:ps.length<=60:=by rw[<-a6 wy];refine aW (cp _ _) ?_;rw[a4];exact aW (iy _ _) (Ch G)
   refine⟨rfl,_,rfl,_,rfl,ra,p,r,cov,true,rfl,mW.keeps s4,cv.of (s4 _ _ (s2 _ _ hp)),zQ G FY,λn hn=>by rw[IL];exact RC.Oh n hn,λH4 s5=>⟨_,rfl,?_⟩⟩;have Aw:((fc g).take (i+1)).filter (λr=>jZ true cov r.rhs)=((fc g).take i).filter (λr=>jZ true cov r.rhs)++if jZ true cov r.rhs=true then[r]else[]:=by exact qe (p:= λr=>jZ true cov r.rhs) hy
   cases hc:jZ true cov r.rhs with
   |false=>refine bZ rfl ⟨s4.trans s5,ps,s5 _ _ li,?_⟩;rw[Aw,hc,if_neg (by decide),cz];exact wy.keeps s5|true=>
    refine cF rfl ⟨_,rfl,_,s5 _ _ li,by rw[a_];exact d8 wx (by decide),λc o ec=>?_,ps++[ra],?_,?_⟩
    ·rw[aF (aH ec hD)];exact s5 _ _ (s4 _ _ ec)
    ·rw[ai,aK];rfl
    ·rw[Aw,hc,if_pos rfl];have AW:∀c∈[D],∀xs,H4 c≠some (.bV xs):= λc hcm xs ex=>by
      have:c=D:=by simpa using hcm
      rw[this,s5 _ _ li]at ex;cases ex
     have sb:aE (d6 [D] H4) (aP H4 D (.be (ps.map V.ref++[V.ref ra]))):=cS (ci _ _) (by simp);exact cJ ((eY.nt AW (wy.keeps s5)).keeps sb) ((j1.nt AW (mW.keeps (s4.trans s5))).keeps sb)
  ·rintro H3 ⟨s4,ps,li,wy⟩;rw[a_,<-dX,a8,HY G alG]at wy;exact k H3 D ps ((s1.trans s2).trans s4) ((s1.trans s2).free hD) li wy
abbrev Lm:dZ:=mm 20
def PD(rk:List Nat):List (fE×V):=rk.map λ(a:Nat)=>((bJ (a:Int):fE),V.bl true)
theorem FZ(rk:List Nat)(b:Nat):iV (PD rk) (bJ (b:Int))=if b∈rk then some (V.bl true)else none:=by
 induction rk with
 |nil=>rfl|cons a rk ih=>
  show iV ((bJ (a:Int),V.bl true)::PD rk) _=_;by_cases e:a=b
  ·subst e;rw[nR rfl,if_pos (aC ..)]
  ·rw[nS (λz=>e (m9 (z9 z))),ih];by_cases h:b∈rk
   ·rw[if_pos h,if_pos (az _ h)]
   ·rw[if_neg h,if_neg λz=>by
     rcases aU.mp z with q|q
     ·exact e q.symm
     ·exact h q]
theorem W4{rk:List Nat}(h:b∉rk):kJ (PD rk) (bJ (b:Int)) (V.bl true)=PD (rk++[b]):=by rw[nU _ (by rw[FZ,if_neg h])];unfold PD;rw[aK];rfl
inductive Nv(vs:List V)(H:Hp)(Q:VK)(E_:XK):Prop
 |mk (a:ah) (oz:List eA) (as:List ah) (n:Nat) (_:vs=[.ref a]) (_:H a=some (.be (as.map V.ref))) (_:eY H oz as) (_:1<=n) (_:n<=20) (_:(∀r∈oz,∀b,jp b∈r.rhs->b<n)) (_:∀(H':Hp)(q:ah)(rk:List Nat),aE H H'->H q=none->H' q=some (.dK (PD rk))->(∀x,x∈rk↔jw oz x)->Q (.ref q) H')
theorem Nw:bU ["productive","reachable","waiting","nonterminal","rule","symbol"] ["productive"] (a5 Lm):=ml
theorem Tp(F:lg K "reachable_nonterminals" "reachable_nonterminals" Lm f fd)(T:Gm mg):dQ P w K mg base ki 1 f fd ["productive"] Nv:=by
 refine F.ok Nw (λvs H Q E h=>?_) (λgl A bN s H vs Q E hr h=>?_)
 ·obtain⟨a,oz,as,n,rfl,_⟩:=h;rfl
 ·obtain⟨a,oz,as,n,rfl,hA,hR,hn1,hn2,hn,k⟩:=h;have nd:=Nw.nd;have hu:=m5 hr;have dX:=a6 hR;refine⟨_,am (g9 1 nd (WG (Sz aR lD WF) rfl rfl (by decide) (by decide))) (am (g9 2 nd (cV (af aR aD))) (am (mN bi (xc (pv 2) (λ_=>rfl)) (am (g9 3 nd (Sm bf wq Hw Sn (pv 2))) (aJ (fQ bi rfl (fA (pv 0)) (nr 4 nd) (aJ (dD (bY g8 (ft cw (pv 4) aR) (pv 3) (ck _)) (aJ (fQ bi rfl (yG (ft cw (pv 4) aR)) (nr 5 nd) (aJ (dD (PW.pt (r_ (bY g8 (ft cw (pv 5) aR) (lQ T.nt rfl) (ck _)) (r9 (Fx (O_ hu (ft cw (pv 5) aR) (pv 1)))))) (am (lI hu (pv 1) (ft cw (pv 5) aR) lD rfl) (aJ (fz (i_ bf bv bx d_ (pv 2) (af (ft cw (pv 5) aR) aD))))) b5)))) b5)))))) (aJ (bG (pv 1))))),?_⟩;refine λd hd=>⟨ai,[(bJ 0,V.bl true)],rfl,(by decide),(by show 1<=al;decide),λt ht=>?_⟩;have s1:aE H (aP (aP (aP H d (.dK [])) d (.dK (vX [] [(bJ 0,V.bl true)]))) t (.be [V.int 0])):=aE.kj (λb o e=>by rw[aF (aH e hd),aF (aH e hd)];exact e) ht;generalize xE:aP (aP (aP H d (.dK [])) d (.dK (vX [] [(bJ 0,V.bl true)]))) t (.be [V.int 0])=H1 at s1 ⊢;have yh:d≠t:= λz=>by rw[<-z,ai]at ht;cases ht
  have hHt:H t=none:=by rw[aF yh.symm,aF yh.symm]at ht;exact ht
  have Tq:H1 d=some (.dK (PD [0])):=by rw[<-xE,aF yh,ai];rfl
  have hT1:H1 t=some (.be (eS [0])):=by rw[<-xE,ai];rfl
  clear xE;refine⟨λm σ H'=>∃(rk wt:List Nat)(v3 v4 v5:Option V),m=2*(n-rk.length)+wt.length/\σ=[some (.ref a),some (.ref d),some (.ref t),v3,v4,v5]/\H' d=some (.dK (PD rk))/\H' t=some (.be (eS wt))/\aE H H'/\Rch n oz rk wt/\2*(n-rk.length)+wt.length<=40,⟨_,[0],[0],none,none,none,rfl,rfl,Tq,hT1,s1,OF hn1,by simp;omega⟩,?_⟩;rintro m σ H' ⟨rk,wt,v3,v4,v5,rfl,rfl,hD,hT,s2,R,h40⟩;refine⟨_,rfl,_,.inl ⟨_,cv.of hT,rfl⟩,?_⟩;rcases Mq wt with rfl|⟨Ln,c,ewt⟩
  ·refine bZ rfl ⟨_,rfl,?_⟩;exact k H' d rk s2 hd hD λx=>RH R x
  ·rw[Mr]at ewt;subst ewt;have j8:(!(eS (Ln++[c])).isEmpty)=true:=by simp[eS]
   have zO:(eS (Ln++[c]))[(eS (Ln++[c])).length-1]? =some (nV c):=by simp[eS]
   have DD:(eS (Ln++[c])).dropLast=eS Ln:=by simp[eS]
   refine cF j8 ⟨_,λ_ _ z=>z,?_⟩;refine⟨_,rfl,.inl ⟨rfl,_,cv.of hT⟩,t,_,_,rfl,rfl,hT,zO,?_⟩;rw[DD];have s3:aE H (aP H' t (.be (eS Ln))):= λb o e=>by rw[aF (aH e hHt)];exact s2 b o e
   obtain⟨R',z0,ez1,ez2⟩:=RG hn R;have De:=MA R;have afT:=MA R';refine⟨_,rfl,a,rfl,⟨_,cv.of (s3 _ _ hA)⟩,ig (K:=K) (a:=a) (xs:=as.map V.ref) (λi σ H3=>∃(v4 v5:Option V),σ=[some (.ref a),some (.ref d),some (.ref t),some (nV c),v4,v5]/\H3 d=some (.dK (PD ((oz.take i).foldl (gy c) (rk,Ln)).1))/\H3 t=some (.be (eS ((oz.take i).foldl (gy c) (rk,Ln)).2))/\aE H H3) ⟨v4,v5,rfl,by rw[aF yh];exact hD,ai,s3⟩ (λi σ H3 _ ⟨_,_,_,_,_,s4⟩=>cv.of (s4 _ _ hA)) ?_ ?_⟩
   ·rintro i x σ H3 hi ⟨v4,v5,rfl,li,QN,s4⟩;obtain⟨ra,e,rfl⟩:=dk hi;obtain⟨r,hy,mW⟩:=b0 hR e;have FY:=aG hy;have Aw:(oz.take (i+1)).foldl (gy c) (rk,Ln)=gy c ((oz.take i).foldl (gy c) (rk,Ln)) r:=by rw[bQ,hy];simp
    rw[Aw];have mid:=(yy (rk0:=rk) (wt0:=Ln) (R.lZ c (R.Ff c (by simp))) hn (l:=oz.take i) (st:=(rk,Ln)) (λr z=>eX z) ⟨⟨[],by simp,by simp⟩,R.lZ,R.nd,R.lt⟩).1;generalize (oz.take i).foldl (gy c) (rk,Ln)=st at li QN mid ⊢;obtain⟨tt,qs,Ll,Nt,zR⟩:=mW;refine⟨_,rfl,ra,_,_,_,rfl,rfl,eh.of (s4 _ _ Ll),aN (j:=0) rfl,_,rfl,rfl,_,rfl,?_⟩;by_cases hc:r.lhs=c
    ·have e1:gy c st r=r.rhs.foldl jB st:=if_pos hc;rw[e1];have hcr:=R.lZ c (R.Ff c (by simp));refine cF (dV (by rw[hc])) ⟨_,rfl,ra,_,_,_,rfl,rfl,eh.of (s4 _ _ Ll),aN (j:=1) rfl,tt,rfl,⟨_,eh.of (s4 _ _ Nt)⟩,MM (K:=K) (a:=tt) (xs:=qs.map V.ref) (λi σ H4=>∃(v5:Option V),σ=[some (.ref a),some (.ref d),some (.ref t),some (nV c),some (.ref ra),v5]/\H4 d=some (.dK (PD ((r.rhs.take i).foldl jB st).1))/\H4 t=some (.be (eS ((r.rhs.take i).foldl jB st).2))/\aE H H4) ⟨v5,rfl,li,QN,s4⟩ (λi σ H4 _ ⟨_,_,_,_,s5⟩=>eh.of (s5 _ _ Nt)) ?_ ?_⟩
     ·rintro i x σ H4 hi ⟨v5,rfl,vx,AV,s5⟩;obtain⟨q,e,rfl⟩:=dk hi;obtain⟨y,hy,mW⟩:=b0 zR e;have Aw:(r.rhs.take (i+1)).foldl jB st=jB ((r.rhs.take i).foldl jB st) y:=by rw[bQ,hy];simp
      rw[Aw];have W5:=(Bz (l:=r.rhs.take i) mid λb hb=>⟨tN oz r FY (by rw[hc];exact hcr) b (eX hb),hn r FY b (eX hb)⟩).1;generalize (r.rhs.take i).foldl jB st=sy at vx AV W5 ⊢;have DB:H4 q=some (.bV (v1 y)):=s5 _ _ mW;cases y with
      |range lo hi=>exact⟨_,rfl,q,_,_,_,rfl,rfl,eh.of DB,aN (j:=0) rfl,rfl,_,rfl,bZ (mh (by decide)) (bZ rfl ⟨_,rfl,vx,AV,s5⟩)⟩|non b=>
       refine⟨_,rfl,q,_,_,_,rfl,rfl,eh.of DB,aN (j:=0) rfl,rfl,_,rfl,cF (dV rfl) ⟨_,rfl,q,_,_,_,rfl,rfl,eh.of DB,aN (j:=1) rfl,_,rfl,d,_,rfl,lx.k (k:=bJ (b:Int)) vx,_,rfl,?_⟩⟩;rw[FZ];by_cases hb:b∈sy.1
       ·rw[if_pos hb];have e1:jB sy (.non b)=sy:=if_pos hb;rw[e1];exact bZ rfl ⟨_,rfl,vx,AV,s5⟩
       ·rw[if_neg hb];have e1:jB sy (.non b)=(sy.1++[b],sy.2++[b]):=if_neg hb;rw[e1];have sh:sy.1.length<=n:=o4 W5.nd W5.lt;have hsz:al=16777216:=bR;refine cF rfl ⟨_,rfl,_,rfl,q,_,_,_,rfl,rfl,eh.of DB,aN (j:=1) rfl,d,_,rfl,s_.k (k:=bJ (b:Int)) vx (by unfold PD;rw[aq];omega),?_⟩;rw[W4 hb];have hT5:aP H4 d (.dK (PD (sy.1++[b]))) t=some (.be (eS sy.2)):=by rw[aF yh.symm];exact AV
        have Tr:aP H4 d (.dK (PD (sy.1++[b]))) q=some (.bV (v1 (.non b))):=by rw[aF (nQ DB vx (λz=>nomatch z))];exact DB
        have oR:sy.2.length<=2000:=by obtain⟨z,ea,eb⟩:=W5.ad;rw[eb,aw];rw[ea,aw]at sh;rw[aw,bp]at h40;omega
        refine⟨_,rfl,.inl ⟨rfl,_,cv.of hT5⟩,_,rfl,q,_,_,_,rfl,rfl,eh.of Tr,aN (j:=1) rfl,t,_,_,rfl,rfl,hT5,by unfold eS;rw[aq];omega,?_⟩;refine⟨_,rfl,?_,?_,λc o ec=>?_⟩
        ·rw[aF yh,ai]
        ·rw[ai];unfold eS;rw[aK];rfl
        ·rw[aF (aH ec hHt),aF (aH ec hd)];exact s5 c o ec
     ·rintro σ H4 ⟨v5,rfl,vx,AV,s5⟩;rw[a_,<-a6 zR,a8]at vx AV;exact⟨_,_,rfl,vx,AV,s5⟩
    ·have e1:gy c st r=st:=if_neg hc;rw[e1];exact bZ (mh (by omega)) ⟨_,_,rfl,li,QN,s4⟩
   ·rintro σ H3 ⟨v4,v5,rfl,li,QN,s4⟩;rw[a_,<-dX,a8]at li QN;rw[ez1]at afT;have hm:2*(n-(rk++z0).length)+(Ln++z0).length<2*(n-rk.length)+(Ln++[c]).length:=by simp only[aw,bp]at afT ⊢;omega
    refine⟨_,?_,_,_,some (nV c),v4,v5,rfl,rfl,li,QN,s4,R',?_⟩
    ·rw[ez1,ez2];exact hm
    ·rw[ez1,ez2];omega
theorem abl(m n:Nat):D8 (m:Int) (n:Int)=((m|||n:Nat):Int):=by
 rw[bitOr_and,bitAnd_pp (by omega) (by omega)];have e:=nat_or_add_and m n;have e1:((m:Int)).toNat=m:=by omega
 have e2:((n:Int)).toNat=n:=by omega
 rw[e1,e2];omega
inductive alJ(x y:V)(H:Hp)(Q:VK):Prop
 |mk (m n:Nat) (_:x=nV m) (_:y=nV n) (_:Q (nV (m|||n)) H)
theorem Ci:uQ X (lV .BitOr) alJ:=by intro pins s σ H x y v u Q I rx ry h;obtain⟨m,n,e1,e2,q⟩:=h;refine aeW pins s σ H x y v u Q I rx ry ⟨m,n,e1,e2,?_⟩;show Q (V.int (D8 (m:Int) (n:Int))) H;rw[abl];exact q
theorem sn(h:i<l.length):(eS l)[i]? =some (nV (l.getD i 0)):=by rw[aT,ay h];exact uT (ay h)
theorem F0(l:List Nat)(i x:Nat):(eS l).set i (nV x)=eS (l.set i x):=by unfold eS;rw[ael]
theorem fO(l:List Nat):(eS l).length=l.length:=aq _
abbrev Lo:dZ:=mm 21
structure Lp(y:mq)(n:Nat):Prop where
 ord:Rk y
 Op:∀lo hi,y= .range lo hi->hi<1000
 lt:∀k,y= .non k->k<n
inductive F1(K:ak)(vs:List V)(H:Hp)(Q:VK)(E_:XK):Prop
 |mk (sa fa ha:ah) (y:mq) (tail:Nat) (first:List Nat) (hol:List Bool) (_:vs=[.ref sa,nV tail,.ref fa,.ref ha]) (_:uq H y sa) (_:cv K H fa (eS first)) (_:cv K H ha (hol.map V.bl)) (_:Lp y first.length) (_:hol.length=first.length) (_:Q (nV (ahead first hol y tail)) H)
theorem W6:bU ["symbol","tail","first","hollow"] ["symbol","tail","first","hollow"] (a5 Lo):=ml
theorem Ts(F:lg K "ahead_of" "ahead_of" Lo f fd)(T:Gm mg)(GS:jL P w K mg base "span_bits" 1 ["symbol"] Tj):dQ P w K mg base ki 2 f fd ["symbol","tail","first","hollow"] (F1 K):=by
 refine F.ok W6 (λvs H Q E h=>?_) (λgl A bN s H vs Q E hr h=>?_)
 ·obtain⟨sa,fa,ha,y,tail,first,hol,rfl,_⟩:=h;rfl
 ·obtain⟨sa,fa,ha,y,tail,first,hol,rfl,hS,hF,hH,fit,hl,k⟩:=h;refine⟨_,am (dD (bY g8 (ft cw (pv 0) aR) (lQ T.rg rfl) (ck _)) (aJ (bG (cO GS hr (aB _) rfl (af (pv 0) aD)))) b5) (am (dD (lN (ft b_ (pv 3) (ft cw (pv 0) aR))) (aJ (bG (e7 Ci (ft b_ (pv 2) (ft cw (pv 0) aR)) (pv 1)))) b5) (aJ (bG (ft b_ (pv 2) (ft cw (pv 0) aR))))),?_⟩;have sZ:H sa=some (.bV (v1 y)):=hS;cases y with
  |range lo hi=>refine⟨_,rfl,sa,_,_,_,rfl,rfl,eh.of sZ,aN (j:=0) rfl,rfl,_,rfl,cF (dV rfl) ⟨_,rfl,sa,lo,hi,rfl,hS,fit.ord,fit.Op lo hi rfl,?_⟩⟩;exact k|non n=>
   have hn:=fit.lt n rfl;refine⟨_,rfl,sa,_,_,_,rfl,rfl,eh.of sZ,aN (j:=0) rfl,rfl,_,rfl,bZ (mh (by decide)) ⟨_,rfl,_,rfl,sa,_,_,_,rfl,rfl,eh.of sZ,aN (j:=1) rfl,ha,_,_,_,rfl,rfl,hH,aN (Lk (by rw[hl];exact hn)),_,rfl,?_⟩⟩;have ek:ahead first hol (.non n) tail=if hol.getD n false=true then first.getD n 0|||tail else first.getD n 0:=rfl
   rw[ek]at k;cases hc:hol.getD n false with|true=>rw[hc,if_pos rfl]at k;refine cF rfl ⟨_,rfl,_,rfl,sa,_,_,_,rfl,rfl,eh.of sZ,aN (j:=1) rfl,fa,_,_,_,rfl,rfl,hF,aN (sn hn),_,rfl,_,_,rfl,rfl,?_⟩;exact k|false=>rw[hc,if_neg (by decide)]at k;exact bZ rfl ⟨_,rfl,_,rfl,sa,_,_,_,rfl,rfl,eh.of sZ,aN (j:=1) rfl,fa,_,_,_,rfl,rfl,hF,aN (sn hn),k⟩
theorem Ny(G:Good g)(h:r∈fc g){y:mq}(hy:y∈r.rhs):Lp y g.nons:=by have R:=iH G h;have h2:=(eO G).2;refine⟨R.ord y hy,λlo hi e=>?_,λk e=>R.Oh k (by rw[<-e];exact hy)⟩;have:=R.Op lo hi (by rw[<-e];exact hy);unfold gs at this;omega
abbrev Lq:dZ:=mm 22
inductive Nz(C:ah)(K:ak)(vs:List V)(H:Hp)(Q:VK)(E_:XK):Prop
 |mk (a pa ha:ah) (g:aL) (ls lm lw:ah) (as:List ah) (hol:List Bool) (_:vs=[.ref a,.ref pa,.ref ha]) (_:Good g) (_:jo C H g a ls lm lw) (_:H pa=some (.be (as.map V.ref))) (_:eY H (G7 g) as) (_:H ha=some (.be (hol.map V.bl))) (_:hol.length=g.nons) (_:(∀x,hol.getD x false=true↔c9 g false x)) (_:∀(H':Hp)(q:ah)(first:List Nat),aE H H'->H q=none->H' q=some (.be (eS first))->iG g.nons (gs g+1) (Kx g) first->(∀c x,Bc first c x↔Kx g c x)->Q (.ref q) H')
theorem NB:bU ["table","productive","hollow","first","changed","rule","begins","symbol"] ["table","productive","hollow"] (a5 Lq):=ml
theorem Ji{first:List Nat}{hol:List Bool}{l:List mq}{y:mq}(hi:i<l.length)(h:l[l.length-1-i]? =some y)(t:Nat):kG first hol (l.drop (l.length-(i+1))) t=ahead first hol y (kG first hol (l.drop (l.length-i)) t):=by
 have e:l.length-(i+1)=l.length-1-i:=by omega
 have f8:l.length-1-i<l.length:=by omega
 have hg:l[l.length-1-i]=y:=by rw[ay f8]at h;exact ax h
 rw[e,lH f8,hg];have e2:l.length-1-i+1=l.length-i:=by omega
 rw[e2];rfl
theorem Tt(F:lg K "first_sets" "first_sets" Lq f fd)(T:Gm mg)(TT:AX K C)(GA:jL P w K mg base "ahead_of" 2 ["symbol","tail","first","hollow"] (F1 K)):dQ P w K mg base ki 3 f fd ["table","productive","hollow"] (Nz C K):=by
 refine F.ok NB (λvs H Q E h=>?_) (λgl A bN s H vs Q E hr h=>?_)
 ·obtain⟨a,pa,ha,g,ls,lm,lw,as,hol,rfl,_⟩:=h;rfl
 ·obtain⟨a,pa,ha,g,ls,lm,lw,as,hol,rfl,G,hT,hP,hR,hH,Vw,hh,k⟩:=h;obtain⟨dx,lr,lc,lo,as0,cs,h1,h2,h3,h4,h5,h6⟩:=hT;have nd:=NB.nd;have dX:=a6 hR;refine⟨_,am (g9 3 nd (e7 FI (cV (af aR aD)) (cE (pv 0) rfl))) (am (g9 4 nd lD) (am (mN bi (lN (pv 4)) (am (g9 4 nd lD) (aJ (fQ bi rfl (fA (pv 1)) (nr 5 nd) (am (g9 6 nd aR) (am (fQ bi rfl (SG rfl T.xB (af (ft cw (pv 5) aR) aD)) (nr 7 nd) (aJ (g9 6 nd (cO GA hr (aB _) rfl (af (pv 7) (af (pv 6) (af (pv 3) (af (pv 2) aD)))))))) (aJ (dD (bY Iu (e7 Ci (ft b_ (pv 3) (ft cw (pv 5) aR)) (pv 6)) (ft b_ (pv 3) (ft cw (pv 5) aR)) (ck _)) (am (BN (e7 Ci (ft b_ (pv 3) (ft cw (pv 5) aR)) (pv 6)) (BM (pv 3) (ft cw (pv 5) aR) ug)) (aJ (g9 4 nd lD))) b5)))))))) (aJ (bG (pv 3))))),?_⟩;refine⟨(by show 1<=al;decide),λl0 Av=>?_⟩;have s0:aE H (aP H l0 (.be [.int 0])):=aE.aP Av;have Cf:=G.tJ;refine⟨_,rfl,a,C,dx,_,_,rfl,s0 _ _ h1,TT.cl,TT.non,FU,l0,_,_,rfl,rfl,ai,by omega,by omega,?_,λl hl=>?_⟩
  ·show 1*((g.nons:Int)).toNat<=al;have:al=16777216:=bR;omega
  have e0:((g.nons:Int)).toNat=g.nons:=by omega
  rw[e0,xI];have s1:aE H (aP (aP H l0 (.be [.int 0])) l (.be (bz g.nons (.int 0)))):=aE.kj s0 hl;have FX:H l=none:=s0.free hl;generalize xE:aP (aP H l0 (.be [.int 0])) l (.be (bz g.nons (.int 0)))=H1 at s1 ⊢;have hL1:H1 l=some (.be (eS (bz g.nons 0))):=by rw[<-xE,ai];unfold eS;rw[yk];rfl
  clear xE;have Wd:Nat:=gs g+1;refine⟨λm σ H'=>∃(t:List Nat)(ch:Bool)(v5 v6 v7:Option V),m=(if ch=true then room (gs g+1) t+1 else 0)/\σ=[some (.ref a),some (.ref pa),some (.ref ha),some (.ref l),some (.bl ch),v5,v6,v7]/\H' l=some (.be (eS t))/\aE H H'/\iG g.nons (gs g+1) (Kx g) t/\(ch=false->∀r∈G7 g,t.getD r.lhs 0|||kG t hol r.rhs 0=t.getD r.lhs 0),⟨_,bz g.nons 0,true,none,none,none,rfl,rfl,hL1,s1,BA,λz=>by cases z⟩,?_⟩;rintro m σ H' ⟨t,ch,v5,v6,v7,rfl,rfl,hL,s2,ok,dB⟩;refine⟨_,rfl,_,rfl,?_⟩;cases ch with
  |false=>refine bZ rfl ⟨_,rfl,?_⟩;exact k H' l t s2 FX hL ok λc x=>OG G hh ok (dB rfl) c x
  |true=>
   refine cF rfl ⟨_,λ_ _ z=>z,?_⟩;have keep:∀{H3:Hp},aE (d6 [l] H') H3->aE H H3:=uv FX s2;refine⟨_,rfl,pa,rfl,⟨_,cv.of (s2 _ _ hP)⟩,ig (K:=K) (a:=pa) (xs:=as.map V.ref) (λi σ H3=>∃v5 v6 v7:Option V,σ=[some (.ref a),some (.ref pa),some (.ref ha),some (.ref l),some (.bl (((G7 g).take i).foldl (nn hol) (t,false)).2),v5,v6,v7]/\H3 l=some (.be (eS (((G7 g).take i).foldl (nn hol) (t,false)).1))/\aE (d6 [l] H') H3) ⟨v5,v6,v7,rfl,hL,ci _ _⟩ (λi σ H3 _ ⟨_,_,_,_,_,s4⟩=>cv.of (keep s4 _ _ hP)) ?_ ?_⟩
   ·rintro i x σ H3 hi ⟨v5,v6,v7,rfl,oI,s4⟩;obtain⟨ra,e,rfl⟩:=dk hi;obtain⟨r,hy,mW⟩:=b0 hR e;have FY:=qQ G (aG hy);have RC:=iH G FY;have G_:iG g.nons (gs g+1) (Kx g) (((G7 g).take i).foldl (nn hol) (t,false)).1:=
     jU (P:= λ_ st=>iG g.nons (gs g+1) (Kx g) st.1) ((G7 g).take i) [] (t,false) ok λpre x st hx q=>Ec (iH G (qQ G (eX hx))) (wY hh (eX hx)) q
    rw[oT hy];generalize ((G7 g).take i).foldl (nn hol) (t,false)=st at oI G_ ⊢;obtain⟨tt,qs,Ll,Nt,zR⟩:=mW.keeps (keep s4);have f8:r.lhs<st.1.length:=by rw[G_.fD];exact RC.lhs
    have yU:=a6 zR;refine⟨_,rfl,ra,_,_,_,rfl,rfl,eh.of Ll,aN (j:=1) rfl,tt,_,rfl,eh.of Nt,Nc (K:=K) (a:=tt) (xs:=qs.map V.ref) (λi σ H4=>∃v7:Option V,σ=[some (.ref a),some (.ref pa),some (.ref ha),some (.ref l),some (.bl st.2),some (.ref ra),some (nV (kG st.1 hol (r.rhs.drop (r.rhs.length-i)) 0)),v7]/\H4=H3) ⟨v7,?_,rfl⟩ (λi σ H4 _ ⟨_,_,e4⟩=>by rw[e4];exact eh.of Nt) ?_ ?_⟩
    ·rw[pK,A6];rfl
    ·rintro i x σ H4 abm hx ⟨v7,rfl,rfl⟩;rw[a_]at abm hx;obtain⟨q,e,rfl⟩:=dk hx;obtain⟨y,PF,F2⟩:=b0 zR e;rw[<-yU]at abm PF;refine⟨_,rfl,_,rfl,_,rfl,_,rfl,q,l,ha,y,_,st.1,hol,rfl,F2,cv.of oI,cv.of (keep s4 _ _ hH),?_,by rw[Vw,G_.fD],?_⟩
     ·rw[G_.fD];exact Ny G FY (aG PF)
     ·rw[<-Ji abm PF];exact⟨_,rfl,rfl⟩
    ·rintro σ H4 ⟨v7,rfl,rfl⟩;rw[a_,<-yU,lG,qj];refine⟨_,rfl,_,rfl,ra,_,_,_,rfl,rfl,eh.of Ll,aN (j:=0) rfl,l,_,_,_,rfl,rfl,cv.of oI,aN (sn f8),_,rfl,_,_,rfl,rfl,?_⟩;refine⟨_,rfl,_,rfl,ra,_,_,_,rfl,rfl,eh.of Ll,aN (j:=0) rfl,l,_,_,_,rfl,rfl,cv.of oI,aN (sn f8),rfl,_,rfl,?_⟩;by_cases hc:st.1.getD r.lhs 0|||kG st.1 hol r.rhs 0=st.1.getD r.lhs 0
     ·have e1:nn hol st r=st:=if_pos hc;rw[e1];refine bZ ?_ ⟨_,_,_,rfl,oI,s4⟩;rw[hc];simp
     ·have e1:nn hol st r=(st.1.set r.lhs (st.1.getD r.lhs 0|||kG st.1 hol r.rhs 0),true):=if_neg hc;rw[e1];refine cF ?_ ?_
      ·rw[rh];exact mh λz=>hc (m9 z)
      ·refine⟨_,rfl,_,rfl,ra,_,_,_,rfl,rfl,eh.of Ll,aN (j:=0) rfl,l,_,_,_,rfl,rfl,cv.of oI,aN (sn f8),_,rfl,_,_,rfl,rfl,?_⟩;refine⟨_,rfl,_,rfl,ra,_,_,_,rfl,rfl,eh.of Ll,aN (j:=0) rfl,l,_,_,_,rfl,rfl,oI,xJ (by rw[fO];exact f8),?_⟩;refine⟨_,_,_,rfl,?_,cS s4 (by simp)⟩;rw[ai];exact congrArg (λz=>some (HO.be z)) (F0 _ _ _)
   ·rintro σ H3 ⟨v5,v6,v7,rfl,oI,s4⟩;rw[a_,<-dX,a8]at oI;rw[a_,<-dX,a8];have Jh:iG g.nons (gs g+1) (Kx g) ((G7 g).foldl (nn hol) (t,false)).1/\Bo (gs g+1) hol (G7 g) t ((G7 g).foldl (nn hol) (t,false)):=
     jU (P:= λpre st=>iG g.nons (gs g+1) (Kx g) st.1/\Bo (gs g+1) hol pre t st) (G7 g) [] (t,false) ⟨ok,Fc⟩
      λpre x st hx q=>⟨Ec (iH G (qQ G hx)) (wY hh hx) q.1,HQ (iH G (qQ G hx)) q.1 q.2⟩
    generalize (G7 g).foldl (nn hol) (t,false)=st at oI Jh ⊢;obtain⟨G_,q1,q2,q3⟩:=Jh;refine⟨if st.2=true then room (gs g+1) st.1+1 else 0,?_,st.1,st.2,v5,v6,v7,rfl,rfl,oI,keep s4,G_,λz=>?_⟩
    ·rw[if_pos rfl];cases hs:st.2 with|true=>rw[if_pos rfl];have:=q2 hs;omega|false=>rw[if_neg (by decide)];omega
    ·obtain⟨e1,e2⟩:=q1 z;rw[e1];exact e2
theorem PH{first:List Nat}{hol:List Bool}{st:Ag}{y:mq}:(m4 first hol st y).cM.length=st.cM.length:=by
 unfold m4;cases y with
 |range lo hi=>rfl|non k=>
  show(if _ then _ else _:Ag).cM.length=_;split
  ·rfl
  ·exact C4 ..
abbrev abn:dZ:=mm 23
inductive Tu(K:ak)(vs:List V)(H:Hp)(Q:VK)(E_:XK):Prop
 |mk (ra fo fi ho:ah) (r:eA) (cN first:List Nat) (hol:List Bool) (_:vs=[.ref ra,.ref fo,.ref fi,.ref ho]) (_:j1 H r ra) (_:H fo=some (.be (eS cN))) (_:H fi=some (.be (eS first))) (_:H ho=some (.be (hol.map V.bl))) (_:fi≠fo) (_:ho≠fo) (_:cN.length=first.length) (_:hol.length=first.length) (_:r.lhs<first.length) (_:(∀y∈r.rhs,Lp y first.length)) (_:∀H',H' fo=some (.be (eS (lu first hol cN r).cM))->aE (d6 [fo] H) H'->Q (.bl (lu first hol cN r).mG) H')
theorem YO:bU ["rule","follow","first","hollow","grown","tail","symbol"] ["rule","follow","first","hollow"] (a5 abn):=ml
theorem abo(F:lg K "follow_in_rule" "follow_in_rule" abn f fd)(T:Gm mg)(GA:jL P w K mg base "ahead_of" 2 ["symbol","tail","first","hollow"] (F1 K)):dQ P w K mg base ki 3 f fd ["rule","follow","first","hollow"] (Tu K):=by
 refine F.ok YO (λvs H Q E h=>?_) (λgl A bN s H vs Q E hr h=>?_)
 ·obtain⟨ra,fo,fi,ho,r,cN,first,hol,rfl,_⟩:=h;rfl
 ·obtain⟨ra,fo,fi,ho,r,cN,first,hol,rfl,hR,hO,hI,hH,n1,n2,l1,l2,f8,fit,k⟩:=h;have nd:=YO.nd;refine⟨_,am (g9 4 nd lD) (am (g9 5 nd (ft b_ (pv 1) (ft cw (pv 0) aR))) (am (fQ bi rfl (SG rfl T.xB (af (ft cw (pv 0) aR) aD)) (nr 6 nd) (am (dD (PW.pt (r_ (bY g8 (ft cw (pv 6) aR) (lQ T.nt rfl) (ck _)) (r9 (bY Iu (e7 Ci (ft b_ (pv 1) (ft cw (pv 6) aR)) (pv 5)) (ft b_ (pv 1) (ft cw (pv 6) aR)) (ck _))))) (am (BN (e7 Ci (ft b_ (pv 1) (ft cw (pv 6) aR)) (pv 5)) (BM (pv 1) (ft cw (pv 6) aR) ug)) (aJ (g9 4 nd lD))) b5) (aJ (g9 5 nd (cO GA hr (aB _) rfl (af (pv 6) (af (pv 5) (af (pv 2) (af (pv 3) aD))))))))) (aJ (bG (pv 4))))),?_⟩;have AW:∀c∈[fo],∀xs,H c≠some (.bV xs):= λc hc xs e=>by
   have:c=fo:=by simpa using hc
   rw[this,hO]at e;cases e
  have hRb:=hR.nt AW;obtain⟨tt,qs,ha,ht,hq⟩:=hRb;have bs:=ci [fo] H;have hIb:d6 [fo] H fi=some (.be (eS first)):=bo.mpr ⟨by simpa using n1,hI⟩;have hHb:d6 [fo] H ho=some (.be (hol.map V.bl)):=bo.mpr ⟨by simpa using n2,hH⟩;have yU:=a6 hq;refine⟨_,rfl,_,rfl,ra,_,_,_,rfl,rfl,eh.of (bs _ _ ha),aN (j:=0) rfl,fo,_,_,_,rfl,rfl,cv.of hO,aN (sn (by rw[l1];exact f8)),?_⟩;refine⟨_,rfl,ra,_,_,_,rfl,rfl,eh.of (bs _ _ ha),aN (j:=1) rfl,tt,_,rfl,eh.of (bs _ _ ht),Nc (K:=K) (a:=tt) (xs:=qs.map V.ref) (λi σ H3=>∃(v6:Option V)(st:Ag),st=(r.rhs.reverse.take i).foldl (m4 first hol) {cM:=cN,tail:=cN.getD r.lhs 0,mG:=false}/\st.cM.length=first.length/\σ=[some (.ref ra),some (.ref fo),some (.ref fi),some (.ref ho),some (.bl st.mG),some (nV st.tail),v6]/\H3 fo=some (.be (eS st.cM))/\aE (d6 [fo] H) H3) ⟨none,_,rfl,l1,rfl,hO,bs⟩ (λi σ H3 _ ⟨_,_,_,_,_,_,s4⟩=>eh.of (s4 _ _ ht)) ?_ ?_⟩
  ·rintro i x σ H3 hi hx ⟨v6,st,Aw,tG,rfl,oI,s4⟩;rw[a_]at hi hx;obtain⟨q,e,rfl⟩:=dk hx;obtain⟨y,hy,mW⟩:=b0 hq e;rw[<-yU]at hi hy;have hyr:r.rhs.reverse[i]? =some y:=by rw[List.getElem?_reverse hi];exact hy
   have hym:=aG hy;have fy:=fit y hym;have enx:(r.rhs.reverse.take (i+1)).foldl (m4 first hol) {cM:=cN,tail:=cN.getD r.lhs 0,mG:=false}=m4 first hol st y:=by rw[oT hyr,Aw]
   have xK:H3 q=some (.bV (v1 y)):=s4 _ _ mW;have oH:∀(fo':List Nat)(gr:Bool)(H4:Hp),m4 first hol st y={cM:=fo',tail:=ahead first hol y st.tail,mG:=gr}->H4 fo=some (.be (eS fo'))->aE (d6 [fo] H) H4->
    ∃(v6:Option V)(zJ:Ag),zJ=(r.rhs.reverse.take (i+1)).foldl (m4 first hol) {cM:=cN,tail:=cN.getD r.lhs 0,mG:=false}/\zJ.cM.length=first.length/\
     ([some (.ref ra),some (.ref fo),some (.ref fi),some (.ref ho),some (.bl gr),some (nV (ahead first hol y st.tail)),some (.ref q)]:List (Option V))=[some (.ref ra),some (.ref fo),some (.ref fi),some (.ref ho),some (.bl zJ.mG),some (nV zJ.tail),v6]/\H4 fo=some (.be (eS zJ.cM))/\aE (d6 [fo] H) H4:=by
    intro fo' gr H4 e1 e2 e3;refine⟨some (.ref q),m4 first hol st y,enx.symm,by rw[PH];exact tG,?_,?_,e3⟩
    ·rw[e1]
    ·rw[e1];exact e2
   cases y with
   |range lo hi=>refine⟨_,rfl,q,_,_,_,rfl,rfl,eh.of xK,aN (j:=0) rfl,rfl,_,rfl,bZ (mh (by decide)) (bZ rfl ?_)⟩;exact⟨_,rfl,_,rfl,_,rfl,_,rfl,q,fi,ho,_,st.tail,first,hol,rfl,xK,cv.of (s4 _ _ hIb),cv.of (s4 _ _ hHb),fy,l2,oH _ _ _ rfl oI s4⟩|non n=>
    have hn:=fy.lt n rfl;have hns:n<st.cM.length:=by rw[tG];exact hn
    refine⟨_,rfl,q,_,_,_,rfl,rfl,eh.of xK,aN (j:=0) rfl,rfl,_,rfl,cF (dV rfl) ?_⟩;refine⟨_,rfl,_,rfl,q,_,_,_,rfl,rfl,eh.of xK,aN (j:=1) rfl,fo,_,_,_,rfl,rfl,cv.of oI,aN (sn hns),_,rfl,_,_,rfl,rfl,?_⟩;refine⟨_,rfl,_,rfl,q,_,_,_,rfl,rfl,eh.of xK,aN (j:=1) rfl,fo,_,_,_,rfl,rfl,cv.of oI,aN (sn hns),rfl,_,rfl,?_⟩;by_cases hc:st.cM.getD n 0|||st.tail=st.cM.getD n 0
    ·have e1:m4 first hol st (.non n)={cM:=st.cM,tail:=ahead first hol (.non n) st.tail,mG:=st.mG}:=if_pos hc;refine bZ ?_ ?_
     ·rw[hc];simp
     ·exact⟨_,rfl,_,rfl,_,rfl,_,rfl,q,fi,ho,_,st.tail,first,hol,rfl,xK,cv.of (s4 _ _ hIb),cv.of (s4 _ _ hHb),fy,l2,oH _ _ _ e1 oI s4⟩
    ·have e1:m4 first hol st (.non n)={cM:=st.cM.set n (st.cM.getD n 0|||st.tail),tail:=ahead first hol (.non n) st.tail,mG:=true}:=if_neg hc;refine cF ?_ ?_
     ·rw[rh];exact mh λz=>hc (m9 z)
     ·refine⟨_,rfl,_,rfl,q,_,_,_,rfl,rfl,eh.of xK,aN (j:=1) rfl,fo,_,_,_,rfl,rfl,cv.of oI,aN (sn hns),_,rfl,_,_,rfl,rfl,?_⟩;refine⟨_,rfl,_,rfl,q,_,_,_,rfl,rfl,eh.of xK,aN (j:=1) rfl,fo,_,_,_,rfl,rfl,oI,xJ (by rw[fO];exact hns),?_⟩;rw[F0];have s5:aE (d6 [fo] H) (aP H3 fo (.be (eS (st.cM.set n (st.cM.getD n 0|||st.tail))))):=cS s4 (by simp);exact⟨_,rfl,_,rfl,_,rfl,_,rfl,q,fi,ho,_,st.tail,first,hol,rfl,s5 _ _ mW,cv.of (s5 _ _ hIb),cv.of (s5 _ _ hHb),fy,l2,oH _ _ _ e1 ai s5⟩
  ·rintro σ H3 ⟨v6,st,Aw,tG,rfl,oI,s4⟩;rw[a_,<-yU,e8 (by simp)]at Aw;have alN:st=lu first hol cN r:=Aw;subst alN;exact⟨_,rfl,k H3 oI s4⟩
theorem Jj{first:List Nat}{hol:List Bool}{x:Nat}(h:Bc cN c x):Bc (lu first hol cN r).cM c x:=by
 unfold lu;have key:∀(l:List mq)(st:Ag),Bc st.cM c x->Bc (l.foldl (m4 first hol) st).cM c x:=by
  intro l;induction l with
  |nil=>intro st h;exact h|cons y l ih=>
   intro st h;rw[dm];refine ih _ ?_;cases y with
   |range lo hi=>exact h|non k=>
    show Bc (if st.cM.getD k 0|||st.tail=st.cM.getD k 0 then _ else _:Ag).cM c x;split
    ·exact h
    ·show((st.cM.set k _).getD x 0).testBit c=true;rw[tV];split
     ·rename_i e;rw[qD,e.1];have h':(st.cM.getD x 0).testBit c=true:=h;rw[h',aei]
     ·exact h
 exact key _ _ h
abbrev Tv:dZ:=mm 24
abbrev abp:List bT:=["table","productive","reachable","useful","hollow","first","follow","changed","rule"]
inductive YQ(C:ah)(vs:List V)(H:Hp)(Q:VK)(E_:XK):Prop
 |mk (a:ah) (g:aL) (ls lm lw:ah) (_:vs=[.ref a]) (_:Good g) (_:jo C H g a ls lm lw) (_:∀(H':Hp)(q:ah)(cN:List Nat),aE H H'->H q=none->H' q=some (.be (eS cN))->lC g cN->Q (.ref q) H')
theorem YR:bU abp ["table"] (a5 Tv):=ml
theorem Tw(l:List α)(p:α->Bool):l.map (λr=>V.bl (p r))=(l.map p).map V.bl:=by rw[bS];rfl
theorem W7(n:Nat):(1:Int)*2^((n:Int)).toNat=((2^n:Nat):Int):=by
 have e:((n:Int)).toNat=n:=by omega
 rw[e,QF];simp
theorem abq(F:lg K "follow_sets" "follow_sets" Tv f fd)(T:Gm mg)(TT:AX K C)(GP:jL P w K mg base "productive_rules" 3 ["table"] (Tn C))(GR:jL P w K mg base "reachable_nonterminals" 1 ["productive"] Nv)(GC:jL P w K mg base "nonterminals_covering" 2 ["table","with_ranges"] (wb C))(GF:jL P w K mg base "first_sets" 3 ["table","productive","hollow"] (Nz C K))(GE:jL P w K mg base "end_column" 1 ["table"] (Nq C))(GI:jL P w K mg base "follow_in_rule" 3 ["rule","follow","first","hollow"] (Tu K)):dQ P w K mg base ki 4 f fd ["table"] (YQ C):=by
 refine F.ok YR (λvs H Q E h=>?_) (λgl A bN s H vs Q E hr h=>?_)
 ·obtain⟨a,g,ls,lm,lw,rfl,_⟩:=h;rfl
 ·obtain⟨a,g,ls,lm,lw,rfl,G,hT,k⟩:=h;have nd:=YR.nd;have hu:=m5 hr;refine⟨_,am (g9 1 nd (cO GP hr (aB _) rfl (af (pv 0) aD))) (am (vS (i:=2) nd rfl (by first|exact l8 rfl|exact mU rfl|exact mU (l8 rfl)) (cO GR hr (by decide) rfl (af (pv 1) aD))) (am (xl (i:=3) (own:=[("rule",8)]) rfl nd rfl rfl rfl (fA (pv 1)) (gi (N:=abp) (sc:=a5 Tv) (by decide+kernel)) (λ_ _ _ _ _=>nr 8 nd) (λ_ _ _ _ _=>se (Fx (Sx hu (ft (xH (K:=K) rfl) (pv 8) aR) (pv 2)))) (λ_ _ _ _ _=>pv 8)) (am (g9 4 nd (cO GC hr (by decide) rfl (af (pv 0) (af lD aD)))) (am (g9 5 nd (cO GF hr (aB _) rfl (af (pv 0) (af (pv 1) (af (pv 4) aD))))) (am (g9 6 nd (e7 FI (cV (af aR aD)) (cE (pv 0) rfl))) (am (dD (lN (cg (Sq rfl) rfl T.any (by decide+kernel) (af (qb (own:=[("rule",8)]) rfl nd (fA (pv 3)) (gi (N:=abp) (sc:=a5 Tv) (by decide+kernel)) (λ_ _ _ _ _=>nr 8 nd) (λ_ _ _ _ _=>mP) (λ_ _ _ _ _=>xb g8 (ft (xH (K:=K) rfl) (pv 8) aR) aR (ck _))) aD))) (aJ (BN (e7 KS aR (cO GE hr (by decide) rfl (af (pv 0) aD))) (BM (pv 6) aR ug))) b5) (am (g9 7 nd lD) (am (mN bi (lN (pv 7)) (am (g9 7 nd lD) (aJ (fQ bi rfl (fA (pv 3)) (nr 8 nd) (aJ (dD (lN (cO GI hr (aB _) rfl (af (pv 8) (af (pv 6) (af (pv 5) (af (pv 4) aD)))))) (aJ (g9 7 nd lD)) b5)))))) (aJ (bG (pv 6))))))))))),?_⟩;refine⟨_,rfl,a,g,ls,lm,lw,rfl,G,hT,λH1 pa as1 s1 PB hpa hR1=>?_⟩;refine⟨_,rfl,pa,G7 g,as1,g.nons,rfl,hpa,hR1,G.pos,G.tJ,λr hr b hb=>(iH G (qQ G hr)).Oh b hb,λH2 d rk s2 hd0 hd hrk=>?_⟩;have sh:=a6 hR1;refine⟨_,rfl,pa,rfl,⟨_,cv.of (s2 _ _ hpa)⟩,λD hD=>?_⟩;refine nE (K:=K) (a:=pa) (xs:=as1.map V.ref) (λi H3=>aE H2 H3/\∃ps:List ah,H3 D=some (.be (ps.map V.ref))/\eY H3 (((G7 g).take i).filter (λr=>decide (r.lhs∈rk))) ps) ⟨aE.aP hD,[],ai,.nil⟩ (λi H3 _ ⟨s4,_⟩=>cv.of (s4 _ _ (s2 _ _ hpa))) ?_ ?_
  ·rintro i x H3 hi ⟨s4,ps,li,wy⟩;obtain⟨ra,e,rfl⟩:=dk hi;obtain⟨r,hy,mW⟩:=b0 hR1 e;have xK:=mW.keeps (s2.trans s4);have wx:ps.length<=60:=by rw[<-a6 wy];refine aW (cp _ _) ?_;rw[a4];refine aW (iy _ _) ?_;rw[aq];exact aW (cp _ _) G.fD
   have DB:=xK;obtain⟨tt,qs,Ll,Nt,zR⟩:=DB;refine⟨rfl,_,rfl,ra,_,_,_,rfl,rfl,eh.of Ll,aN (j:=0) rfl,_,rfl,d,_,rfl,lx.k (k:=bJ (r.lhs:Int)) (s4 _ _ hd),_,rfl,?_⟩;have Aw:=qe (p:= λr=>decide (r.lhs∈rk)) hy;rw[Aw,FZ];by_cases hc:r.lhs∈rk
   ·rw[if_pos hc,if_pos (decide_eq_true hc)];refine cF rfl ⟨_,rfl,_,li,by rw[a_];exact d8 wx (by decide),λc o ec=>?_,ps++[ra],?_,?_⟩
    ·rw[aF (aH ec hD)];exact s4 _ _ ec
    ·rw[ai,aK];rfl
    ·have AW:∀c∈[D],∀xs,H3 c≠some (.bV xs):= λc hcm xs ex=>by
      have:c=D:=by simpa using hcm
      rw[this,li]at ex;cases ex
     have sb:aE (d6 [D] H3) (aP H3 D (.be (ps.map V.ref++[V.ref ra]))):=cS (ci _ _) (by simp);exact cJ ((eY.nt AW wy).keeps sb) ((j1.nt AW xK).keeps sb)
   ·rw[if_neg hc,if_neg (c:=decide (r.lhs∈rk)=true) (by simpa using hc),cz];exact bZ rfl ⟨s4,ps,li,wy⟩
  ·rintro H3 ⟨s3,us,hU,hRU⟩;rw[a_,<-sh,a8,Dj G (p:= λa=>decide (a∈rk)) λx=>by rw[decide_eq_true_iff,hrk,OE]]at hRU;have hHD:H2 D=none:=hD;have s03:aE H H3:=(s1.trans s2).trans s3;refine⟨_,rfl,a,g,ls,lm,lw,false,rfl,G,hT.keeps s03,λH4 ho hol s4 hh0 hho Vw Tx=>?_⟩;refine⟨_,rfl,_,rfl,_,rfl,a,pa,ho,g,ls,lm,lw,as1,hol,rfl,G,hT.keeps (s03.trans s4),s4 _ _ (s3 _ _ (s2 _ _ hpa)),hR1.keeps ((s2.trans s3).trans s4),hho,Vw,Tx,λH5 fi first s5 hf0 YS okF W8=>?_⟩;have s05:aE H H5:=(s03.trans s4).trans s5;obtain⟨dx,lr,lc,lo,as0,cs,h1,h2,h3,h4,h5,h6⟩:=hT.keeps s05;refine⟨(by show 1<=al;decide),λl0 Av=>?_⟩;have t0:aE H5 (aP H5 l0 (.be [.int 0])):=aE.aP Av;have Cf:=G.tJ;refine⟨_,rfl,a,C,dx,_,_,rfl,t0 _ _ h1,TT.cl,TT.non,FU,l0,_,_,rfl,rfl,ai,by omega,by omega,?_,λl hl=>?_⟩
   ·show 1*((g.nons:Int)).toNat<=al;have:al=16777216:=bR;omega
   have e0:((g.nons:Int)).toNat=g.nons:=by omega
   rw[e0,xI];have s6:aE H5 (aP (aP H5 l0 (.be [.int 0])) l (.be (bz g.nons (.int 0)))):=aE.kj t0 hl;have FX:H5 l=none:=t0.free hl;generalize hH6:aP (aP H5 l0 (.be [.int 0])) l (.be (bz g.nons (.int 0)))=H6 at s6 ⊢;have Vx:H6 l=some (.be (eS (bz g.nons 0))):=by rw[<-hH6,ai];unfold eS;rw[yk];rfl
   clear hH6;have hU5:H5 D=some (.be (us.map V.ref)):=s5 _ _ (s4 _ _ hU);have afW:eY H5 (Dk g) us:=hRU.keeps (s4.trans s5);have Tz:=a6 hRU;refine⟨_,rfl,D,rfl,⟨_,cv.of (s6 _ _ hU5)⟩,λE1 hE1=>?_⟩;refine nE (K:=K) (a:=D) (xs:=us.map V.ref) (λi H7=>aE H6 H7/\H7 E1=some (.be (((Dk g).take i).map λr=>V.bl (decide (r.lhs=0))))) ⟨aE.aP hE1,ai⟩ (λi H7 _ ⟨s7,_⟩=>cv.of (s7 _ _ (s6 _ _ hU5))) ?_ ?_
   ·rintro i x H7 hi ⟨s7,Lr⟩;obtain⟨ra,e,rfl⟩:=dk hi;obtain⟨r,hy,tt,qs,Ll,Nt,zR⟩:=b0 afW e;refine⟨rfl,_,rfl,ra,_,_,_,rfl,rfl,eh.of (s7 _ _ (s6 _ _ Ll)),aN (j:=0) rfl,rfl,_,Lr,?_,λc o ec=>?_,?_⟩
    ·rw[aq,a4];refine d8 (iy _ _) ?_;rw[aq];refine d8 (aW (cp _ _) (aW (cp _ _) G.fD)) (by decide)
    ·rw[aF (aH ec hE1)];exact s7 _ _ ec
    ·rw[ai,bQ,hy];simp only[l9,aK,aS,i3];have e1:decide (nV r.lhs=V.int 0)=decide (r.lhs=0):=by
      by_cases z:r.lhs=0
      ·rw[z];rfl
      ·rw[decide_eq_false z];exact mh (by omega)
     rw[<-e1]
   ·rintro H7 ⟨s7,Lr⟩;rw[a_,<-Tz,a8]at Lr;refine⟨E1,(Dk g).map (λr=>decide (r.lhs=0)),rfl,cv.of (by rw[Lr,Tw]),_,rfl,?_⟩;have afY:(((Dk g).map (λr=>decide (r.lhs=0))).any id=true)↔0∈fu g:=by
     rw[<-Fk G,n6];constructor
     ·rintro⟨b,hb,e⟩;obtain⟨r,hr,rfl⟩:=aQ.mp hb;exact⟨r,hr,of_decide_eq_true e⟩
     ·rintro⟨r,hr,e⟩;exact⟨_,aQ.mpr ⟨r,hr,rfl⟩,decide_eq_true e⟩
    generalize ((Dk g).map (λr=>decide (r.lhs=0))).any id=an at afY ⊢;obtain⟨ok0,in0⟩:=V6 G afY;have hL7:=s7 _ _ Vx;have dB:∀H8:Hp,H8 l=some (.be (eS (RI g an)))->aE (d6 [l] H7) H8->∀v8:Option V,OV (KL (tC (.bl true)) (ow 7)) (OV (RW (tB (rY 7)) (OV (KL (tC (.bl false)) (ow 7)) (aan (RY K (rY 3)) (ow 8) (aeM (tB (Se (Tu K) [] E0 (xg (rY 8) (xg (rY 6) (xg (rY 5) (xg (rY 4) Du)))))) (KL (tC (.bl true)) (ow 7)) Yq)))) (aeL (rY 6))) {nx:= λ_ H'=>Q .non H',rt:=Q}
     [some (.ref a),some (.ref pa),some (.ref d),some (.ref D),some (.ref ho),some (.ref fi),some (.ref l),none,v8] H8:=by
     intro H8 hL8 s8 v8;have keep:∀{H9:Hp},aE (d6 [l] H7) H9->aE H5 H9:= λz=>uv FX (s6.trans s7) z;have ffo:fi≠l:=aH YS FX;have hfo:ho≠l:=aH (s5 _ _ hho) FX;have hUl:D≠l:=aH hU5 FX;refine⟨λm σ H'=>∃(t:List Nat)(ch:Bool)(v8:Option V),m=(if ch=true then room (gs g+1) t+1 else 0)/\σ=[some (.ref a),some (.ref pa),some (.ref d),some (.ref D),some (.ref ho),some (.ref fi),some (.ref l),some (.bl ch),v8]/\H' l=some (.be (eS t))/\aE (d6 [l] H7) H'/\iG g.nons (gs g+1) (ou g) t/\(0∈fu g->Bc t (gs g) 0)/\(ch=false->∀r∈Dk g,∀c B,iY (Ho hol) (Bc first c) (Bc t c r.lhs) B (r.rhs.map (dN (jJ c)))->Bc t c B),⟨_,RI g an,true,v8,rfl,rfl,hL8,s8,ok0,in0,λz=>by cases z⟩,?_⟩;rintro m σ H' ⟨t,ch,v8,rfl,rfl,hL',s9,ok,Fn,rst⟩;refine⟨_,rfl,_,rfl,?_⟩;cases ch with
     |false=>refine bZ rfl ⟨_,rfl,?_⟩;exact k H' l t (s05.trans (keep s9)) (s05.free FX) hL' (Ky G Tx W8 ok Fn (rst rfl))|true=>
      refine cF rfl ⟨_,λ_ _ z=>z,?_⟩;have hUb:d6 [l] H7 D=some (.be (us.map V.ref)):=bo.mpr ⟨by simpa using hUl,s7 _ _ (s6 _ _ hU5)⟩;have alT:d6 [l] H7 fi=some (.be (eS first)):=bo.mpr ⟨by simpa using ffo,s7 _ _ (s6 _ _ YS)⟩;have alU:d6 [l] H7 ho=some (.be (hol.map V.bl)):=bo.mpr ⟨by simpa using hfo,s7 _ _ (s6 _ _ (s5 _ _ hho))⟩;refine⟨_,rfl,D,rfl,⟨_,cv.of (s9 _ _ hUb)⟩,ig (K:=K) (a:=D) (xs:=us.map V.ref) (λi σ H3=>∃v8:Option V,σ=[some (.ref a),some (.ref pa),some (.ref d),some (.ref D),some (.ref ho),some (.ref fi),some (.ref l),some (.bl (((Dk g).take i).foldl (n_ first hol) (t,false)).2),v8]/\H3 l=some (.be (eS (((Dk g).take i).foldl (n_ first hol) (t,false)).1))/\aE (d6 [l] H7) H3) ⟨v8,rfl,hL',s9⟩ (λi σ H3 _ ⟨_,_,_,s4⟩=>cv.of (s4 _ _ hUb)) ?_ ?_⟩
      ·rintro i x σ H9 hi ⟨v8,rfl,TC,J_⟩;obtain⟨ra,e,rfl⟩:=dk hi;obtain⟨r,hy,mW⟩:=b0 afW e;have FY:=rR G (aG hy);have RC:=iH G FY;have G_:iG g.nons (gs g+1) (ou g) (((Dk g).take i).foldl (n_ first hol) (t,false)).1:=
        jU (P:= λ_ st=>iG g.nons (gs g+1) (ou g) st.1) ((Dk g).take i) [] (t,false) ok λpre x st hx q=>Ed (iH G (rR G (eX hx))) okF.lt (qu Tx W8 (eX hx)) q
       rw[oT hy];generalize ((Dk g).take i).foldl (n_ first hol) (t,false)=st at TC G_ ⊢;have Aw:n_ first hol st r=((lu first hol st.1 r).cM,st.2||(lu first hol st.1 r).mG):=rfl;rw[Aw];refine⟨_,rfl,_,rfl,_,rfl,_,rfl,ra,l,fi,ho,r,st.1,first,hol,rfl,mW.keeps (keep J_),TC,J_ _ _ alT,J_ _ _ alU,ffo,hfo,by rw[G_.fD,okF.fD],by rw[Vw,okF.fD],by rw[okF.fD];exact RC.lhs,λy hy=>by rw[okF.fD];exact Ny G FY hy,λYB TD s11=>⟨_,rfl,?_⟩⟩;have Vy:aE (d6 [l] H7) YB:= λc o ec=>s11 c o (bo.mpr ⟨(bo.mp ec).1,J_ c o ec⟩);cases hg:(lu first hol st.1 r).mG with|true=>rw[Bool.or_true];exact cF rfl ⟨_,rfl,TD,Vy⟩|false=>rw[ac1];exact bZ rfl ⟨_,rfl,TD,Vy⟩
      ·rintro σ H9 ⟨v8,rfl,TC,J_⟩;rw[a_,<-Tz,a8]at TC;rw[a_,<-Tz,a8];have Jh:(iG g.nons (gs g+1) (ou g) ((Dk g).foldl (n_ first hol) (t,false)).1/\Bq (gs g+1) first hol (Dk g) t ((Dk g).foldl (n_ first hol) (t,false)))/\∀c x,Bc t c x->Bc ((Dk g).foldl (n_ first hol) (t,false)).1 c x:=
        jU (P:= λpre st=>(iG g.nons (gs g+1) (ou g) st.1/\Bq (gs g+1) first hol pre t st)/\∀c x,Bc t c x->Bc st.1 c x) (Dk g) [] (t,false) ⟨⟨ok,Fd⟩,λ_ _ z=>z⟩
         λpre x st hx q=>⟨⟨Ed (iH G (rR G hx)) okF.lt (qu Tx W8 hx) q.1.1,HR (iH G (rR G hx)) okF.lt q.1.1 (qu Tx W8 hx) q.1.2⟩,λc y z=>Jj (q.2 c y z)⟩
       generalize (Dk g).foldl (n_ first hol) (t,false)=st at TC Jh ⊢;obtain⟨⟨G_,q1,q2,q3⟩,kg⟩:=Jh;refine⟨if st.2=true then room (gs g+1) st.1+1 else 0,?_,st.1,st.2,v8,rfl,rfl,TC,J_,G_,λz=>kg _ _ (Fn z),λz=>?_⟩
       ·rw[if_pos rfl];cases hs:st.2 with|true=>rw[if_pos rfl];have:=q2 hs;omega|false=>rw[if_neg (by decide)];omega
       ·obtain⟨e1,e2⟩:=q1 z;rw[e1];exact e2
    cases an with
    |false=>exact bZ rfl (dB H7 hL7 (ci _ _) none)|true=>
     refine cF rfl ⟨_,rfl,a,g,ls,lm,lw,rfl,hT.keeps ((s05.trans s6).trans s7),_,_,rfl,rfl,⟨by omega,?_,by decide⟩,_,rfl,l,_,_,_,rfl,rfl,hL7,xJ (j:=0) (by have:=G.pos;rw[fO];simp;omega),?_⟩
     ·have:=(eO G).2;unfold gs;omega
     ·refine dB _ ?_ (cS (ci _ _) (by simp)) none;rw[ai];show some (HO.be ((eS (bz g.nons 0)).set 0 (V.int ((1:Int)*2^((gs g:Int)).toNat))))=_;rw[W7];exact congrArg (λz=>some (HO.be z)) (F0 _ _ _)
def zD(ks:List Nat)(f:Nat->Int):List (fE×V):=ks.map λ(k:Nat)=>((bJ (k:Int):fE),V.int (f k))
theorem nF{a:Nat}(h:(bJ (a:Int):fE)=bJ (b:Int)):a=b:=m9 (z9 h)
theorem wc(ks:List Nat)(f:Nat->Int)(b:Nat):iV (zD ks f) (bJ (b:Int))=if b∈ks then some (V.int (f b))else none:=by
 induction ks with
 |nil=>rfl|cons a ks ih=>
  show iV ((bJ (a:Int),V.int (f a))::zD ks f) _=_;by_cases e:a=b
  ·subst e;rw[nR rfl,if_pos (aC ..)]
  ·rw[nS (λz=>e (nF z)),ih];by_cases h:b∈ks
   ·rw[if_pos h,if_pos (az _ h)]
   ·rw[if_neg h,if_neg λz=>by
     rcases aU.mp z with q|q
     ·exact e q.symm
     ·exact h q]
theorem Cj{f f':Nat->Int}(h:∀k∈ks,f k=f' k):zD ks f=zD ks f':=cZ λk hk=>by rw[h k hk]
theorem Ls(ks:List Nat)(f:Nat->Int)(b:Nat)(v:Int):kJ (zD ks f) (bJ (b:Int)) (V.int v)=zD (putIn ks b) (λk=>if k=b then v else f k):=by
 unfold Mt.putIn;by_cases h:b∈ks
 ·rw[if_pos h];unfold kJ;rw[ul,wc,if_pos h];show(if true=true then _ else _)=_;rw[if_pos rfl];unfold zD;rw[bS];refine cZ λk _=>?_;show(if(bJ (k:Int):fE)=bJ (b:Int)then _ else _)=((bJ (k:Int):fE),V.int (if k=b then v else f k));by_cases e:k=b
  ·subst e;rw[if_pos rfl,if_pos rfl]
  ·rw[if_neg λz=>e (nF z),if_neg e]
 ·rw[if_neg h,nU _ (by rw[wc,if_neg h])];have e1:zD ks f=zD ks (λk=>if k=b then v else f k):=Cj λk hk=>by rw[if_neg λe=>h (by rw[<-e];exact hk)]
  rw[e1];unfold zD;rw[aK];simp
theorem F3(ks:List Nat)(f:Nat->Int):(zD ks f).length=ks.length:=aq _
def alV(H:Hp)(p:Nat×Nat)(q:ah):Prop:=uq H (.range p.1 p.2) q
def xL(H:Hp)(rs:List (Nat×Nat))(qs:List ah):Prop:=Paired (alV H) rs qs
theorem xL.keeps(s:aE H H')(h:xL H rs qs):xL H' rs qs:=Paired.gJ h λ_ _ z=>s _ _ z
theorem xL.nt(hS:∀b∈S,∀xs,H b≠some (.bV xs))(h:xL H rs qs):xL (d6 S H) rs qs:=Paired.gJ h λ_ _ z=>bo.mpr ⟨λm=>hS _ m _ z,z⟩
def zS:mq->Option (Nat×Nat)
 | .range lo hi=>some (lo,hi)| .non _=>none
theorem zT(g:aL):br g=g.rules.flatMap λr=>r.rhs.filterMap zS:=by unfold br;congr 1
theorem zU{rs:List eA}(h:∀r∈rs,r.rhs.length<=8):(rs.flatMap λr=>r.rhs.filterMap zS).length<=8*rs.length:=by
 induction rs with
 |nil=>simp|cons r rs ih=>rw[Ad,aw,aZ];have h1:=ih λq hq=>h q (az _ hq);have h2:(r.rhs.filterMap zS).length<=8:=aW (bL _ _) (h r (aC ..));omega
theorem d7{l:ah}{xs:List V}(h:H l=some (.be xs)):∀b∈[l],∀ys,H b≠some (.bV ys):= λc hc ys e=>by
 have:c=l:=by simpa using hc
 rw[this,h]at e;cases e
theorem ph{p:α->Option β}{l:List α}{x:α}(h:l[i]? =some x):(l.take (i+1)).filterMap p=(l.take i).filterMap p++(p x).toList:=by rw[bQ,h,gw];congr 1
abbrev AY:dZ:=mm 26
inductive Jk(vs:List V)(H:Hp)(Q:VK)(E_:XK):Prop
 |mk (a:ah) (g:aL) (as:List ah) (_:vs=[.ref a]) (_:Good g) (_:H a=some (.be (as.map V.ref))) (_:eY H g.rules as) (_:∀(H':Hp)(q:ah)(qs:List ah),aE H H'->H q=none->H' q=some (.be (qs.map V.ref))->xL H' (br g) qs->Q (.ref q) H')
theorem Jl:bU ["rules","ranges","rule","symbol"] ["rules"] (a5 AY):=ml
theorem PJ(F:lg K "ranges_of" "ranges_of" AY f fd)(T:Gm mg):dQ P w K mg base ki 1 f fd ["rules"] Jk:=by
 refine F.ok Jl (λvs H Q E h=>?_) (λgl A bN s H vs Q E hr h=>?_)
 ·obtain⟨a,g,as,rfl,_⟩:=h;rfl
 ·obtain⟨a,g,as,rfl,G,hA,hR,k⟩:=h;have nd:=Jl.nd;have dX:=a6 hR;refine⟨_,am (g9 1 nd (cV aD)) (am (fQ bi rfl (fA (pv 0)) (nr 2 nd) (aJ (fz (i_ bf j7 qI Ev (pv 1) (af (qb (own:=[("symbol",3)]) rfl nd (yG (ft cw (pv 2) aR)) (gi (N:=["rules","ranges","rule","symbol"]) (sc:=a5 AY) (by decide+kernel)) (λ_ _ _ _ _=>nr 3 nd) (λ_ _ _ _ _=>se (bY g8 (ft (xH (K:=K) rfl) (pv 3) aR) (lQ T.rg rfl) (ck _))) (λ_ _ _ _ _=>pv 3)) aD))))) (aJ (bG (pv 1)))),?_⟩;refine⟨bj _,λl hl=>?_⟩;refine⟨_,rfl,a,rfl,⟨_,cv.of (aE.aP hl _ _ hA)⟩,ig (K:=K) (a:=a) (xs:=as.map V.ref) (λi σ H'=>∃(v:Option V)(qs:List ah),σ=[some (.ref a),some (.ref l),v,none]/\H' l=some (.be (qs.map V.ref))/\xL H' ((g.rules.take i).flatMap λr=>r.rhs.filterMap zS) qs/\aE H H') ⟨none,[],rfl,ai,.nil,aE.aP hl⟩ (λi σ H' _ ⟨_,_,_,_,_,s2⟩=>cv.of (s2 _ _ hA)) ?_ ?_⟩
  ·rintro i x σ H' hi ⟨v,qs,rfl,hL,hq,s2⟩;obtain⟨ra,e,rfl⟩:=dk hi;obtain⟨r,hy,mW⟩:=b0 hR e;have FY:=aG hy;obtain⟨tt,sq,ha,ht,hs⟩:=mW.keeps s2;have tG:=a6 hs;have h8:=(G.rule r FY).fD;refine⟨_,rfl,.inl ⟨rfl,_,cv.of hL⟩,_,rfl,ra,_,_,_,rfl,rfl,eh.of ha,aN (j:=1) rfl,tt,rfl,⟨_,eh.of ht⟩,λD hD=>?_⟩;refine FM (K:=K) (a:=tt) (xs:=sq.map V.ref) (λi H3=>aE H' H3/\∃ps:List ah,H3 D=some (.be (ps.map V.ref))/\xL H3 ((r.rhs.take i).filterMap zS) ps) ⟨aE.aP hD,[],ai,.nil⟩ (λi H3 _ ⟨s4,_⟩=>eh.of (s4 _ _ ht)) ?_ ?_
   ·rintro i x H3 hi ⟨s3,ps,li,wy⟩;obtain⟨q,e,rfl⟩:=dk hi;obtain⟨y,PF,F2⟩:=b0 hs e;have hy3:H3 q=some (.bV (v1 y)):=s3 _ _ F2;rw[ph PF];cases y with
    |non n=>refine⟨rfl,_,rfl,q,_,_,_,rfl,rfl,eh.of hy3,aN (j:=0) rfl,rfl,_,rfl,bZ (mh (by decide)) ⟨s3,ps,li,?_⟩⟩;show xL H3 (_++[]) ps;rw[cz];exact wy|range lo hi=>
     have wx:ps.length<=8:=by rw[<-a6 wy];refine aW (bL _ _) ?_;rw[a4];exact aW (iy _ _) h8
     refine⟨rfl,_,rfl,q,_,_,_,rfl,rfl,eh.of hy3,aN (j:=0) rfl,rfl,_,rfl,cF (dV rfl) ⟨_,rfl,_,li,by rw[a_];exact d8 wx (by decide),λc o ec=>?_,ps++[q],?_,?_⟩⟩
     ·rw[aF (aH ec hD)];exact s3 _ _ ec
     ·rw[ai,aK];rfl
     ·have sb:aE (d6 [D] H3) (aP H3 D (.be (ps.map V.ref++[V.ref q]))):=cS (ci _ _) (by simp);exact cJ ((xL.nt (d7 li) wy).keeps sb) (sb _ _ (bo.mpr ⟨λm=>d7 li _ m _ hy3,hy3⟩))
   ·rintro H3 ⟨s3,ps,li,wy⟩;rw[a_,<-tG,a8]at wy;have hlq:qs.length<=480:=by rw[<-a6 hq];refine aW (zU λr hr=>(G.rule r (eX hr)).fD) ?_;rw[a4];have:=G.fD;omega
    have hlp:ps.length<=8:=by rw[<-a6 wy];exact aW (bL _ _) h8
    have oI:=s3 _ _ hL;have hsz:al=16777216:=bR;refine⟨l,D,_,_,rfl,rfl,oI,li,by rw[a_,a_];omega,?_⟩;refine⟨_,qs++ps,rfl,?_,?_,λc o ec=>?_⟩
    ·rw[ai,aK]
    ·have Aw:(g.rules.take (i+1)).flatMap (λr=>r.rhs.filterMap zS)=(g.rules.take i).flatMap (λr=>r.rhs.filterMap zS)++r.rhs.filterMap zS:=by rw[bQ,hy,pp];simp
     rw[Aw];have sb:aE (d6 [l] H3) (aP H3 l (.be (qs.map V.ref++ps.map V.ref))):=cS (ci _ _) (by simp);exact pc ((xL.nt (d7 oI) (hq.keeps s3)).keeps sb) ((xL.nt (d7 oI) wy).keeps sb)
    ·rw[aF (aH ec hl)];exact s3 _ _ (s2 _ _ ec)
  ·rintro σ H' ⟨v,qs,rfl,hL,hq,s2⟩;rw[a_,<-dX,a8,<-zT]at hq;exact⟨_,rfl,k H' l qs s2 hl hL hq⟩
abbrev abu:dZ:=mm 27
def nX(rs:List (Nat×Nat)):List Nat:=rs.foldl (λl p=>putIn (putIn l p.1) (p.2+1)) []
inductive YT(vs:List V)(H:Hp)(Q:VK)(E_:XK):Prop
 |mk (a:ah) (rs:List (Nat×Nat)) (qs:List ah) (_:vs=[.ref a]) (_:H a=some (.be (qs.map V.ref))) (_:xL H rs qs) (_:rs.length<=480) (_:(∀p∈rs,p.1<=p.2)) (_:∀(H':Hp)(q:ah),aE H H'->H q=none->H' q=some (.dK (zD (nX rs) (Dg rs)))->Q (.ref q) H')
theorem YU:bU ["ranges","changes","symbol","begin","behind"] ["ranges"] (a5 abu):=ml
theorem Lu(rs:List (Nat×Nat))(p:Nat×Nat):nX (rs++[p])=putIn (putIn (nX rs) p.1) (p.2+1):=by unfold nX;rw[rc];rfl
theorem uU:k∈nX rs↔∃p∈rs,k=p.1\/k=p.2+1:=by
 have:=jU (P:= λpre l=>∀k,k∈l↔∃p∈pre,k=p.1\/k=p.2+1) (f:= λ(l:List Nat) (p:Nat×Nat)=>putIn (putIn l p.1) (p.2+1)) rs [] [] (by simp) λpre p l _ h k=>by
  rw[uM,uM,h];constructor
  ·rintro((⟨q,hq,e⟩|e)|e)
   ·exact⟨q,dj _ hq,e⟩
   ·exact⟨p,by simp,.inl e⟩
   ·exact⟨p,by simp,.inr e⟩
  ·rintro⟨q,hq,e⟩;rcases bC.mp hq with m|m
   ·exact .inl (.inl ⟨q,m,e⟩)
   ·have:q=p:=by simpa using m
    subst this;rcases e with e|e
    ·exact .inl (.inr e)
    ·exact .inr e
 exact this k
theorem TF(rs:List (Nat×Nat)):(nX rs).Nodup:=jU (P:= λ_ l=>List.Nodup l) (f:= λ(l:List Nat) (p:Nat×Nat)=>putIn (putIn l p.1) (p.2+1)) rs [] [] jr λ_ _ _ _ h=>Bu (Bu h)
theorem uV(l:List Nat)(c:Nat):(putIn l c).length<=l.length+1:=by
 unfold Mt.putIn;split
 ·omega
 ·simp
theorem PL:∀(rs:List (Nat×Nat)),(nX rs).length<=2*rs.length:=by
 intro rs;have:=jU (P:= λpre (l:List Nat)=>l.length<=2*pre.length) (f:= λ(l:List Nat) (p:Nat×Nat)=>putIn (putIn l p.1) (p.2+1)) rs [] [] (by simp) λpre p l _ h=>by have h1:=uV (putIn l p.1) (p.2+1);have h2:=uV l p.1;rw[aw,bp];omega
 exact this
theorem NC(h:k∉nX rs):Dg rs k=0:=by have h':∀p∈rs,k≠p.1/\k≠p.2+1:= λp hp=>⟨λe=>h (uU.mpr ⟨p,hp,.inl e⟩),λe=>h (uU.mpr ⟨p,hp,.inr e⟩)⟩;unfold Dg yu;rw[m7.mpr λp hp=>by simp;exact λe=>(h' p hp).1 e.symm,m7.mpr λp hp=>by simp;exact λe=>(h' p hp).2 e.symm];rfl
theorem abv:((iV (zD (nX rs) (Dg rs)) (bJ (k:Int))).getD (.int 0))= .int (Dg rs k):=by
 rw[wc];by_cases h:k∈nX rs
 ·rw[if_pos h];rfl
 ·rw[if_neg h,NC h];rfl
theorem abw(F:lg K "changes_at_cuts" "changes_at_cuts" abu f fd)(T:Gm mg):dQ P w K mg base ki 1 f fd ["ranges"] YT:=by
 refine F.ok YU (λvs H Q E h=>?_) (λgl A bN s H vs Q E hr h=>?_)
 ·obtain⟨a,rs,qs,rfl,_⟩:=h;rfl
 ·obtain⟨a,rs,qs,rfl,hA,hR,aqx,alW,k⟩:=h;have nd:=YU.nd;have hu:=m5 hr;have dX:=a6 hR;have hsz:al=16777216:=bR;refine⟨_,am (g9 1 nd xn) (am (fQ bi rfl (fA (pv 0)) (nr 2 nd) (am (g9 3 nd (ft cw (pv 2) aR)) (am (g9 4 nd (e7 i9 (ft cw (pv 2) aR) aR)) (am (lI hu (pv 1) (pv 3) (e7 i9 (IR hu (pv 1) (pv 3) aR ⟨rfl,rfl,rfl,rfl⟩) aR) rfl) (aJ (lI hu (pv 1) (pv 4) (e7 yH (IR hu (pv 1) (pv 4) aR ⟨rfl,rfl,rfl,rfl⟩) aR) rfl)))))) (aJ (bG (pv 1)))),?_⟩;refine λd hd=>?_;refine⟨_,rfl,a,rfl,⟨_,cv.of (aE.aP hd _ _ hA)⟩,ig (K:=K) (a:=a) (xs:=qs.map V.ref) (λi σ H'=>∃(v2 v3 v4:Option V),σ=[some (.ref a),some (.ref d),v2,v3,v4]/\H' d=some (.dK (zD (nX (rs.take i)) (Dg (rs.take i))))/\aE H H') ⟨none,none,none,rfl,ai,aE.aP hd⟩ (λi σ H' _ ⟨_,_,_,_,_,s2⟩=>cv.of (s2 _ _ hA)) ?_ ?_⟩
  ·rintro i x σ H' hi ⟨v2,v3,v4,rfl,hD,s2⟩;obtain⟨q,e,rfl⟩:=dk hi;obtain⟨p,hy,mW⟩:=b0 hR e;have PF:H' q=some (.bV [.int 1,nV p.1,nV p.2]):=s2 _ _ mW;have hp:=alW p (aG hy);have jx:rs.take (i+1)=rs.take i++[p]:=by rw[bQ,hy];rfl
   have sh:(nX (rs.take i)).length<=960:=by refine aW (PL _) ?_;rw[a4];omega
   rw[jx,Lu];generalize rs.take i=r0 at hD sh ⊢;refine⟨_,rfl,q,_,_,_,rfl,rfl,eh.of PF,aN (j:=1) rfl,?_⟩;refine⟨_,rfl,q,_,_,_,rfl,rfl,eh.of PF,aN (j:=2) rfl,_,_,rfl,rfl,?_⟩;refine⟨_,rfl,d,rfl,.inl ⟨_,.inl hD⟩,_,rfl,_,lx.k (k:=bJ (p.1:Int)) hD,_,_,abv,rfl,?_⟩;refine⟨_,rfl,_,rfl,d,_,rfl,s_.k (k:=bJ (p.1:Int)) hD (by rw[F3];omega),?_⟩;rw[Ls];have YV:((p.2:Int)+1)=((p.2+1:Nat):Int):=by omega
   have hv2:(iV (zD (putIn (nX r0) p.1) (λk=>if k=p.1 then Dg r0 p.1+1 else Dg r0 k)) (bJ ((p.2+1:Nat):Int))).getD (.int 0)= .int (Dg r0 (p.2+1)):=by
    rw[wc];by_cases h:p.2+1∈putIn (nX r0) p.1
    ·rw[if_pos h,if_neg (by omega)];rfl
    ·rw[if_neg h,NC λz=>h (uM.mpr (.inl z))];rfl
   have oR:=uV (nX r0) p.1;refine⟨_,rfl,d,rfl,.inl ⟨_,.inl ai⟩,_,rfl,_,lx.k (k:=bJ ((p.2:Int)+1)) ai,_,_,(by rw[YV];exact hv2),rfl,?_⟩;refine⟨_,rfl,_,rfl,d,_,rfl,s_.k (k:=bJ ((p.2:Int)+1)) ai (by rw[F3];omega),?_⟩;rw[YV,Ls];refine⟨_,_,_,rfl,?_,λc o ec=>?_⟩
   ·rw[ai];refine congrArg (λz=>some (HO.dK z)) (Cj λk _=>?_);rw[Rm];by_cases h1:k=p.2+1
    ·subst h1;rw[if_pos rfl,if_neg (by omega),if_pos rfl];omega
    ·rw[if_neg h1];by_cases h2:k=p.1
     ·subst h2;rw[if_pos rfl,if_pos rfl,if_neg (by omega)];omega
     ·rw[if_neg h2,if_neg λz=>h2 z.symm,if_neg λz=>h1 z.symm];omega
   ·rw[aF (aH ec hd),aF (aH ec hd)];exact s2 _ _ ec
  ·rintro σ H' ⟨v2,v3,v4,rfl,hD,s2⟩;rw[a_,<-dX,a8]at hD;exact⟨_,rfl,k H' d s2 hd hD⟩
end Mv
namespace L2
open PySem PySem.Spec PyProof.Rows
theorem xM{K:ak}{a:ah}{xs:List V}{g:TG}{tb:TS}{D:rX}{σ:L2.St}{H:Hp}(Pv:Nat->L2.St->Hp->Prop)(h0:Pv 0 σ H)(hl:∀i σ H,i<=xs.length->Pv i σ H->cv K H a xs)(hs:∀i x σ H T,xs[i]? =some x->Pv i σ H->H T=none->g (.ref T) σ (aP H T (.bV [.int (i:Nat),x])) λkh H2=>tb {D with nx:=Pv (i+1),ct:=Pv (i+1),bk:=D.nx} kh H2)(hd:∀σ H,Pv xs.length σ H->D.nx σ H):∃W:Nat->Nat->L2.St->Hp->Prop,(∃m,W 0 m σ H)/\∀i m σ H,W i m σ H->((Vt K a).stop i H/\D.nx σ H)\/((Vt K a).go i H/\∃N:L2.St->Hp->Prop,(∀h9 H',N h9 H'->∃m',m'<m/\W (i+1) m' h9 H')/\∀x H',(Vt K a).Ip i H x H'->g x σ H' λkh H2=>tb {D with nx:=N,ct:=N,bk:=D.nx} kh H2):=by refine Le (J:=Vt K a) (n:=xs.length) Pv h0 (λi σ H hi p=>⟨xs,_,hl i σ H (j6 hi) p,ay hi⟩) (λσ H p=>⟨xs,hl _ σ H (aB _) p,aB _⟩) ?_ hd;rintro i x σ H H' hi p ⟨T,y,rfl,hT,rfl,hy⟩;exact hs i y σ H T (hy xs (hl i σ H (j6 hi) p)) p hT
theorem W9{K:ak}{a:ah}{xs:List V}{g:TG}{tt:TT}{te:TE}{vs:List Nat}{σ:L2.St}{H1:Hp}{D:ah}{Qd:Hp->Prop}(Pv:Nat->Hp->Prop)(h0:Pv 0 (aP H1 D (.be [])))(hl:∀i H,i<=xs.length->Pv i H->cv K H a xs)(hs:∀i x H T,xs[i]? =some x->Pv i H->H T=none->g (.ref T) (iU σ vs) (aP H T (.bV [.int (i:Nat),x])) λkh H2=>iU kh vs=iU σ vs/\tt kh H2 λb H3=>if b=true then te kh H3 λy H4=>∃acc,H4 D=some (.be acc)/\acc.length<al/\Pv (i+1) (aP H4 D (.be (acc++[y])))else Pv (i+1) H3)(hd:∀H,Pv xs.length H->Qd H):∃W:Nat->Nat->Hp->Prop,(∃m,W 0 m (aP H1 D (.be [])))/\∀i m H,W i m H->((Vt K a).stop i H/\Qd H)\/((Vt K a).go i H/\∃Nx:Hp->Prop,(∀H',Nx H'->∃m',m'<m/\W (i+1) m' H')/\∀x H',(Vt K a).Ip i H x H'->g x (iU σ vs) H' λkh H2=>iU kh vs=iU σ vs/\tt kh H2 λb H3=>if b=true then te kh H3 λy H4=>∃acc,H4 D=some (.be acc)/\acc.length<al/\Nx (aP H4 D (.be (acc++[y])))else Nx H3):=by refine YI (J:=Vt K a) (n:=xs.length) Pv h0 (λi H hi p=>⟨xs,_,hl i H (j6 hi) p,ay hi⟩) (λH p=>⟨xs,hl _ H (aB _) p,aB _⟩) ?_ hd;rintro i x H H' hi p ⟨T,y,rfl,hT,rfl,hy⟩;exact hs i y H T (hy xs (hl i H (j6 hi) p)) p hT
end L2
namespace Mv
open PySem PySem.Spec PyProof.Rows L2 Mt
open Vaglrc (Sym Rule Grammar)
variable{P:a7}{X:Cx}{pos:mZ}{x:bT}{a f C q d:ah}{b i k c:Nat}{r:eA}{H H' H0:Hp}{o:HO}{l cN ks s:List Nat}{qs S:List ah}{rs:List (Nat×Nat)}{α β:Type}{fd:fR}{K:ak}{g:aL}{t:cK}{w:bP}{T:Nat->List (Nat×Nat)}{ad:Nat->ah}
theorem Jm{ns:List Int}(hp:ns.Perm (ks.map λ(k:Nat)=>(k:Int)))(hs:ns.Pairwise (· <= ·))(hn:ks.Nodup)(hm:∀k,k∈ks↔k∈l)(hl:pq l):ns=l.map λ(k:Nat)=>(k:Int):=by
 have o7:∀z∈ns,∃k∈ks,z=(k:Int):= λz hz=>by obtain⟨k,hk,e⟩:=aQ.mp (hp.mem_iff.mp hz);exact⟨k,hk,e.symm⟩
 have Z2:ns.Nodup:=by rw[hp.nodup_iff];exact dF.mpr (hn.imp λ{a b} ne e=>ne (m9 e))
 have TJ:pq (ns.map Int.toNat):=by
  refine dF.mpr ?_;have f8:ns.Pairwise (· < ·):=(uY.mpr ⟨hs,Z2⟩).imp λ{a b} h=>by obtain⟨h1,h2⟩:=h;omega
  refine f8.imp_of_mem λ{a b} ha hb h=>?_;obtain⟨x,_,rfl⟩:=o7 a ha;obtain⟨y,_,rfl⟩:=o7 b hb;omega
 have e:ns.map Int.toNat=l:=wG TJ hl λx=>by
  rw[aQ,<-hm];constructor
  ·rintro⟨z,hz,rfl⟩;obtain⟨k,hk,rfl⟩:=o7 z hz;simpa using hk
  ·intro hx;exact⟨(x:Int),hp.mem_iff.mpr (aQ.mpr ⟨x,hx,rfl⟩),by simp⟩
 rw[<-e,bS]
 conv=>lhs;rw[<-List.map_id ns]
 refine cZ λz hz=>?_;obtain⟨k,_,rfl⟩:=o7 z hz;simp
theorem Jn(l:List Nat):(l.map λ(k:Nat)=>(k:Int)).map V.int=eS l:=by unfold eS;rw[bS];rfl
variable{P:a7}{w:bP}{K:ak}{mg:bT->Option aj}{base:cX}{Cg C CH CL:ah}
abbrev Ck:dZ:=mm 28
inductive EF(vs:List V)(H:Hp)(Q:VK)(E_:XK):Prop
 |mk (a:ah) (g:aL) (as:List ah) (_:vs=[.ref a]) (_:Good g) (_:H a=some (.be (as.map V.ref))) (_:eY H g.rules as) (_:∀(H':Hp)(q:ah)(cs:List ah),aE H H'->H q=none->H' q=some (.be (cs.map V.ref))->pf H' (ag g) cs->Q (.ref q) H')
theorem EG:bU ["rules","changes","cuts","classes","depth","number"] ["rules"] (a5 Ck):=ml
theorem pf.nt(hS:∀b∈S,∀xs,H b≠some (.bV xs))(h:pf H rs qs):pf (d6 S H) rs qs:=Paired.gJ h λ_ _ z=>bo.mpr ⟨λm=>hS _ m _ z,z⟩
theorem F4(G:Good g):(br g).length<=480:=by rw[zT];refine aW (zU λr hr=>(G.rule r hr).fD) ?_;have:=G.fD;omega
theorem Lv(F:lg K "classes_of" "classes_of" Ck f fd)(T:Gm mg)(GR:jL P w K mg base "ranges_of" 1 ["rules"] Jk)(GC:jL P w K mg base "changes_at_cuts" 1 ["ranges"] YT):dQ P w K mg base ki 2 f fd ["rules"] EF:=by
 refine F.ok EG (λvs H Q E h=>?_) (λgl A bN s H vs Q E hr h=>?_)
 ·obtain⟨a,g,as,rfl,_⟩:=h;rfl
 ·obtain⟨a,g,as,rfl,G,hA,hR,k⟩:=h;have nd:=EG.nd;have hu:=m5 hr;have hsz:al=16777216:=bR;refine⟨_,am (g9 1 nd (cO GC hr (aB _) rfl (af (cO GR hr (aB _) rfl (af (pv 0) aD)) aD))) (am (g9 2 nd (cg (IV rfl) rfl T.sorted (by decide+kernel) (af (pv 1) aD))) (am (g9 3 nd (cV aD)) (am (g9 4 nd aR) (am (fQ bi rfl (uO rfl T.range (af (e7 yH (cg bM rfl T.fD bB (af (pv 2) aD)) aR) aD)) (nr 5 nd) (am (g9 4 nd (e7 i9 (pv 4) (uS hu (pv 1) (ft b_ (pv 2) (pv 5)) (λ_ _=>rfl)))) (aJ (dD (bY Iv (pv 4) aR (ck _)) (aJ (fz (i_ bf bv bx d_ (pv 3) (af (ii (af (ft b_ (pv 2) (pv 5)) (af (e7 yH (ft b_ (pv 2) (e7 i9 (pv 5) aR)) aR) aD))) aD)))) b5)))) (aJ (bG (pv 3))))))),?_⟩;refine⟨_,rfl,a,g,as,rfl,G,hA,hR,λH1 ra qs s1 Ax hra hrg=>?_⟩;refine⟨ra,_,qs,rfl,hra,hrg,F4 G,λp hp=>(nL G hp).1,λH2 d s2 hd0 hd=>?_⟩;have xq:(zD (nX (br g)) (Dg (br g))).map (·.1)=((nX (br g)).map λ(k:Nat)=>(k:Int)).map bJ:=by unfold zD;rw[bS,bS];rfl
  refine⟨_,rfl,d,_,_,rfl,hd,xq,λns c TK TM hc0=>?_⟩;have ens:=Jm TK TM (TF _) (l:=bH g) (λx=>by rw[uU,tR]) (gG g);subst ens;rw[Jn];have s3:aE H2 (aP H2 c (.be (eS (bH g)))):=aE.aP hc0;generalize hH3:aP H2 c (.be (eS (bH g)))=H3 at s3 ⊢;have hC3:H3 c=some (.be (eS (bH g))):=by rw[<-hH3,ai]
  clear hH3;have li:=s3 _ _ hd;refine⟨bj _,λt ht=>?_⟩;have De:=eO G;have s4:aE H3 (aP H3 t (.be [])):=aE.aP ht;refine⟨_,rfl,c,_,rfl,.inl (cv.of (s4 _ _ hC3)),_,_,rfl,rfl,_,rfl,by rw[fO];omega,by rw[fO];omega,?_⟩;have e0:(((eS (bH g)).length:Int)-1).toNat=(bH g).length-1:=by rw[fO];omega
  rw[e0];refine uP (lo:=0) (n:=(bH g).length-1) (λi σ H'=>∃(v5:Option V)(cs:List ah),σ=[some (.ref a),some (.ref d),some (.ref c),some (.ref t),some (.int (pW g i)),v5]/\H' t=some (.be (cs.map V.ref))/\pf H' (kX g i) cs/\aE H3 H')
   ⟨none,[],rfl,ai,by unfold kX;rw[qm];exact .nil,s4⟩ ?_ ?_
  ·rintro i σ H' hi ⟨v5,cs,rfl,hT,PM,s5⟩;rw[Ms];obtain⟨x,hx⟩:∃x,(bH g)[i]? =some x:=⟨_,ay (by omega)⟩;obtain⟨y,hy⟩:∃y,(bH g)[i+1]? =some y:=⟨_,ay (by omega)⟩;have hxy:=oC (gG g) hx hy (iu i);have hC':=s5 _ _ hC3;have dg:lx H' d (.int (x:Int)) (some (.int (Dg (br g) x))):=by have:=lx.k (k:=bJ (x:Int)) (s5 _ _ li);rw[wc,if_pos (uU.mpr (tR.mp (aG hx)))]at this;exact this
   refine⟨_,rfl,_,rfl,_,rfl,_,rfl,c,_,_,_,rfl,rfl,cv.of hC',aN (uT hx),d,_,rfl,dg,_,_,rfl,rfl,?_⟩;have ed:=Fe hx;show ow 4 (V.int (pW g i+Dg (br g) x)) _ _ _;rw[<-ed];refine⟨_,rfl,_,_,rfl,rfl,_,rfl,?_⟩;have ec:=Bs G hx hy;by_cases hdp:0<pW g (i+1)
   ·rw[if_pos hdp]at ec;rw[ec];refine cF (decide_eq_true hdp) ⟨_,rfl,.inl ⟨rfl,_,cv.of hT⟩,_,rfl,_,rfl,c,_,_,_,rfl,rfl,cv.of hC',aN (uT hx),_,rfl,_,rfl,_,_,rfl,rfl,c,_,_,_,rfl,rfl,cv.of hC',SD (j:=i+1) (by omega) (uT hy),_,_,rfl,rfl,(by show 2<=al;decide),λu ma=>?_⟩;have AV:aP H' u (.bV [nV x,V.int ((y:Int)-1)]) t=some (.be (cs.map V.ref)):=by rw[aF (aH hT ma)];exact hT
    have IL:cs.length<=256:=by rw[<-a6 PM];unfold kX;refine aW (cp _ _) ?_;rw[a4,oE];omega
    refine⟨t,_,_,rfl,rfl,AV,by rw[a_];omega,?_⟩;have ey:((y:Int)-1)=((y-1:Nat):Int):=by omega
    refine⟨_,cs++[u],rfl,by rw[ai,aK];rfl,?_,λb o eb=>?_⟩
    ·have sA:aE H' (aP H' u (.bV [nV x,V.int ((y:Int)-1)])):=aE.aP ma;have sb:aE (d6 [t] (aP H' u (.bV [nV x,V.int ((y:Int)-1)]))) (aP (aP H' u (.bV [nV x,V.int ((y:Int)-1)])) t (.be (cs.map V.ref++[V.ref u]))):=cS (ci _ _) (by simp);refine cJ (((PM.keeps sA).nt (d7 AV)).keeps sb) (sb _ _ (bo.mpr ⟨λm=>?_,?_⟩))
     ·have:u=t:=by simpa using m
      rw[this,hT]at ma;cases ma
     ·rw[ai,ey];rfl
    ·rw[aF (aH eb ht),aF (aH (s5 _ _ eb) ma)];exact s5 _ _ eb
   ·rw[if_neg hdp]at ec;rw[ec];exact bZ (decide_eq_false hdp) ⟨_,cs,rfl,hT,PM,s5⟩
  ·rintro σ H' ⟨v5,cs,rfl,hT,PM,s5⟩;rw[Dh g (aB _)]at PM;exact⟨_,rfl,k H' t cs (((s1.trans s2).trans s3).trans s5) (((s1.trans s2).trans s3).free ht) hT PM⟩
abbrev TN:dZ:=mm 29
inductive TQ(vs:List V)(H:Hp)(Q:VK)(E_:XK):Prop
 |mk (a:ah) (g:aL) (cs:List ah) (_:vs=[.ref a]) (_:Good g) (_:H a=some (.be (cs.map V.ref))) (_:pf H (ag g) cs) (_:∀(H':Hp)(q:ah),aE H H'->H q=none->H' q=some (.be (vw g))->Q (.ref q) H')
theorem TR:bU ["classes","columns","number","bounds","byte"] ["classes"] (a5 TN):=ml
def Cm(b:Nat)(p:Nat×Nat):Bool:=decide (p.1<=b)&&decide (b<=p.2)
def DE(cl:List (Nat×Nat))(i b:Nat):Option Nat:=(cl.take i).findIdx? (Cm b)
def xN(f:Nat->Option Nat):List V:=(bE 256).map λb=>oV (f b)
theorem we{f f':Nat->Option Nat}(h:∀b,b<256->f b=f' b):xN f=xN f':=cZ λb hb=>by rw[h b (eV.mp hb)]
theorem TU{f:Nat->Option Nat}(hb:b<256):(xN f).set b (nV i)=xN λx=>if x=b then some i else f x:=by
 unfold xN;refine Ae λj=>?_;rw[U8,aq,fh,aM,aM];by_cases hj:j<256
 ·rw[g_ hj];show(if b=j then _ else some (oV (f j)))=some (oV (if j=b then some i else f j));by_cases e:b=j
  ·subst e;rw[if_pos rfl,if_pos hb,if_pos rfl];rfl
  ·rw[if_neg e,if_neg λz=>e z.symm]
 ·rw[dy (by simpa using hj)];rw[if_neg (by omega)];rfl
theorem PN{p:Nat×Nat}(h:(ag g)[i]? =some p)(b:Nat):DE (ag g) (i+1) b=if p.1<=b/\b<=p.2 then some i else DE (ag g) i b:=by
 unfold DE;have f8:=(ao.mp h).1;rw[bQ,h,Oe];by_cases hb:p.1<=b/\b<=p.2
 ·rw[if_pos hb];have e1:((ag g).take i).findIdx? (Cm b)=none:=by
   rw[List.findIdx?_eq_none_iff];intro q hq;obtain⟨j,hj⟩:=fS hq;have PP:j<i:=by have:=(ao.mp hj).1;rw[a4]at this;omega
   rw[fH PP]at hj;cases e:Cm b q with|false=>rfl|true=>unfold Cm at e;rw[bg,decide_eq_true_iff,decide_eq_true_iff]at e;have:=HI (f9 g) hj h e.1 e.2 hb.1 hb.2;omega
  rw[e1];have e2:Cm b p=true:=by unfold Cm;rw[bg,decide_eq_true_iff,decide_eq_true_iff];exact hb
  show Q6 none (sR _ (adi (Cm b) [p]))=_;rw[mw,e2];simp;omega
 ·rw[if_neg hb];have e2:Cm b p=false:=by
   cases e:Cm b p with|false=>rfl|true=>unfold Cm at e;rw[bg,decide_eq_true_iff,decide_eq_true_iff]at e;exact absurd e hb
  show Q6 _ (sR _ (adi (Cm b) [p]))=_;rw[mw,e2];simp
theorem TV(g:aL):xN (DE (ag g) (ag g).length)++[nV (gs g)]=vw g:=by unfold vw xN;rw[show(257:Nat)=256+1 from rfl,gY (n:=256),aK];congr 1;refine cZ λb hb=>?_;have HS:=eV.mp hb;unfold nP;rw[if_neg (by omega)];unfold DE;rw[a8];rfl
theorem W_(F:lg K "columns_of" "columns_of" TN f fd)(T:Gm mg):dQ P w K mg base ki 1 f fd ["classes"] TQ:=by
 refine F.ok TR (λvs H Q E h=>?_) (λgl A bN s H vs Q E hr h=>?_)
 ·obtain⟨a,g,cs,rfl,_⟩:=h;rfl
 ·obtain⟨a,g,cs,rfl,G,hA,hC,k⟩:=h;have nd:=TR.nd;have hsz:al=16777216:=bR;have dX:=a6 hC;refine⟨_,am (g9 1 nd (e7 FI (cV (af gd aD)) (lQ T.te rfl))) (am (fQ bi rfl (xo rfl T.nu (af (pv 0) aD)) (vR rfl (gT (nr 2 nd) (gT (nr 3 nd) pY))) (aJ (fQ bi rfl (Eo rfl T.range (af (ft cw (pv 3) aR) (af (e7 i9 (ft cw (pv 3) aR) aR) aD))) (nr 4 nd) (aJ (BN (pv 2) (BM (pv 1) (pv 4) ug)))))) (am (fz (i_ bf bv bx d_ (pv 1) (af (cg bM rfl T.fD bB (af (pv 0) aD)) aD))) (aJ (bG (pv 1))))),?_⟩;refine⟨(by show 1<=al;decide),λl0 Av=>?_⟩;refine⟨l0,_,_,rfl,rfl,ai,by omega,by omega,(by show 1*(256:Int).toNat<=al;rw[hsz];decide),λl hl=>?_⟩;have e0:(256:Int).toNat=256:=rfl;rw[e0,xI];have s0:aE H (aP H l0 (.be [.non])):=aE.aP Av;have s1:aE H (aP (aP H l0 (.be [.non])) l (.be (bz 256 .non))):=aE.kj s0 hl;have FX:H l=none:=s0.free hl;generalize xE:aP (aP H l0 (.be [.non])) l (.be (bz 256 .non))=H1 at s1 ⊢;have hL1:H1 l=some (.be (xN (DE (ag g) 0))):=by rw[<-xE,ai];refine congrArg (λz=>some (HO.be z)) ?_;have:xN (DE (ag g) 0)=(bE 256).map λ_=>V.non:=cZ λb _=>rfl;rw[this,List.map_const',fh]
  clear xE;refine⟨_,rfl,a,_,rfl,cv.of (s1 _ _ hA),xM (K:=K) (a:=a) (xs:=cs.map V.ref) (λi σ H'=>∃v2 v3 v4:Option V,σ=[some (.ref a),some (.ref l),v2,v3,v4]/\H' l=some (.be (xN (DE (ag g) i)))/\aE H H') ⟨none,none,none,rfl,hL1,s1⟩ (λi σ H' _ ⟨_,_,_,_,_,s2⟩=>cv.of (s2 _ _ hA)) ?_ ?_⟩
  ·rintro i x σ H' T' hi ⟨v2,v3,v4,rfl,hL,s2⟩ F5;obtain⟨q,e,rfl⟩:=dk hi;obtain⟨p,hy,mW⟩:=b0 hC e;have hp:=rO G (aG hy);have s3:aE H (aP H' T' (.bV [.int (i:Nat),.ref q])):=aE.kj s2 F5;have oI:aP H' T' (.bV [.int (i:Nat),.ref q]) l=some (.be (xN (DE (ag g) i))):=by rw[aF (aH hL F5)];exact hL
   have zR:aP H' T' (.bV [.int (i:Nat),.ref q]) q=some (.bV [nV p.1,nV p.2]):=s3 _ _ mW;refine⟨T',_,rfl,eh.of ai,rfl,_,_,rfl,_,_,rfl,rfl,?_⟩;generalize aP H' T' (.bV [.int (i:Nat),.ref q])=H3 at s3 oI zR ⊢;refine⟨_,rfl,q,_,_,_,rfl,rfl,eh.of zR,aN (j:=0) rfl,_,rfl,q,_,_,_,rfl,rfl,eh.of zR,aN (j:=1) rfl,_,_,rfl,rfl,_,_,rfl,⟨by omega,by omega,by omega,by omega⟩,?_⟩;have e1:((p.2:Int)+1-(p.1:Int)).toNat=p.2+1-p.1:=by omega
   rw[e1];refine uP (lo:=(p.1:Int)) (n:=p.2+1-p.1) (λj σ H4=>∃v4:Option V,σ=[some (.ref a),some (.ref l),some (.int (i:Nat)),some (.ref q),v4]/\H4 l=some (.be (xN λx=>if p.1<=x/\x<p.1+j then some i else DE (ag g) i x))/\aE H H4)
    ⟨v4,rfl,?_,s3⟩ ?_ ?_
   ·rw[oI];refine congrArg (λz=>some (HO.be z)) (we λb _=>?_);rw[if_neg (by omega)]
   ·rintro j σ H4 hj ⟨v4,rfl,DC,s4⟩;have e2:(p.1:Int)+(j:Nat)=((p.1+j:Nat):Int):=by omega
    rw[e2];have hb:p.1+j<256:=by omega
    refine⟨_,rfl,_,rfl,_,rfl,l,_,_,_,rfl,rfl,DC,xJ (j:=p.1+j) (by unfold xN;simp;exact hb),?_⟩;refine⟨_,rfl,?_,λb o eb=>?_⟩
    ·rw[ai];refine congrArg (λz=>some (HO.be z)) ((TU hb).trans (we λx _=>?_));by_cases h1:x=p.1+j
     ·rw[if_pos h1,if_pos (by omega)]
     ·rw[if_neg h1];by_cases h2:p.1<=x/\x<p.1+j
      ·rw[if_pos h2,if_pos (by omega)]
      ·rw[if_neg h2,if_neg (by omega)]
    ·rw[aF (aH eb FX)];exact s4 _ _ eb
   ·rintro σ H4 ⟨v4,rfl,DC,s4⟩;refine⟨_,_,_,rfl,?_,s4⟩;rw[DC];refine congrArg (λz=>some (HO.be z)) (we λx _=>?_);rw[PN hy];by_cases h2:p.1<=x/\x<=p.2
    ·rw[if_pos h2,if_pos (by omega)]
    ·rw[if_neg h2,if_neg (by omega)]
  ·rintro σ H' ⟨v2,v3,v4,rfl,hL,s2⟩;rw[a_,<-dX]at hL;refine⟨_,rfl,.inl ⟨rfl,_,cv.of hL⟩,_,rfl,a,_,rfl,.inl (cv.of (s2 _ _ hA)),l,_,_,rfl,rfl,hL,(by unfold xN;simp;omega),?_⟩;refine⟨_,rfl,k _ l (λb o eb=>by rw[aF (aH eb FX)];exact s2 _ _ eb) FX ?_⟩;rw[ai,a_,<-dX];exact congrArg (λz=>some (HO.be z)) (TV g)
abbrev TW:dZ:=mm 31
def ClD(g:aL)(kf kl:List (fE×V)):Prop:=∀lo hi,(lo,hi)∈br g->iV kf (bJ (lo:Int))=some (nV (pD g lo))/\iV kl (bJ (hi:Int))=some (nV (pE g hi))
inductive TX(vs:List V)(H:Hp)(Q:VK)(E_:XK):Prop
 |mk (sa fa la:ah) (g:aL) (y:mq) (kf kl:List (fE×V)) (_:vs=[.ref sa,.ref fa,.ref la]) (_:uq H y sa) (_:H fa=some (.dK kf)) (_:H la=some (.dK kl)) (_:ClD g kf kl) (_:(∀lo hi,y= .range lo hi->(lo,hi)∈br g)) (_:∀(H':Hp)(q:ah),aE H H'->uq H' (o1 g y) q->Q (.ref q) H')
theorem aby:bU ["symbol","first_class","last_class"] ["symbol","first_class","last_class"] (a5 TW):=ml
theorem W'(F:lg K "symbol_over_classes" "symbol_over_classes" TW f fd)(T:Gm mg):dQ P w K mg base ki 1 f fd ["symbol","first_class","last_class"] TX:=by
 refine F.ok aby (λvs H Q E h=>?_) (λgl A bN s H vs Q E hr h=>?_)
 ·obtain⟨sa,fa,la,g,y,kf,kl,rfl,_⟩:=h;rfl
 ·obtain⟨sa,fa,la,g,y,kf,kl,rfl,hS,hF,hL,hD,hy,k⟩:=h;have hu:=m5 hr;have sZ:H sa=some (.bV (v1 y)):=hS;refine⟨_,am (dD (bY g8 (ft cw (pv 0) aR) (lQ T.rg rfl) (ck _)) (aJ (bG (ii (af (lQ T.rg rfl) (af (uS hu (pv 1) (ft cw (pv 0) aR) (λ_ _=>rfl)) (af (uS hu (pv 2) (ft cw (pv 0) aR) (λ_ _=>rfl)) aD)))))) b5) (aJ (bG (pv 0))),?_⟩;cases y with
  |non n=>exact⟨_,rfl,sa,_,_,_,rfl,rfl,eh.of sZ,aN (j:=0) rfl,rfl,_,rfl,bZ (mh (by decide)) ⟨_,rfl,k H sa aE.Pu hS⟩⟩|range lo hi=>
   obtain⟨e1,e2⟩:=hD lo hi (hy lo hi rfl);have d1:lx H fa (.int (lo:Int)) (some (nV (pD g lo))):=by have:=lx.k (k:=bJ (lo:Int)) hF;rw[e1]at this;exact this
   have d2:lx H la (.int (hi:Int)) (some (nV (pE g hi))):=by have:=lx.k (k:=bJ (hi:Int)) hL;rw[e2]at this;exact this
   refine⟨_,rfl,sa,_,_,_,rfl,rfl,eh.of sZ,aN (j:=0) rfl,rfl,_,rfl,cF (dV rfl) ⟨_,rfl,_,rfl,sa,_,_,_,rfl,rfl,eh.of sZ,aN (j:=1) rfl,fa,_,rfl,d1,_,rfl,_,rfl,sa,_,_,_,rfl,rfl,eh.of sZ,aN (j:=2) rfl,la,_,rfl,d2,(by show 3<=al;decide),λt ht=>?_⟩⟩;exact k _ t (aE.aP ht) ai
abbrev NE:dZ:=mm 30
abbrev YW:List bT:=["rules","classes","first_class","last_class","number","bounds","changed","rule","symbols","symbol"]
inductive TY(vs:List V)(H:Hp)(Q:VK)(E_:XK):Prop
 |mk (ra ca:ah) (g:aL) (as cs:List ah) (_:vs=[.ref ra,.ref ca]) (_:Good g) (_:H ra=some (.be (as.map V.ref))) (_:eY H g.rules as) (_:H ca=some (.be (cs.map V.ref))) (_:pf H (ag g) cs) (_:Cd H Q (fc g))
theorem TZ:bU YW ["rules","classes"] (a5 NE):=ml
theorem EH(h:c∉l):Mt.putIn l c=l++[c]:=if_neg h
theorem T1{f:Nat->Int}{v:Int}(h:b∉ks)(e:v=f b):kJ (zD ks f) (bJ (b:Int)) (V.int v)=zD (ks++[b]) f:=by
 rw[Ls,EH h];refine Cj λk _=>?_;by_cases q:k=b
 ·rw[if_pos q,e,q]
 ·rw[if_neg q]
theorem Lw{p:Nat×Nat}(h:(ag g)[i]? =some p):p.1∉((ag g).take i).map (·.1):=by
 intro m;obtain⟨q,hq,e⟩:=aQ.mp m;obtain⟨j,hj⟩:=fS hq;have PP:j<i:=by have:=(ao.mp hj).1;rw[a4]at this;omega
 rw[fH PP]at hj;have:=(E5 (f9 g) h hj).mp (by omega);omega
theorem Lx{p:Nat×Nat}(h:(ag g)[i]? =some p):p.2∉((ag g).take i).map (·.2):=by
 intro m;obtain⟨q,hq,e⟩:=aQ.mp m;obtain⟨j,hj⟩:=fS hq;have PP:j<i:=by have:=(ao.mp hj).1;rw[a4]at this;omega
 rw[fH PP]at hj;have:=(E6 (f9 g) h hj).mp (by omega);omega
theorem gA{l:List α}{x:α}(h:l[i]? =some x)(f:α->β):(l.take (i+1)).map f=(l.take i).map f++[f x]:=by rw[bQ,h,aK];rfl
theorem Xa(G:Good g):ClD g (zD ((ag g).map (·.1)) λk=>(pD g k:Nat)) (zD ((ag g).map (·.2)) λk=>(pE g k:Nat)):=by
 intro lo hi h;obtain⟨c,p,hp,e⟩:=tT G h;obtain⟨c',p',VT,e'⟩:=vG G h;refine⟨?_,?_⟩
 ·rw[wc,if_pos (aQ.mpr ⟨p,aG hp,e⟩)];rfl
 ·rw[wc,if_pos (aQ.mpr ⟨p',aG VT,e'⟩)];rfl
theorem qw.nt(hS:∀b∈S,∀xs,H b≠some (.bV xs)){l:List mq}(h:qw H l qs):qw (d6 S H) l qs:=Paired.gJ h λ_ _ z=>bo.mpr ⟨λm=>hS _ m _ z,z⟩
theorem Xb(F:lg K "rules_over_classes" "rules_over_classes" NE f fd)(T:Gm mg)(GS:jL P w K mg base "symbol_over_classes" 1 ["symbol","first_class","last_class"] TX):dQ P w K mg base ki 2 f fd ["rules","classes"] TY:=by
 refine F.ok TZ (λvs H Q E h=>?_) (λgl A bN s H vs Q E hr h=>?_)
 ·obtain⟨ra,ca,g,as,cs,rfl,_⟩:=h;rfl
 ·obtain⟨ra,ca,g,as,cs,rfl,G,hA,hR,hC,hCl,k⟩:=h;have nd:=TZ.nd;have hu:=m5 hr;have hsz:al=16777216:=bR;have hlr:=a6 hR;have hlc:=a6 hCl;have De:=(eO G).2;refine⟨_,am (vS (i:=2) nd rfl (by first|exact l8 rfl|exact mU rfl|exact mU (l8 rfl)) xn) (am (vS (i:=3) nd rfl (by first|exact l8 rfl|exact mU rfl|exact mU (l8 rfl)) xn) (am (fQ bi rfl (xo rfl T.nu (af (pv 1) aD)) (vR rfl (gT (nr 4 nd) (gT (nr 5 nd) pY))) (am (lI hu (pv 2) (ft cw (pv 5) aR) (pv 4) rfl) (aJ (lI hu (pv 3) (ft cw (pv 5) aR) (pv 4) rfl)))) (am (g9 6 nd (cV aD)) (am (fQ bi rfl (fA (pv 0)) (nr 7 nd) (am (xl (i:=8) (own:=[("symbol",9)]) rfl nd rfl rfl rfl (yG (ft cw (pv 7) aR)) (gi (N:=YW) (sc:=a5 NE) (by decide+kernel)) (λ_ _ _ _ _=>nr 9 nd) (λ_ _ _ _ _=>mP) (λ_ _ _ _ _=>cO GS hr (aB _) rfl (af (pv 9) (af (pv 2) (af (pv 3) aD))))) (aJ (fz (i_ bf bv bx d_ (pv 6) (af (ii (af (ft cw (pv 7) aR) (af (qU nD rfl T.tuple (by decide+kernel) (af (pv 8) aD)) aD))) aD)))))) (aJ (bG (pv 6))))))),?_⟩;refine λd1 tf d2 Dz=>?_;have s1:aE H (aP H d1 (.dK [])):=aE.aP tf;have abz:d1≠d2:= λz=>by rw[<-z,ai]at Dz;cases Dz
  have alZ:H d2=none:=s1.free Dz;have s2:aE H (aP (aP H d1 (.dK [])) d2 (.dK [])):=aE.kj s1 Dz;refine⟨_,rfl,ca,_,rfl,cv.of (s2 _ _ hC),xM (K:=K) (a:=ca) (xs:=cs.map V.ref) (λi σ H'=>∃v4 v5:Option V,σ=[some (.ref ra),some (.ref ca),some (.ref d1),some (.ref d2),v4,v5,none,none,none,none]/\H' d1=some (.dK (zD (((ag g).take i).map (·.1)) λk=>(pD g k:Nat)))/\H' d2=some (.dK (zD (((ag g).take i).map (·.2)) λk=>(pE g k:Nat)))/\aE H H') ⟨none,none,rfl,by rw[aF abz,ai];rfl,by rw[ai];rfl,s2⟩ (λi σ H' _ ⟨_,_,_,_,_,s3⟩=>cv.of (s3 _ _ hC)) ?_ ?_⟩
  ·rintro i x σ H' T' hi ⟨v4,v5,rfl,Tq,QO,s3⟩ F5;obtain⟨q,e,rfl⟩:=dk hi;obtain⟨p,hy,mW⟩:=b0 hCl e;have s4:aE H (aP H' T' (.bV [.int (i:Nat),.ref q])):=aE.kj s3 F5;have abA:aP H' T' (.bV [.int (i:Nat),.ref q]) d1=some (.dK (zD (((ag g).take i).map (·.1)) λk=>(pD g k:Nat))):=by rw[aF (aH Tq F5)];exact Tq
   have af0:aP H' T' (.bV [.int (i:Nat),.ref q]) d2=some (.dK (zD (((ag g).take i).map (·.2)) λk=>(pE g k:Nat))):=by rw[aF (aH QO F5)];exact QO
   refine⟨T',_,rfl,eh.of ai,rfl,_,_,rfl,_,_,rfl,rfl,?_⟩;generalize aP H' T' (.bV [.int (i:Nat),.ref q])=H3 at s4 abA af0 ⊢;have zR:H3 q=some (.bV [nV p.1,nV p.2]):=s4 _ _ mW;have hli:(((ag g).take i).map (·.1)).length<=256:=by rw[aq,a4];omega
   have aqB:(((ag g).take i).map (·.2)).length<=256:=by rw[aq,a4];omega
   rw[gA hy,gA hy];refine⟨_,rfl,_,rfl,_,rfl,q,_,_,_,rfl,rfl,eh.of zR,aN (j:=0) rfl,d1,_,rfl,s_.k (k:=bJ (p.1:Int)) abA (by rw[F3];omega),?_⟩;rw[T1 (v:=(i:Nat)) (Lw hy) (by rw[E7 hy])];have J':aP H3 d1 (.dK (zD (((ag g).take i).map (·.1)++[p.1]) λk=>(pD g k:Nat))) q=some (.bV [nV p.1,nV p.2]):=by rw[aF (nQ zR abA (λz=>nomatch z))];exact zR
   have al0:aP H3 d1 (.dK (zD (((ag g).take i).map (·.1)++[p.1]) λk=>(pD g k:Nat))) d2=some (.dK (zD (((ag g).take i).map (·.2)) λk=>(pE g k:Nat))):=by rw[aF abz.symm];exact af0
   refine⟨_,rfl,_,rfl,_,rfl,q,_,_,_,rfl,rfl,eh.of J',aN (j:=1) rfl,d2,_,rfl,s_.k (k:=bJ (p.2:Int)) al0 (by rw[F3];omega),?_⟩;rw[T1 (v:=(i:Nat)) (Lx hy) (by rw[E8 hy])];refine⟨_,_,rfl,?_,ai,λb o eb=>?_⟩
   ·rw[aF abz,ai]
   ·rw[aF (aH eb alZ),aF (aH eb tf)];exact s4 _ _ eb
  ·rintro σ H2 ⟨v4,v5,rfl,Tq,QO,s3⟩;rw[a_,<-hlc,a8]at Tq QO;refine⟨bj _,λt ht=>?_⟩;have s4:aE H2 (aP H2 t (.be [])):=aE.aP ht;refine⟨_,rfl,ra,rfl,⟨_,cv.of (s4 _ _ (s3 _ _ hA))⟩,ig (K:=K) (a:=ra) (xs:=as.map V.ref) (λi σ H'=>∃(v7 v8:Option V)(ps:List ah),σ=[some (.ref ra),some (.ref ca),some (.ref d1),some (.ref d2),v4,v5,some (.ref t),v7,v8,none]/\H' t=some (.be (ps.map V.ref))/\eY H' ((g.rules.take i).map (iz g)) ps/\aE H2 H') ⟨none,none,[],rfl,ai,.nil,s4⟩ (λi σ H' _ ⟨_,_,_,_,_,_,s5⟩=>cv.of (s5 _ _ (s3 _ _ hA))) ?_ ?_⟩
   ·rintro i x σ H' hi ⟨v7,v8,ps,rfl,hT,wy,s5⟩;obtain⟨qa,e,rfl⟩:=dk hi;obtain⟨r,hy,mW⟩:=b0 hR e;have FY:=aG hy;obtain⟨tt,sq,ha,ht',hs⟩:=mW.keeps (s3.trans s5);have tG:=a6 hs;have h8:=(G.rule r FY).fD;refine⟨_,rfl,qa,_,_,_,rfl,rfl,eh.of ha,aN (j:=1) rfl,tt,rfl,⟨_,eh.of ht'⟩,λD hD=>?_⟩;refine FM (K:=K) (a:=tt) (xs:=sq.map V.ref) (λi H3=>aE H' H3/\∃us:List ah,H3 D=some (.be (us.map V.ref))/\qw H3 ((r.rhs.take i).map (o1 g)) us) ⟨aE.aP hD,[],ai,.nil⟩ (λi H3 _ ⟨s6,_⟩=>eh.of (s6 _ _ ht')) ?_ ?_
    ·rintro i x H3 hi ⟨s6,us,li,Ew⟩;obtain⟨q,e,rfl⟩:=dk hi;obtain⟨y,PF,F2⟩:=b0 hs e;have Tz:us.length<=8:=by rw[<-a6 Ew,aq,a4];exact aW (iy _ _) h8
     refine⟨rfl,_,rfl,_,rfl,_,rfl,q,d1,d2,g,y,_,_,rfl,F2.keeps s6,s6 _ _ (s5 _ _ Tq),s6 _ _ (s5 _ _ QO),Xa G,λlo hi e=>iF.mpr ⟨r,FY,by rw[<-e];exact aG PF⟩,λH4 u s7 hu4=>?_⟩;have vx:=s7 _ _ li;refine⟨_,vx,by rw[a_];omega,λc o ec=>?_,us++[u],by rw[ai,aK];rfl,?_⟩
     ·rw[aF (aH ec hD)];exact s7 _ _ (s6 _ _ ec)
     ·rw[gA PF];have sb:aE (d6 [D] H4) (aP H4 D (.be (us.map V.ref++[V.ref u]))):=cS (ci _ _) (by simp);exact cJ ((qw.nt (d7 vx) (Ew.keeps s7)).keeps sb) (sb _ _ (bo.mpr ⟨λm=>d7 vx _ m _ hu4,hu4⟩))
    ·rintro H3 ⟨s6,us,li,Ew⟩;rw[a_,<-tG,a8]at Ew;have QN:=s6 _ _ hT;refine⟨_,rfl,.inl ⟨rfl,_,cv.of QN⟩,_,rfl,qa,_,_,_,rfl,rfl,eh.of (s6 _ _ ha),aN (j:=0) rfl,_,rfl,D,_,rfl,.inl ⟨cv.of li,λu ma=>⟨(by show 2<=al;decide),λv hv=>?_⟩⟩⟩;have s7:aE H3 (aP (aP H3 u (.bV (us.map V.ref))) v (.bV [nV r.lhs,.ref u])):=aE.kj (aE.aP ma) hv;have huv:u≠v:= λz=>by rw[<-z,ai]at hv;cases hv
     have hrv:j1 (aP (aP H3 u (.bV (us.map V.ref))) v (.bV [nV r.lhs,.ref u])) (iz g r) v:=⟨u,us,ai,by rw[aF huv,ai],Ew.keeps s7⟩;have AV:=s7 _ _ QN;generalize aP (aP H3 u (.bV (us.map V.ref))) v (.bV [nV r.lhs,.ref u])=H4 at s7 hrv AV ⊢;have wx:ps.length<=60:=by rw[<-a6 wy,aq,a4];exact aW (iy _ _) G.fD
     refine⟨t,_,_,rfl,rfl,AV,by rw[a_];omega,?_⟩;refine⟨_,_,ps++[v],rfl,by rw[ai,aK];rfl,?_,λc o ec=>?_⟩
     ·rw[gA hy];have sb:aE (d6 [t] H4) (aP H4 t (.be (ps.map V.ref++[V.ref v]))):=cS (ci _ _) (by simp);exact cJ ((eY.nt (d7 AV) ((wy.keeps s6).keeps s7)).keeps sb) ((j1.nt (d7 AV) hrv).keeps sb)
     ·rw[aF (aH ec ht)];exact s7 _ _ (s6 _ _ (s5 _ _ ec))
   ·rintro σ H' ⟨v7,v8,ps,rfl,hT,wy,s5⟩;rw[a_,<-hlr,a8]at wy;exact⟨_,rfl,k H' t ps (s3.trans s5) (s3.free ht) hT wy⟩
abbrev F6:dZ:=sg (mm 34) 0
structure abB(H:Hp)(a b c d:ah):Prop where
 na:H a=none
 nb:H b=none
 nc:H c=none
 nd:H d=none
 ab:a≠b
 ac:a≠c
 ad:a≠d
 bc:b≠c
 bd:b≠d
 cd:c≠d
inductive Jo(C:ah)(vs:List V)(H:Hp)(Q:VK)(E_:XK):Prop
 |mk (p dx lr lc:ah) (g:aL) (cs:List ah) (_:vs=[.ref p,nV g.nons,.ref lr,.ref lc]) (_:H p=some (.gc C dx [])) (_:Good g) (_:H lc=some (.be (cs.map V.ref))) (_:pf H (ag g) cs) (_:∀(H':Hp)(lo ls lm lw:ah),H' p=some (.gc C dx (Te (nV g.nons) (.ref lr) (.ref lc) (.ref lo) (.ref ls) (.ref lm) (.ref lw)))->H' lo=some (.be (vw g))->H' ls=some (.be [])->H' lm=some (.be [])->H' lw=some (.be [])->abB H lo ls lm lw->(∀b o,H b=some o->b≠p->H' b=some o)->Q .non H')
abbrev AZ:List bT:=["self","nonterminals","rules","classes"]
theorem T2:bU AZ AZ (a5 F6):=ml
theorem f1{n:V}:me "nonterminals" n []=[(("nonterminals":bT),n)]:=rfl
theorem f2{n lr:V}:me "rules" lr [(("nonterminals":bT),n)]=[(("nonterminals":bT),n),("rules",lr)]:=lF (by decide+kernel)
theorem f3{n lr lc:V}:me "classes" lc [(("nonterminals":bT),n),("rules",lr)]=[(("nonterminals":bT),n),("rules",lr),("classes",lc)]:=(lF (by decide+kernel)).trans (congrArg _ (lF (by decide+kernel)))
theorem f4{n lr lc lo:V}:me "columns" lo [(("nonterminals":bT),n),("rules",lr),("classes",lc)]=[(("nonterminals":bT),n),("rules",lr),("classes",lc),("columns",lo)]:=(lF (by decide+kernel)).trans (congrArg _ ((lF (by decide+kernel)).trans (congrArg _ (lF (by decide+kernel)))))
theorem f5{n lr lc lo ls:V}:me "states" ls [(("nonterminals":bT),n),("rules",lr),("classes",lc),("columns",lo)]=[(("nonterminals":bT),n),("rules",lr),("classes",lc),("columns",lo),("states",ls)]:=(lF (by decide+kernel)).trans (congrArg _ ((lF (by decide+kernel)).trans (congrArg _ ((lF (by decide+kernel)).trans (congrArg _ (lF (by decide+kernel)))))))
theorem f6{n lr lc lo ls lm:V}:me "moves" lm [(("nonterminals":bT),n),("rules",lr),("classes",lc),("columns",lo),("states",ls)]=[(("nonterminals":bT),n),("rules",lr),("classes",lc),("columns",lo),("states",ls),("moves",lm)]:=(lF (by decide+kernel)).trans (congrArg _ ((lF (by decide+kernel)).trans (congrArg _ ((lF (by decide+kernel)).trans (congrArg _ ((lF (by decide+kernel)).trans (congrArg _ (lF (by decide+kernel)))))))))
theorem f7{n lr lc lo ls lm lw:V}:me "whole" lw [(("nonterminals":bT),n),("rules",lr),("classes",lc),("columns",lo),("states",ls),("moves",lm)]=Te n lr lc lo ls lm lw:=(lF (by decide+kernel)).trans (congrArg _ ((lF (by decide+kernel)).trans (congrArg _ ((lF (by decide+kernel)).trans (congrArg _ ((lF (by decide+kernel)).trans (congrArg _ ((lF (by decide+kernel)).trans (congrArg _ (lF (by decide+kernel)))))))))))
theorem PQ(F:lg K "__init__" "Table.__init__" F6 f fd)(TT:AX K C)(GC:jL P w K mg base "columns_of" 1 ["classes"] TQ):dQ P w K mg base ki 2 f fd AZ (Jo C):=by
 refine F.ok T2 (λvs H Q E h=>?_) (λgl A bN s H vs Q E hr h=>?_)
 ·obtain⟨p,dx,lr,lc,g,cs,rfl,_⟩:=h;rfl
 ·obtain⟨p,dx,lr,lc,g,cs,rfl,hp,G,hC,hCl,k⟩:=h;refine⟨_,am (j0 (pv 0) (pv 1) rfl) (am (j0 (pv 0) (pv 2) rfl) (am (j0 (pv 0) (pv 3) rfl) (am (j0 (pv 0) (cO GC hr (aB _) rfl (af (pv 3) aD)) rfl) (am (j0 (pv 0) (cV aD) rfl) (am (j0 (pv 0) (cV aD) rfl) (aJ (j0 (pv 0) (cV aD) rfl))))))),?_⟩;refine⟨_,rfl,_,rfl,p,C,dx,[],rfl,hp,TT.cl,TT.non,(by show 0<1000;decide),?_⟩;rw[f1];refine⟨_,rfl,_,rfl,p,C,dx,_,rfl,ai,TT.cl,TT.YL,(by show 1<1000;decide),?_⟩;rw[f2];refine⟨_,rfl,_,rfl,p,C,dx,_,rfl,ai,TT.cl,TT.cls,(by show 2<1000;decide),?_⟩;rw[f3];have Vz:∀b o,H b=some o->b≠p->aP (aP (aP H p (.gc C dx [(("nonterminals":bT),nV g.nons)])) p (.gc C dx [(("nonterminals":bT),nV g.nons),("rules",.ref lr)])) p (.gc C dx [(("nonterminals":bT),nV g.nons),("rules",.ref lr),("classes",.ref lc)]) b=some o:= λb o e hb=>by rw[aF hb,aF hb,aF hb];exact e
  have Ka:∀b,aP (aP (aP H p (.gc C dx [(("nonterminals":bT),nV g.nons)])) p (.gc C dx [(("nonterminals":bT),nV g.nons),("rules",.ref lr)])) p (.gc C dx [(("nonterminals":bT),nV g.nons),("rules",.ref lr),("classes",.ref lc)]) b=none->H b=none/\b≠p:= λb e=>by
   have hb:b≠p:= λz=>by rw[z,ai]at e;cases e
   rw[aF hb,aF hb,aF hb]at e;exact⟨e,hb⟩
  have YX:aP (aP (aP H p (.gc C dx [(("nonterminals":bT),nV g.nons)])) p (.gc C dx [(("nonterminals":bT),nV g.nons),("rules",.ref lr)])) p (.gc C dx [(("nonterminals":bT),nV g.nons),("rules",.ref lr),("classes",.ref lc)]) p=some (.gc C dx [(("nonterminals":bT),nV g.nons),("rules",.ref lr),("classes",.ref lc)]):=ai;generalize aP (aP (aP H p (.gc C dx [(("nonterminals":bT),nV g.nons)])) p (.gc C dx [(("nonterminals":bT),nV g.nons),("rules",.ref lr)])) p (.gc C dx [(("nonterminals":bT),nV g.nons),("rules",.ref lr),("classes",.ref lc)])=H1 at Vz Ka YX ⊢;have hC1:H1 lc=some (.be (cs.map V.ref)):=Vz _ _ hC (nQ hC hp (λz=>nomatch z));have al1:pf H1 (ag g) cs:=Paired.gJ hCl λx b hz=>by have Wz:H b=some (.bV [nV x.1,nV x.2]):=hz;exact Vz _ _ Wz (nQ Wz hp (λz=>nomatch z))
  refine⟨_,rfl,lc,g,cs,rfl,G,hC1,al1,λH2 lo s2 ho0 S0=>?_⟩;refine⟨_,rfl,p,C,dx,_,rfl,s2 _ _ YX,TT.cl,TT.col,(by show 3<1000;decide),?_⟩;rw[f4];have Xc:lo≠p:= λz=>by rw[z,YX]at ho0;cases ho0
  have fr3:∀b o,H1 b=some o->b≠p->aP H2 p (.gc C dx [(("nonterminals":bT),nV g.nons),("rules",.ref lr),("classes",.ref lc),("columns",.ref lo)]) b=some o:= λb o e hb=>by rw[aF hb];exact s2 _ _ e
  have abC:aP H2 p (.gc C dx [(("nonterminals":bT),nV g.nons),("rules",.ref lr),("classes",.ref lc),("columns",.ref lo)]) lo=some (.be (vw g)):=by rw[aF Xc];exact S0
  have hp3:aP H2 p (.gc C dx [(("nonterminals":bT),nV g.nons),("rules",.ref lr),("classes",.ref lc),("columns",.ref lo)]) p=some (.gc C dx [(("nonterminals":bT),nV g.nons),("rules",.ref lr),("classes",.ref lc),("columns",.ref lo)]):=ai;have bk3:∀b,aP H2 p (.gc C dx [(("nonterminals":bT),nV g.nons),("rules",.ref lr),("classes",.ref lc),("columns",.ref lo)]) b=none->H1 b=none:= λb e=>by
   have hb:b≠p:= λz=>by rw[z,ai]at e;cases e
   rw[aF hb]at e;exact s2.free e
  generalize aP H2 p (.gc C dx [(("nonterminals":bT),nV g.nons),("rules",.ref lr),("classes",.ref lc),("columns",.ref lo)])=H3 at fr3 abC hp3 bk3 ⊢;refine⟨bj _,λls G'=>?_⟩;have t1:aE H3 (aP H3 ls (.be [])):=aE.aP G';refine⟨_,rfl,p,C,dx,_,rfl,t1 _ _ hp3,TT.cl,TT.QM,(by show 4<1000;decide),?_⟩;rw[f5];have abD:ls≠p:= λz=>by rw[z,hp3]at G';cases G'
  generalize hG4:aP (aP H3 ls (.be [])) p (.gc C dx [(("nonterminals":bT),nV g.nons),("rules",.ref lr),("classes",.ref lc),("columns",.ref lo),("states",.ref ls)])=H4;have YY:H4 p=some (.gc C dx [(("nonterminals":bT),nV g.nons),("rules",.ref lr),("classes",.ref lc),("columns",.ref lo),("states",.ref ls)]):=by rw[<-hG4,ai]
  have PR:H4 ls=some (.be []):=by rw[<-hG4,aF abD,ai]
  have fr4:∀b o,H3 b=some o->b≠p->H4 b=some o:= λb o e hb=>by rw[<-hG4,aF hb];exact t1 _ _ e
  have bk4:∀b,H4 b=none->H3 b=none:= λb e=>by
   have hb:b≠p:= λz=>by rw[z,YY]at e;cases e
   rw[<-hG4,aF hb]at e;exact t1.free e
  clear hG4;refine⟨bj _,λlm PU=>?_⟩;have t2:aE H4 (aP H4 lm (.be [])):=aE.aP PU;refine⟨_,rfl,p,C,dx,_,rfl,t2 _ _ YY,TT.cl,TT.YM,(by show 5<1000;decide),?_⟩;rw[f6];have af2:lm≠p:= λz=>by rw[z,YY]at PU;cases PU
  generalize hG5:aP (aP H4 lm (.be [])) p (.gc C dx [(("nonterminals":bT),nV g.nons),("rules",.ref lr),("classes",.ref lc),("columns",.ref lo),("states",.ref ls),("moves",.ref lm)])=H5;have hp5:H5 p=some (.gc C dx [(("nonterminals":bT),nV g.nons),("rules",.ref lr),("classes",.ref lc),("columns",.ref lo),("states",.ref ls),("moves",.ref lm)]):=by rw[<-hG5,ai]
  have T3:H5 lm=some (.be []):=by rw[<-hG5,aF af2,ai]
  have fr5:∀b o,H4 b=some o->b≠p->H5 b=some o:= λb o e hb=>by rw[<-hG5,aF hb];exact t2 _ _ e
  have bk5:∀b,H5 b=none->H4 b=none:= λb e=>by
   have hb:b≠p:= λz=>by rw[z,hp5]at e;cases e
   rw[<-hG5,aF hb]at e;exact t2.free e
  clear hG5;refine⟨bj _,λlw NF=>?_⟩;have t3:aE H5 (aP H5 lw (.be [])):=aE.aP NF;refine⟨_,rfl,p,C,dx,_,rfl,t3 _ _ hp5,TT.cl,TT.who,(by show 6<1000;decide),?_⟩;rw[f7];have al4:lw≠p:= λz=>by rw[z,hp5]at NF;cases NF
  have fr6:∀b o,H5 b=some o->b≠p->aP (aP H5 lw (.be [])) p (.gc C dx (Te (nV g.nons) (.ref lr) (.ref lc) (.ref lo) (.ref ls) (.ref lm) (.ref lw))) b=some o:= λb o e hb=>by rw[aF hb];exact t3 _ _ e
  have lo4:=fr4 _ _ abC Xc;have lo5:=fr5 _ _ lo4 Xc;have ls5:=fr5 _ _ PR abD;refine k _ lo ls lm lw ai (fr6 _ _ lo5 Xc) (fr6 _ _ ls5 abD) (fr6 _ _ T3 af2) (by rw[aF al4,ai]) ?_ λb o e hb=>fr6 _ _ (fr5 _ _ (fr4 _ _ (fr3 _ _ (Vz _ _ e hb) hb) hb) hb) hb;have n3:∀b,H3 b=none->H b=none:= λb e=>(Ka b (bk3 b e)).1;exact⟨(Ka _ ho0).1,n3 _ G',n3 _ (bk4 _ PU),n3 _ (bk4 _ (bk5 _ NF)),aH abC G',aH lo4 PU,aH lo5 NF,aH PR PU,aH ls5 NF,aH T3 NF⟩
abbrev abE:dZ:=mm 45
inductive YZ(Cg C:ah)(vs:List V)(H:Hp)(Q:VK)(E_:XK):Prop
 |mk (a:ah) (g:aL) (_:vs=[.ref a]) (_:Good g) (_:aba Cg H g a) (_:∀(H':Hp)(q ls lm lw:ah),aE H H'->jo C (d6 [ls,lm,lw] H') g q ls lm lw->H' ls=some (.be [])->H' lm=some (.be [])->H' lw=some (.be [])->H ls=none->H lm=none->H lw=none->ls≠lm->ls≠lw->lm≠lw->Q (.ref q) H')
theorem Y0:bU ["grammar","classes","rules"] ["grammar"] (a5 abE):=ml
theorem T4{n l:V}:(grF n l).lookup ("nonterminals":bT)=some n:=xF
theorem T5{n l:V}:(grF n l).lookup ("rules":bT)=some l:=(lh (by decide+kernel)).trans xF
theorem abF{Cg:ah}(F:lg K "table_without_states" "table_without_states" abE f fd)(T:Gm mg)(TG:GrT K Cg)(GC:jL P w K mg base "classes_of" 2 ["rules"] EF)(GR:jL P w K mg base "rules_over_classes" 2 ["rules","classes"] TY)(GM:YJ P w K mg base "Table" C 2 AZ (Jo C)):dQ P w K mg base ki 4 f fd ["grammar"] (YZ Cg C):=by
 refine F.ok Y0 (λvs H Q E h=>?_) (λgl A bN s H vs Q E hr h=>?_)
 ·obtain⟨a,g,rfl,_⟩:=h;rfl
 ·obtain⟨a,g,rfl,G,⟨dx,l,as,h1,h2,h3⟩,k⟩:=h;have nd:=Y0.nd;have hsz:al=16777216:=bR;refine⟨_,am (g9 1 nd (cO GC hr (by decide) rfl (af (cE (pv 0) rfl) aD))) (am (g9 2 nd (cO GR hr (by decide) rfl (af (cE (pv 0) rfl) (af (pv 1) aD)))) (am (fz (i_ bf bv bx d_ (pv 2) (af (ii (af (cE (pv 0) rfl) (af (ii (af (ii (af (lQ T.nt rfl) (af aR aD))) aD)) aD))) aD))) (aJ (bG (No GM hr (by decide) rfl (af (cE (pv 0) rfl) (af (pv 2) (af (pv 1) aD)))))))),?_⟩;refine⟨_,rfl,a,Cg,dx,_,_,rfl,h1,TG.cl,TG.n2,T5,l,g,as,rfl,G,h2,h3,λH1 c cs s1 hc0 hc IL=>?_⟩;refine⟨_,rfl,a,Cg,dx,_,_,rfl,s1 _ _ h1,TG.cl,TG.n2,T5,_,rfl,l,c,g,as,cs,rfl,G,s1 _ _ h2,h3.keeps s1,hc,IL,λH2 r rs s2 Ax WZ hrr=>?_⟩;have hR2:H2 r=some (.be (rs.map V.ref)):=WZ;refine⟨_,rfl,.inl ⟨rfl,_,cv.of hR2⟩,_,rfl,a,Cg,dx,_,_,rfl,s2 _ _ (s1 _ _ h1),TG.cl,TG.n1,T4,(by show 2<=al;decide),λt1 Vv=>⟨(by show 1<=al;decide),λt2 V_=>⟨(by show 2<=al;decide),λt3 Nt=>?_⟩⟩⟩;have q1:aE H2 (aP H2 t1 (.bV [.int 0,.int 0])):=aE.aP Vv;have q2:aE H2 (aP (aP H2 t1 (.bV [.int 0,.int 0])) t2 (.bV [.ref t1])):=aE.kj q1 V_;have q3:aE H2 (aP (aP (aP H2 t1 (.bV [.int 0,.int 0])) t2 (.bV [.ref t1])) t3 (.bV [nV g.nons,.ref t2])):=aE.kj q2 Nt;have n12:t1≠t2:= λz=>by rw[<-z,ai]at V_;cases V_
  have n23:t2≠t3:= λz=>by rw[<-z,ai]at Nt;cases Nt
  have n13:t1≠t3:= λz=>by rw[<-z,aF n12,ai]at Nt;cases Nt
  have zO:j1 (aP (aP (aP H2 t1 (.bV [.int 0,.int 0])) t2 (.bV [.ref t1])) t3 (.bV [nV g.nons,.ref t2])) (Td g) t3:=
   ⟨t2,[t1],ai,by rw[aF n23,ai];rfl,.cons (by show _=some (HO.bV _);rw[aF n13,aF n12,ai];rfl) .nil⟩
  generalize aP (aP (aP H2 t1 (.bV [.int 0,.int 0])) t2 (.bV [.ref t1])) t3 (.bV [nV g.nons,.ref t2])=H3 at q3 zO ⊢;have hR3:=q3 _ _ hR2;have Y1:rs.length<=60:=by rw[<-a6 hrr];exact Ch G
  refine⟨r,_,_,rfl,rfl,hR3,by rw[a_];omega,?_⟩;have sb:aE (d6 [r] H3) (aP H3 r (.be (rs.map V.ref++[V.ref t3]))):=cS (ci _ _) (by simp);have hRR:eY (aP H3 r (.be (rs.map V.ref++[V.ref t3]))) (nW g) (rs++[t3]):=
   cJ ((eY.nt (d7 hR3) (hrr.keeps q3)).keeps sb) ((j1.nt (d7 hR3) zO).keeps sb)
  have hR4:aP H3 r (.be (rs.map V.ref++[V.ref t3])) r=some (.be ((rs++[t3]).map V.ref)):=by rw[ai,aK];rfl
  have s4:aE H1 (aP H3 r (.be (rs.map V.ref++[V.ref t3]))):= λb o e=>by rw[aF (aH e Ax)];exact q3 _ _ (s2 _ _ e)
  generalize aP H3 r (.be (rs.map V.ref++[V.ref t3]))=H4 at hRR hR4 s4 ⊢;refine⟨_,rfl,a,Cg,dx,_,_,rfl,s4 _ _ (s1 _ _ h1),TG.cl,TG.n1,T4,_,rfl,_,rfl,λx T6 nx ndx nex=>?_⟩;have s5:aE H4 (aP (aP H4 T6 (.own x)) x (.gc C T6 [])):=aE.kj (aE.aP ndx) (by rw[aF nex.symm];exact nx);refine⟨x,T6,r,c,g,cs,rfl,ai,G,s5 _ _ (s4 _ _ hc),(IL.keeps s4).keeps s5,λH6 lo ls lm lw hx6 S0 G' PU NF ap fr=>⟨rfl,?_⟩⟩;have s6:aE H4 H6:=aE.K1 nx ndx fr;have bk:∀b,aP (aP H4 T6 (.own x)) x (.gc C T6 []) b=none->H4 b=none:= λb e=>s5.free e;have l1:=bk _ ap.nb;have l2:=bk _ ap.nc;have l3:=bk _ ap.nd;have sH:aE H H4:=s1.trans s4;have AW:∀b∈[ls,lm,lw],∀xs,H6 b≠some (.bV xs):= λb hb xs e=>by
   have HS:b=ls\/b=lm\/b=lw:=by simpa using hb
   rcases HS with z|z|z
   ·rw[z,G']at e;cases e
   ·rw[z,PU]at e;cases e
   ·rw[z,NF]at e;cases e
  have inb:∀{b:ah}{o:HO},H6 b=some o->b≠ls->b≠lm->b≠lw->d6 [ls,lm,lw] H6 b=some o:= λ{b o} e e1 e2 e3=>bo.mpr ⟨by simp[e1,e2,e3],e⟩;have in4:∀{b:ah}{o:HO},H4 b=some o->d6 [ls,lm,lw] H6 b=some o:= λ{b o} e=>inb (s6 _ _ e) (aH e l1) (aH e l2) (aH e l3);refine k H6 x ls lm lw (sH.trans s6) ⟨T6,r,c,lo,rs++[t3],cs,inb hx6 (nQ hx6 G' (λz=>nomatch z)) (nQ hx6 PU (λz=>nomatch z)) (nQ hx6 NF (λz=>nomatch z)),in4 hR4,eY.nt AW (hRR.keeps s6),in4 (s4 _ _ hc),pf.nt AW ((IL.keeps s4).keeps s6),inb S0 ap.ab ap.ac ap.ad⟩
   G' PU NF (sH.free l1) (sH.free l2) (sH.free l3) ap.bc ap.bd ap.cd
def tj(H:Hp)(c:Nat)(q:ah):Prop:=H q=some (.bV [nV (c/16),nV (c%16)])
def dY(H:Hp)(s:List Nat)(qs:List ah):Prop:=Paired (tj H) s qs
theorem tj.keeps(s:aE H H')(h:tj H c q):tj H' c q:=s _ _ h
theorem dY.keeps(s:aE H H')(h:dY H l qs):dY H' l qs:=Paired.gJ h λ_ _ z=>s _ _ z
theorem dY.nt(hS:∀b∈S,∀xs,H b≠some (.bV xs))(h:dY H l qs):dY (d6 S H) l qs:=Paired.gJ h λ_ _ z=>bo.mpr ⟨λm=>hS _ m _ z,z⟩
theorem Ly(g:aL):iz g {lhs:=g.nons,rhs:=[.non 0]}=Td g:=rfl
theorem oJ(h:i<=g.rules.length):(nW g)[i]? =some (iz g (aO g i)):=by
 unfold nW fc;by_cases e:i=g.rules.length
 ·subst e;rw[eW (by simp),aq,lG,pU,Ly];rfl
 ·have f8:i<g.rules.length:=by omega
  rw[cW (by simpa using f8),aM,ay f8,uH (ay f8)];rfl
abbrev T7:dZ:=mm 37
inductive Cn(C:ah)(vs:List V)(H:Hp)(Q:VK)(E_:XK):Prop
 |mk (a ia:ah) (g:aL) (ls lm lw:ah) (c:Nat) (_:vs=[.ref a,.ref ia]) (_:jo C H g a ls lm lw) (_:tj H c ia) (_:lK g c) (_:(bq g c=none->Q .non H)) (_:∀y q,bq g c=some y->uq H (o1 g y) q->Q (.ref q) H)
theorem T8:bU ["table","item","symbols"] ["table","item"] (a5 T7):=ml
theorem Xd(F:lg K "next_symbol" "next_symbol" T7 f fd)(T:Gm mg)(TT:AX K C):dQ P w K mg base ki 1 f fd ["table","item"] (Cn C):=by
 refine F.ok T8 (λvs H Q E h=>?_) (λgl A bN s H vs Q E hr h=>?_)
 ·obtain⟨a,ia,g,ls,lm,lw,c,rfl,_⟩:=h;rfl
 ·obtain⟨a,ia,g,ls,lm,lw,c,rfl,⟨dx,lr,lc,lo,as,cs,h1,h2,h3,h4,h5,h6⟩,hI,ok,q0,q1⟩:=h;have nd:=T8.nd;have hI':H ia=some (.bV [nV (c/16),nV (c%16)]):=hI;obtain⟨ra,hra,t,qs,hr1,ht,hq⟩:=L2.fV h3 (oJ ok.rule);have al5:(iz g (aO g (c/16))).rhs=(aO g (c/16)).rhs.map (o1 g):=rfl;rw[al5]at hq;have yU:=a6 hq;rw[aq]at yU;have PV:(as.map V.ref)[c/16]? =some (.ref ra):=by rw[aM,hra];rfl
  refine⟨_,am (g9 2 nd (ft cw (ft b_ (cE (pv 0) rfl) (ft cw (pv 1) aR)) aR)) (am (dD (bY g8 (ft cw (pv 1) aR) (cg bM rfl T.fD bB (af (pv 2) aD)) (ck _)) (aJ (bG gd)) b5) (aJ (bG (ft cw (pv 2) (ft cw (pv 1) aR))))),?_⟩;refine⟨_,rfl,a,C,dx,_,_,rfl,h1,TT.cl,TT.YL,v_,_,rfl,ia,_,_,_,rfl,rfl,eh.of hI',aN (j:=0) rfl,lr,_,_,_,rfl,rfl,cv.of h2,aN PV,ra,_,_,_,rfl,rfl,eh.of hr1,aN (j:=1) rfl,?_⟩;refine⟨_,rfl,ia,_,_,_,rfl,rfl,eh.of hI',aN (j:=1) rfl,_,rfl,t,_,rfl,.inr (eh.of ht),rfl,_,rfl,?_⟩;rw[a_,<-yU];cases e:bq g c with
  |none=>have hp:=ok.place;unfold bq at e;have:=iR.mp e;refine cF (dV (by omega)) ?_;exact q0 (by unfold bq;exact e)|some y=>
   have f8:=AO e;unfold bq at e;have hy:((aO g (c/16)).rhs.map (o1 g))[c%16]? =some (o1 g y):=by rw[aM,e];rfl
   obtain⟨q,hq1,Y2⟩:=L2.fV hq hy;refine bZ (mh (by omega)) ⟨_,rfl,_,rfl,ia,_,_,_,rfl,rfl,eh.of hI',aN (j:=1) rfl,t,_,_,_,rfl,rfl,eh.of ht,aN (by rw[aM,hq1];rfl),?_⟩;exact q1 y q (by unfold bq;exact e) Y2
abbrev abH:dZ:=mm 38
inductive T9(vs:List V)(H:Hp)(Q:VK)(E_:XK):Prop
 |mk (ia:ah) (c:Nat) (_:vs=[.ref ia]) (_:tj H c ia) (_:c%16<15) (_:∀(H':Hp)(q:ah),aE H H'->H q=none->tj H' (c+1) q->Q (.ref q) H')
theorem af7:bU ["item"] ["item"] (a5 abH):=ml
theorem abI(F:lg K "one_further" "one_further" abH f fd):dQ P w K mg base ki 1 f fd ["item"] T9:=by
 refine F.ok af7 (λvs H Q E h=>?_) (λgl A bN s H vs Q E hr h=>?_)
 ·obtain⟨ia,c,rfl,_⟩:=h;rfl
 ·obtain⟨ia,c,rfl,hI,h15,k⟩:=h;have hI':H ia=some (.bV [nV (c/16),nV (c%16)]):=hI;refine⟨_,aJ (bG (ii (af (ft cw (pv 0) aR) (af (e7 i9 (ft cw (pv 0) aR) aR) aD)))),?_⟩;refine⟨_,rfl,ia,_,_,_,rfl,rfl,eh.of hI',aN (j:=0) rfl,_,rfl,ia,_,_,_,rfl,rfl,eh.of hI',aN (j:=1) rfl,_,_,rfl,rfl,(by show 2<=al;decide),λt ht=>?_⟩;refine k _ t (aE.aP ht) ht ?_;show aP H t (.bV [nV (c/16),V.int (((c%16:Nat):Int)+1)]) t=some (.bV [nV ((c+1)/16),nV ((c+1)%16)]);rw[ai,show(c+1)/16=c/16 by omega,show(c+1)%16=c%16+1 by omega];rfl
theorem NG{K:ak}(e:X.K=K){es:List Expr}{t:TGs}{n:Nat}(hc:X.calm=true)(h:PGs X es t)(hn:(pk es X.bW).length=n:=by rfl)(qJ:(pk es X.bW).findIdx? (·.1)=none:=by rfl):PG X (.Tuple es k pos) (aeQ K n t):=by subst e;exact vR hc h hn qJ
def tD(kf:Nat->List fE)(l:List Nat):List (List fE×V):=l.map λc=>(kf c,V.bl true)
section
variable{kf:Nat->List fE}(hk:∀a b,kf a=kf b->a=b)
include hk
theorem Lz(l:List Nat)(b:Nat):iV (tD kf l) (kf b)=if b∈l then some (V.bl true)else none:=by
 induction l with
 |nil=>rfl|cons a l ih=>
  show iV ((kf a,V.bl true)::tD kf l) _=_;by_cases e:a=b
  ·subst e;rw[nR rfl,if_pos (aC ..)]
  ·rw[nS (λz=>e (hk _ _ z)),ih];by_cases h:b∈l
   ·rw[if_pos h,if_pos (az _ h)]
   ·rw[if_neg h,if_neg λz=>by
     rcases aU.mp z with q|q
     ·exact e q.symm
     ·exact h q]
theorem LA(l:List Nat)(b:Nat):kJ (tD kf l) (kf b) (V.bl true)=tD kf (Mt.putIn l b):=by
 unfold Mt.putIn;by_cases h:b∈l
 ·rw[if_pos h];unfold kJ;rw[ul,Lz hk,if_pos h];show(if true=true then _ else _)=_;rw[if_pos rfl];unfold tD;rw[bS];refine cZ λk _=>?_;show(if kf k=kf b then(kf k,V.bl true)else(kf k,V.bl true))=_;rw[ite_self]
 ·rw[if_neg h,nU _ (by rw[Lz hk,if_neg h])];unfold tD;rw[aK];rfl
end
theorem LB(kf:Nat->List fE)(l:List Nat):(tD kf l).length=l.length:=aq _
def T_(c:Nat):List Int:=[((c/16:Nat):Int),((c%16:Nat):Int)]
def qf(c:Nat):List fE:=(T_ c).map bJ
def gK(b:Nat):List fE:=[bJ 0,bJ (b:Int)]
theorem NH{a:Nat}(h:T_ a=T_ b):a=b:=by unfold T_ at h;have h1:=da h;have h2:=da h1.2;have e1:=h1.1;have e2:=h2.1;omega
theorem zV:∀{p q:List Int},p.map (bJ:Int->fE)=q.map bJ->p=q
 | [],[],_=>rfl| [],_::_,e=>by cases e|_::_,[],e=>by cases e|a::p,b::q,e=>by have h:=da e;rw[z9 h.1,zV h.2]
theorem yX(a b:Nat)(h:qf a=qf b):a=b:=NH (zV h)
theorem nv(a b:Nat)(h:gK a=gK b):a=b:=by unfold gK at h;exact nF (da (da h).2).1
def PX:List Int->Nat
 | [a,b]=>(a*16+b).toNat|_=>0
theorem xO(c:Nat):PX (T_ c)=c:=by show(((c/16:Nat):Int)*16+((c%16:Nat):Int)).toNat=c;omega
theorem Xe{d:Nat}(h:Ex.Aq (T_ d) (T_ c)=false)(j8:c≠d):c<d:=by
 unfold T_ at h;simp only[Ex.Aq,ox,decide_eq_false_iff_not]at h;obtain⟨h1,h2⟩:=h;by_cases h3:((c/16:Nat):Int)<((d/16:Nat):Int)
 ·omega
 ·have h4:(!decide (((c/16:Nat):Int)<((d/16:Nat):Int)))=true:=by simp;omega
  rw[h4,Hv]at h2;simp only[ox,decide_eq_false_iff_not]at h2;omega
theorem LC{ys:List (List Int×ah)}{fl:List Nat}(hp:(ys.map (·.1)).Perm (fl.map T_))(hs:ys.Pairwise λx y=>Ex.Aq y.1 x.1=false)(hH:∀y∈ys,H y.2=some (.bV (y.1.map V.int)))(hn:fl.Nodup)(hm:∀c,c∈fl↔c∈l)(hl:pq l):dY H l (ys.map (·.2)):=by
 have o7:∀y∈ys,∃c∈fl,y.1=T_ c:= λy hy=>by obtain⟨c,hc,e⟩:=aQ.mp (hp.mem_iff.mp (aQ.mpr ⟨y,hy,rfl⟩));exact⟨c,hc,e.symm⟩
 have Z2:(ys.map (·.1)).Nodup:=by rw[hp.nodup_iff];exact dF.mpr (hn.imp λ{a b} ne e=>ne (NH e))
 have TJ:pq (ys.map λy=>PX y.1):=by refine dF.mpr ?_;refine(uY.mpr ⟨hs,dF.mp Z2⟩).imp_of_mem λ{x y} hx hy h=>?_;obtain⟨c,_,e1⟩:=o7 x hx;obtain⟨d,_,e2⟩:=o7 y hy;rw[e1,e2,xO,xO];rw[e1,e2]at h;exact Xe h.1 λz=>h.2 (by rw[z])
 have e:(ys.map λy=>PX y.1)=l:=wG TJ hl λx=>by
  rw[aQ,<-hm];constructor
  ·rintro⟨y,hy,rfl⟩;obtain⟨c,hc,e1⟩:=o7 y hy;rw[e1,xO];exact hc
  ·intro hx;obtain⟨y,hy,e1⟩:=aQ.mp (hp.mem_iff.mpr (aQ.mpr ⟨x,hx,rfl⟩));exact⟨y,hy,by rw[e1,xO]⟩
 rw[<-e];have key:∀zs:List (List Int×ah),(∀y∈zs,y∈ys)->dY H (zs.map λy=>PX y.1) (zs.map (·.2)):=by
  intro zs;induction zs with
  |nil=>intro _;exact .nil|cons y zs ih=>intro h;refine .cons ?_ (ih λz hz=>h z (az _ hz));have hy:=h y (aC ..);obtain⟨c,_,e1⟩:=o7 y hy;have:=hH y hy;rw[e1]at this;show H y.2=some (.bV [nV (PX y.1/16),nV (PX y.1%16)]);rw[this,e1,xO];rfl
 exact key ys λy hy=>hy
abbrev F7:dZ:=mm 39
inductive NI(C:ah)(vs:List V)(H:Hp)(Q:VK)(E_:XK):Prop
 |mk (a la:ah) (g:aL) (ls lm lw:ah) (s:List Nat) (cc:List ah) (_:vs=[.ref a,.ref la]) (_:jo C H g a ls lm lw) (_:H la=some (.be (cc.map V.ref))) (_:dY H s cc) (_:(∀c∈s,lK g c)) (_:s.length<=976) (_:∀(H':Hp)(q:ah),aE H H'->H q=none->H' q=some (.be (eS (eL g s)))->Q (.ref q) H')
theorem NJ:bU ["table","items","item"] ["table","items"] (a5 F7):=ml
theorem F8(h:s[i]? =some c):eL g (s.take (i+1))=eL g (s.take i)++match bq g c with
 |some _=>[]|none=>[c/16]:=by
 unfold eL;rw[qe h,aK];congr 1;cases bq g c<;>rfl
theorem Ua(F:lg K "whole_rules" "whole_rules" F7 f fd)(GN:jL P w K mg base "next_symbol" 1 ["table","item"] (Cn C)):dQ P w K mg base ki 2 f fd ["table","items"] (NI C):=by
 refine F.ok NJ (λvs H Q E h=>?_) (λgl A bN s H vs Q E hr h=>?_)
 ·obtain⟨a,la,g,ls,lm,lw,s,cc,rfl,_⟩:=h;rfl
 ·obtain⟨a,la,g,ls,lm,lw,st,cc,rfl,hT,hA,hI,d5,af8,k⟩:=h;have nd:=NJ.nd;have hsz:al=16777216:=bR;have dX:=a6 hI;refine⟨_,aJ (bG (qb (own:=[("item",2)]) rfl nd (fA (pv 1)) (gi (N:=["table","items","item"]) (sc:=a5 F7) (by decide+kernel)) (λ_ _ _ _ _=>nr 2 nd) (λ_ _ _ _ _=>se (bY og (cO GN hr (aB _) rfl (af (pv 0) (af (pv 2) aD))) gd (ck _))) (λ_ _ _ _ _=>Eu (xH (K:=K) rfl) (pv 2) aR (λ_ _=>rfl)))),?_⟩;refine⟨_,rfl,la,rfl,⟨_,cv.of hA⟩,λD hD=>?_⟩;refine nE (K:=K) (a:=la) (xs:=cc.map V.ref) (λi H3=>aE H H3/\H3 D=some (.be (eS (eL g (st.take i))))) ⟨aE.aP hD,ai⟩ (λi H3 _ ⟨s4,_⟩=>cv.of (s4 _ _ hA)) ?_ ?_
  ·rintro i x H3 hi ⟨s3,li⟩;obtain⟨ia,e,rfl⟩:=dk hi;obtain⟨c,hy,mW⟩:=b0 hI e;have hI3:H3 ia=some (.bV [nV (c/16),nV (c%16)]):=s3 _ _ mW;have QK:(eL g (st.take i)).length<=976:=by unfold eL;rw[aq];refine aW (cp _ _) ?_;rw[a4];omega
   rw[F8 hy];refine⟨rfl,_,rfl,_,rfl,a,ia,g,ls,lm,lw,c,rfl,hT.keeps s3,mW.keeps s3,d5 c (aG hy),λen=>?_,λy q en hq=>?_⟩
   ·rw[en];refine⟨rfl,_,rfl,cF rfl ⟨_,rfl,ia,_,_,_,rfl,rfl,eh.of hI3,aN (j:=0) rfl,_,li,by rw[fO];omega,λb o eb=>?_,?_⟩⟩
    ·rw[aF (aH eb hD)];exact s3 _ _ eb
    ·rw[ai];unfold eS;rw[aK];rfl
   ·rw[en];refine⟨rfl,_,rfl,bZ rfl ⟨s3,?_⟩⟩;show _=some (HO.be (eS (_++[])));rw[cz];exact li
  ·rintro H3 ⟨s3,li⟩;rw[a_,<-dX,a8]at li;exact k H3 D s3 hD li
abbrev A0:dZ:=mm 40
inductive Jp(C:ah)(vs:List V)(H:Hp)(Q:VK)(E_:XK):Prop
 |mk (a:ah) (g:aL) (ls lm lw:ah) (b:Nat) (_:vs=[.ref a,nV b]) (_:Good g) (_:jo C H g a ls lm lw) (_:b<g.nons) (_:∀(H':Hp)(q:ah)(cc:List ah),aE H H'->H q=none->H' q=some (.be (cc.map V.ref))->dY H' (cr g b) cc->Q (.ref q) H')
theorem Jq:bU ["table","nonterminal","number","rule"] ["table","nonterminal"] (a5 A0):=ml
def so(g:aL)(b i:Nat):List Nat:=(bE i).filterMap λj=>if(aO g j).lhs=b then some (j*16)else none
theorem xP(g:aL)(b i:Nat):so g b (i+1)=so g b i++if(aO g i).lhs=b then[i*16]else[]:=by
 unfold so;rw[gY,gw];congr 1;rw[bI];by_cases h:(aO g i).lhs=b
 ·rw[if_pos h,if_pos h];rfl
 ·rw[if_neg h,if_neg h];rfl
theorem LD{F:Nat×α->Option β}{F':Nat->Option β}:∀{bs:List α},(∀c b,bs[c]? =some b->F (c,b)=F' c)->((bE bs.length).zip bs).filterMap F=(bE bs.length).filterMap F':=by
 have key:∀(bs:List α)(k:Nat),(∀c b,bs[c]? =some b->F (k+c,b)=F' (k+c))->((d4 k bs.length).zip bs).filterMap F=(d4 k bs.length).filterMap F':=by
  intro bs;induction bs with|nil=>intro k _;rfl|cons b bs ih=>intro k h;rw[aZ,sS,mx,bI,bI];have e:=h 0 b rfl;rw[Mg]at e;rw[e,ih (k+1) λc b' hc=>by have:=h (c+1) b' (by rw[gU];exact hc);rw[show k+1+c=k+(c+1) by omega];exact this]
 intro bs h;rw[vC];exact key bs 0 λc b hc=>by rw[pJ];exact h c b hc
theorem Jr(hb:b<g.nons):so g b (g.rules.length+1)=cr g b:=by
 rw[xP,pU];show _++(if g.nons=b then _ else _)=_;rw[if_neg (by omega),cz];unfold so cr tE;refine(LD λj r hj=>?_).symm;show(if r.lhs==b then some (hX j 0)else none)=_;rw[uH hj];unfold hX;by_cases h:r.lhs=b
 ·rw[if_pos h,if_pos (by rw[beq_iff_eq];exact h)];rfl
 ·rw[if_neg h,if_neg (by rw[beq_iff_eq];exact h)]
theorem PY(F:lg K "first_items" "first_items" A0 f fd)(T:Gm mg)(TT:AX K C):dQ P w K mg base ki 1 f fd ["table","nonterminal"] (Jp C):=by
 refine F.ok Jq (λvs H Q E h=>?_) (λgl A bN s H vs Q E hr h=>?_)
 ·obtain⟨a,g,ls,lm,lw,b,rfl,_⟩:=h;rfl
 ·obtain⟨a,g,ls,lm,lw,b,rfl,G,⟨dx,lr,lc,lo,as,cs,h1,h2,h3,h4,h5,h6⟩,hb,k⟩:=h;have nd:=Jq.nd;have hsz:al=16777216:=bR;have dX:=a6 h3;rw[xG]at dX;have h60:=G.fD;refine⟨_,aJ (bG (qb (own:=[("number",2),("rule",3)]) rfl nd (xo rfl T.nu (af (cE (pv 0) rfl) aD)) (gi (N:=["table","nonterminal","number","rule"]) (sc:=a5 A0) (by decide+kernel)) (λ_ _ _ _ _=>NG (K:=K) (n:=2) rfl rfl (gT (nr 2 nd) (gT (nr 3 nd) pY))) (λ_ _ _ _ _=>se (bY g8 (ft (xH (K:=K) rfl) (pv 3) aR) (pv 1) (ck _))) (λ_ _ _ _ _=>ii (af (pv 2) (af aR aD))))),?_⟩;refine⟨_,rfl,a,C,dx,_,_,rfl,h1,TT.cl,TT.YL,v_,lr,_,rfl,cv.of h2,λD hD=>?_⟩;refine W9 (K:=K) (a:=lr) (xs:=as.map V.ref) (λi H3=>aE H H3/\∃us:List ah,H3 D=some (.be (us.map V.ref))/\dY H3 (so g b i) us) ⟨aE.aP hD,[],ai,.nil⟩ (λi H3 _ ⟨s4,_⟩=>cv.of (s4 _ _ h2)) ?_ ?_
  ·rintro i x H3 T' hi ⟨s3,us,li,Ew⟩ F5;obtain⟨ra,e,rfl⟩:=dk hi;obtain⟨r,hy,mW⟩:=b0 h3 e;have al6:i<=g.rules.length:=by have:=(ao.mp e).1;omega
   rw[oJ al6]at hy;have er:=ax hy;subst er;have hl:(iz g (aO g i)).lhs=(aO g i).lhs:=rfl;have s4:aE H (aP H3 T' (.bV [.int (i:Nat),.ref ra])):=aE.kj s3 F5;have t4:aE H3 (aP H3 T' (.bV [.int (i:Nat),.ref ra])):=aE.aP F5;have vx:=t4 _ _ li;have abJ:=Ew.keeps t4;refine⟨T',_,rfl,eh.of ai,rfl,_,_,rfl,_,_,rfl,rfl,rfl,?_⟩;generalize aP H3 T' (.bV [.int (i:Nat),.ref ra])=H4 at s4 vx abJ ⊢;obtain⟨tt,sq,ha4,_,_⟩:=mW.keeps s4;refine⟨_,rfl,ra,_,_,_,rfl,rfl,eh.of ha4,aN (j:=0) rfl,_,rfl,rfl,_,rfl,?_⟩;rw[xP];by_cases hc:(aO g i).lhs=b
   ·rw[if_pos hc];refine cF (dV (by rw[hl,hc])) ⟨_,rfl,(by show 2<=al;decide),λu hu=>?_⟩;have t5:aE H4 (aP H4 u (.bV [.int (i:Nat),.int 0])):=aE.aP hu;have Js:=t5 _ _ vx;have hu5:tj (aP H4 u (.bV [.int (i:Nat),.int 0])) (i*16) u:=by show _=some (HO.bV _);rw[ai,show i*16/16=i by omega,show i*16%16=0 by omega];rfl
    have Tz:us.length<=61:=by rw[<-a6 Ew];unfold so;refine aW (bL _ _) ?_;rw[fh];omega
    generalize aP H4 u (.bV [.int (i:Nat),.int 0])=H5 at t5 Js hu5 ⊢;refine⟨_,Js,by rw[a_];omega,λc o ec=>?_,us++[u],by rw[ai,aK];rfl,?_⟩
    ·rw[aF (aH ec hD)];exact t5 _ _ (s4 _ _ ec)
    ·have sb:aE (d6 [D] H5) (aP H5 D (.be (us.map V.ref++[V.ref u]))):=cS (ci _ _) (by simp);exact cJ ((dY.nt (d7 Js) (abJ.keeps t5)).keeps sb) (sb _ _ (bo.mpr ⟨λm=>d7 Js _ m _ hu5,hu5⟩))
   ·rw[if_neg hc,cz];exact bZ (mh (by rw[hl];omega)) ⟨s4,us,vx,abJ⟩
  ·rintro H3 ⟨s3,us,li,Ew⟩;rw[a_,<-dX,Jr hb]at Ew;exact k H3 D us s3 hD li Ew
theorem vy{α β:Type}{F:α->β->Prop}:∀{l:List α}{x:α}{m:List β},Paired F (l++[x]) m->∃m' y,m=m'++[y]/\Paired F l m'/\F x y
 | [],x,_,.cons r .nil=>⟨[],_,rfl,.nil,r⟩|a::l,x,_,.cons r t=>by obtain⟨m',y,e,h1,h2⟩:=vy (l:=l) t;exact⟨_::m',y,by rw[e];rfl,.cons r h1,h2⟩
theorem uw:∀(ds l:List Nat),(ds.foldl Mt.putIn l).length<=l.length+ds.length
 | [],l=>by simp|d::ds,l=>by rw[dm];have h1:=uw ds (Mt.putIn l d);have h2:=uV l d;rw[aZ];omega
abbrev F9:dZ:=mm 41
abbrev Xf:List bT:=["table","kernel","found","item","entered","waiting","symbol"]
inductive Co(C:ah)(vs:List V)(H:Hp)(Q:VK)(E_:XK):Prop
 |mk (a ka:ah) (g:aL) (ls lm lw:ah) (kr:List Nat) (kq:List ah) (_:vs=[.ref a,.ref ka]) (_:Good g) (_:jo C H g a ls lm lw) (_:H ka=some (.bV (kq.map V.ref))) (_:dY H kr kq) (_:sX g kr) (_:∀(H':Hp)(q:ah)(cc:List ah),aE H H'->H q=none->H' q=some (.be (cc.map V.ref))->dY H' (aV g kr) cc->Q (.ref q) H')
theorem Jt:bU Xf ["table","kernel"] (a5 F9):=ml
theorem tj.nt1(ha:∀xs,o≠.bV xs)(h:H a=some o){o':HO}(hq:tj H c q):tj (aP H a o') c q:=by
 have wu:H q=some (.bV [nV (c/16),nV (c%16)]):=hq;show aP H a o' q=_;rw[aF λz=>by rw[z,h]at wu;exact ha _ (ax wu)]
 exact hq
theorem dY.nt1(ha:∀xs,o≠.bV xs)(h:H a=some o){o':HO}(hq:dY H l qs):dY (aP H a o') l qs:=Paired.gJ hq λ_ _ z=>tj.nt1 ha h z
theorem PZ(F:lg K "closed" "closed" F9 f fd)(T:Gm mg)(GN:jL P w K mg base "next_symbol" 1 ["table","item"] (Cn C))(GF:jL P w K mg base "first_items" 1 ["table","nonterminal"] (Jp C)):dQ P w K mg base ki 2 f fd ["table","kernel"] (Co C):=by
 refine F.ok Jt (λvs H Q E h=>?_) (λgl A bN s H vs Q E hr h=>?_)
 ·obtain⟨a,ka,g,ls,lm,lw,kr,kq,rfl,_⟩:=h;rfl
 ·obtain⟨a,ka,g,ls,lm,lw,kr,kq,rfl,G,hT,hK,hI,ok,k⟩:=h;have nd:=Jt.nd;have hu:=m5 hr;have hsz:al=16777216:=bR;have dX:=a6 hI;have hkl:kr.length<=976:=jz ok.J9 λc hc=>oF G (ok.ok c hc);refine⟨_,am (g9 2 nd qX) (am (fQ bi rfl (yG (pv 1)) (nr 3 nd) (aJ (lI hu (pv 2) (pv 3) lD rfl))) (am (g9 4 nd qX) (am (g9 5 nd (qU FG rfl T.list (by decide+kernel) (af (pv 1) aD))) (am (mN bi (xc (pv 5) (λ_=>rfl)) (am (g9 6 nd (cO GN hr (aB _) rfl (af (pv 0) (af (Sm bf wq Hw Sn (pv 5)) aD)))) (am (dD (PW.pt (Em (bY og (pv 6) gd (ck _)) (Em (bY Iu (ft cw (pv 6) aR) (lQ T.nt rfl) (ck _)) (KJ (Fx (Sx hu (pv 6) (pv 4))))))) (aJ Io) b5) (am (lI hu (pv 4) (pv 6) lD rfl) (aJ (fQ bi rfl (fA (cO GF hr (aB _) rfl (af (pv 0) (af (ft cw (pv 6) aR) aD)))) (nr 3 nd) (am (lI hu (pv 2) (pv 3) lD rfl) (aJ (fz (i_ bf bv bx d_ (pv 5) (af (pv 3) aD))))))))))) (aJ (bG (cg (IW rfl) rfl T.sorted (by decide+kernel) (af (pv 2) aD)))))))),?_⟩;refine λd hd=>?_;have s1:aE H (aP H d (.dT [])):=aE.aP hd;refine⟨_,rfl,ka,rfl,⟨_,eh.of (s1 _ _ hK)⟩,MM (K:=K) (a:=ka) (xs:=kq.map V.ref) (λi σ H'=>∃v3:Option V,σ=[some (.ref a),some (.ref ka),some (.ref d),v3,none,none,none]/\H' d=some (.dT (tD qf ((kr.take i).foldl Mt.putIn [])))/\aE H H') ⟨none,rfl,ai,s1⟩ (λi σ H' _ ⟨_,_,_,s2⟩=>eh.of (s2 _ _ hK)) ?_ ?_⟩
  ·rintro i x σ H' hi ⟨v3,rfl,hD,s2⟩;obtain⟨q,e,rfl⟩:=dk hi;obtain⟨c,hy,mW⟩:=b0 hI e;have Y2:H' q=some (.bV ((qf c).map kV)):=s2 _ _ mW;have hl:((kr.take i).foldl Mt.putIn []).length<=976:=by have:=uw (kr.take i) [];rw[a4]at this;simp only[g0]at this;omega
   refine⟨_,rfl,_,rfl,d,_,rfl,s_.t hD Y2 (by rw[LB];omega),?_⟩;rw[LA yX,oT hy];refine⟨_,rfl,ai,λb o eb=>?_⟩;rw[aF (aH eb hd)];exact s2 _ _ eb
  ·rintro σ H1 ⟨v3,rfl,Tq,s2⟩;rw[a_,<-dX,a8]at Tq;refine λe he=>?_;have hde:d≠e:=aH Tq he;have hHe:H e=none:=s2.free he;have s3:aE H (aP H1 e (.dT [])):=aE.kj s2 he;have QO:aP H1 e (.dT []) d=some (.dT (tD qf (kr.foldl Mt.putIn []))):=by rw[aF hde];exact Tq
   have hE2:aP H1 e (.dT []) e=some (.dT (tD gK [])):=ai;generalize aP H1 e (.dT [])=H2 at s3 QO hE2 ⊢;refine⟨_,rfl,ka,_,rfl,.inr (eh.of (s3 _ _ hK)),λt ht=>?_⟩;have hHt:H t=none:=s3.free ht;have yh:d≠t:=aH QO ht;have het:e≠t:=aH hE2 ht;have s4:aE H (aP H2 t (.be (kq.map V.ref))):=aE.kj s3 ht;refine⟨λm σ H'=>∃(gq cQ fN:List Nat)(ws:List ah)(v3 v6:Option V),m=61*(g.nons-cQ.length)+fN.length/\σ=[some (.ref a),some (.ref ka),some (.ref d),v3,some (.ref e),some (.ref t),v6]/\H' d=some (.dT (tD qf gq))/\H' e=some (.dT (tD gK cQ))/\H' t=some (.be (ws.map V.ref))/\dY H' fN ws/\aE H H'/\Vn g kr gq cQ fN/\61*(g.nons-cQ.length)+fN.length<=3000,⟨_,kr.foldl Mt.putIn [],[],kr,kq,v3,none,rfl,rfl,by rw[aF yh];exact QO,by rw[aF het];exact hE2,ai,hI.keeps s4,s4,Oq,by have:=G.tJ;simp only[g0];omega⟩,?_⟩;rintro m σ H' ⟨gq,cQ,fN,ws,v3,v6,rfl,rfl,hD,hE,hL,hW,s5,R,agb⟩;refine⟨_,rfl,_,.inl ⟨_,cv.of hL,rfl⟩,?_⟩;rcases Mq fN with rfl|⟨w',c,ew⟩
   ·cases hW;refine bZ rfl ?_;have xq:(tD qf gq).map (·.1)=(gq.map T_).map λk=>k.map bJ:=by unfold tD;rw[bS,bS];rfl
    refine⟨_,rfl,d,_,_,rfl,hD,xq,λk hk=>?_,λys p hp hs hH PB=>?_⟩
    ·obtain⟨c,_,rfl⟩:=aQ.mp hk;exact λz=>nomatch z
    ·refine k _ p (ys.map (·.2)) (aE.kj s5 PB) (s5.free PB) ?_ ?_
     ·rw[ai,bS];rfl
     ·exact(LC hp hs hH R.nd (Ro R) (Eb ok.J9)).keeps (aE.aP PB)
   ·rw[Mr]at ew;subst ew;obtain⟨DF,q,rfl,hW',hq⟩:=vy hW;have j8:(!((DF++[q]).map V.ref).isEmpty)=true:=by simp
    have zO:((DF++[q]).map V.ref)[((DF++[q]).map V.ref).length-1]? =some (V.ref q):=by simp
    have DD:((DF++[q]).map V.ref).dropLast=DF.map V.ref:=by simp
    refine cF j8 ⟨_,λ_ _ z=>z,?_⟩;refine⟨_,rfl,_,rfl,.inl ⟨rfl,_,cv.of hL⟩,t,_,_,rfl,rfl,hL,zO,?_⟩;rw[DD];have s6:aE H (aP H' t (.be (DF.map V.ref))):= λb o eb=>by rw[aF (aH eb hHt)];exact s5 _ _ eb
    have hD6:aP H' t (.be (DF.map V.ref)) d=some (.dT (tD qf gq)):=by rw[aF yh];exact hD
    have VA:aP H' t (.be (DF.map V.ref)) e=some (.dT (tD gK cQ)):=by rw[aF het];exact hE
    have Vx:aP H' t (.be (DF.map V.ref)) t=some (.be (DF.map V.ref)):=ai;have hW6:dY (aP H' t (.be (DF.map V.ref))) w' DF:=dY.nt1 (by intro xs z;cases z) hL hW';have hq6:tj (aP H' t (.be (DF.map V.ref))) c q:=tj.nt1 (by intro xs z;cases z) hL hq;generalize aP H' t (.be (DF.map V.ref))=H6 at s6 hD6 VA Vx hW6 hq6 ⊢;have hcf:c∈gq:=R.Ff c (by simp);have hco:lK g c:=rK ok.ok c (R.sub c hcf);have QK:61*(g.nons-cQ.length)+w'.length<61*(g.nons-cQ.length)+(w'++[c]).length:=by simp
    have skip:∀(v6:Option V),(∀b,bq g c=some (.non b)->b∈cQ)->∃m',m'<61*(g.nons-cQ.length)+(w'++[c]).length/\∃(Ub xQ fN:List Nat)(ws:List ah)(v3' v6':Option V),m'=61*(g.nons-xQ.length)+fN.length/\
     ([some (.ref a),some (.ref ka),some (.ref d),v3,some (.ref e),some (.ref t),v6]:List (Option V))=[some (.ref a),some (.ref ka),some (.ref d),v3',some (.ref e),some (.ref t),v6']/\
     H6 d=some (.dT (tD qf Ub))/\H6 e=some (.dT (tD gK xQ))/\H6 t=some (.be (ws.map V.ref))/\dY H6 fN ws/\aE H H6/\Vn g kr Ub xQ fN/\61*(g.nons-xQ.length)+fN.length<=3000:=
     λv6 hn=>⟨_,QK,gq,cQ,w',DF,v3,v6,rfl,rfl,hD6,VA,Vx,hW6,s6,Rn R hn,by omega⟩
    refine⟨a,q,g,ls,lm,lw,c,rfl,hT.keeps s6,hq6,hco,λen=>?_,λy sq en NK=>?_⟩
    ·refine⟨_,rfl,rfl,_,rfl,cF rfl ?_⟩;exact skip _ λb z=>by rw[en]at z;cases z
    ·have Ju:H6 sq=some (.bV (v1 (o1 g y))):=NK;cases y with
     |range lo hi=>refine⟨_,rfl,rfl,_,rfl,bZ rfl ⟨_,rfl,sq,_,_,_,rfl,rfl,eh.of Ju,aN (j:=0) rfl,rfl,_,rfl,cF rfl ?_⟩⟩;exact skip _ λb z=>by rw[en]at z;cases z
     |non b=>
      have VB:H6 sq=some (.bV ((gK b).map kV)):=NK;have Y3:b<g.nons:=ng G en;refine⟨_,rfl,rfl,_,rfl,bZ rfl ⟨_,rfl,sq,_,_,_,rfl,rfl,eh.of Ju,aN (j:=0) rfl,rfl,_,rfl,bZ rfl ⟨_,rfl,_,rfl,e,_,rfl,lx.t VA VB,_,rfl,?_⟩⟩⟩;rw[Lz nv];by_cases hb:b∈cQ
      ·rw[if_pos hb];refine cF rfl ?_;exact skip _ λb' z=>by
        rw[en]at z;have:b=b':=by injection (ax z)
        rw[<-this];exact hb
      ·rw[if_neg hb];have R2:=Ot G R en hb;have abK:=VZ R2;rw[aw,bp]at abK;have Cf:=G.tJ;have hfl:=Rp G ok.ok R;have hfr:=Ou G b;refine bZ rfl ⟨_,rfl,_,rfl,e,_,rfl,s_.t VA VB (by rw[LB];omega),?_⟩;rw[LA nv,EH hb];have s7:aE H (aP H6 e (.dT (tD gK (cQ++[b])))):= λx o ex=>by rw[aF (aH ex hHe)];exact s6 _ _ ex
       have hD7:aP H6 e (.dT (tD gK (cQ++[b]))) d=some (.dT (tD qf gq)):=by rw[aF hde];exact hD6
       have Lr:aP H6 e (.dT (tD gK (cQ++[b]))) e=some (.dT (tD gK (cQ++[b]))):=ai;have hL7:aP H6 e (.dT (tD gK (cQ++[b]))) t=some (.be (DF.map V.ref)):=by rw[aF het.symm];exact Vx
       have hW7:dY (aP H6 e (.dT (tD gK (cQ++[b])))) w' DF:=dY.nt1 (by intro xs z;cases z) VA hW6;have F_:aP H6 e (.dT (tD gK (cQ++[b]))) sq=some (.bV [.int 0,nV b]):=by rw[aF λz=>by rw[z,VA]at VB;cases VB];exact VB
       generalize aP H6 e (.dT (tD gK (cQ++[b])))=H7 at s7 hD7 Lr hL7 hW7 F_ ⊢;refine⟨_,rfl,_,rfl,sq,_,_,_,rfl,rfl,eh.of F_,aN (j:=1) rfl,a,g,ls,lm,lw,b,rfl,G,hT.keeps s7,Y3,λH8 fq cc s8 Xg hfq LF=>?_⟩;have nfd:fq≠d:= λz=>by rw[z,hD7]at Xg;cases Xg
       have nft:fq≠t:= λz=>by rw[z,hL7]at Xg;cases Xg
       have Yl:=a6 LF;have AW:∀x∈[d,t],∀xs,H8 x≠some (.bV xs):= λx hx xs ex=>by
        have Dl:x=d\/x=t:=by simpa using hx
        rcases Dl with z|z
        ·rw[z,s8 _ _ hD7]at ex;cases ex
        ·rw[z,s8 _ _ hL7]at ex;cases ex
       have hfb:d6 [d,t] H8 fq=some (.be (cc.map V.ref)):=bo.mpr ⟨by simp[nfd,nft],hfq⟩;have hib:dY (d6 [d,t] H8) (cr g b) cc:=dY.nt AW LF;have hwb:dY (d6 [d,t] H8) w' DF:=dY.nt AW (hW7.keeps s8);have heb:d6 [d,t] H8 e=some (.dT (tD gK (cQ++[b]))):=bo.mpr ⟨by simp[hde.symm,het],s8 _ _ Lr⟩;have keep:∀{H9:Hp},aE (d6 [d,t] H8) H9->aE H H9:= λ{H9} z x o ex=>z x o (bo.mpr ⟨λm=>(by
        have Dl:x=d\/x=t:=by simpa using m
        rcases Dl with y|y
        ·rw[y,hd]at ex;cases ex
        ·rw[y,hHt]at ex;cases ex),s8 _ _ (s7 _ _ ex)⟩)
       refine⟨fq,rfl,⟨_,cv.of hfq⟩,ig (K:=K) (a:=fq) (xs:=cc.map V.ref) (λi σ H9=>∃v3:Option V,σ=[some (.ref a),some (.ref ka),some (.ref d),v3,some (.ref e),some (.ref t),some (.ref sq)]/\H9 d=some (.dT (tD qf (((cr g b).take i).foldl Mt.putIn gq)))/\H9 t=some (.be ((DF++cc.take i).map V.ref))/\aE (d6 [d,t] H8) H9) ⟨v3,rfl,s8 _ _ hD7,by rw[qm,cz];exact s8 _ _ hL7,ci _ _⟩ (λi σ H9 _ ⟨_,_,_,_,s9⟩=>cv.of (s9 _ _ hfb)) ?_ ?_⟩
       ·rintro i x σ H9 hi ⟨v3,rfl,Xh,TC,s9⟩;obtain⟨ia,ei,rfl⟩:=dk hi;obtain⟨c2,PF,F2⟩:=b0 hib ei;have hk9:H9 ia=some (.bV ((qf c2).map kV)):=s9 _ _ F2;have hl9:(((cr g b).take i).foldl Mt.putIn gq).length<=1036:=by have:=uw ((cr g b).take i) gq;rw[a4]at this;omega
        refine⟨_,rfl,_,rfl,d,_,rfl,s_.t Xh hk9 (by rw[LB];omega),?_⟩;rw[LA yX,oT PF];have TD:aP H9 d (.dT (tD qf (Mt.putIn (((cr g b).take i).foldl Mt.putIn gq) c2))) t=some (.be ((DF++cc.take i).map V.ref)):=by rw[aF yh.symm];exact TC
        have al9:=a6 hW';refine⟨_,rfl,.inl ⟨rfl,_,cv.of TD⟩,_,rfl,t,_,_,rfl,rfl,TD,?_,?_⟩
        ·rw[a_,aw,a4,<-al9];rw[aw,bp]at agb;omega
        ·refine⟨_,rfl,by rw[aF yh,ai],?_,cS (cS s9 (by simp)) (by simp)⟩;rw[ai,bQ,ei];simp
       ·rintro σ H9 ⟨v3,rfl,Xh,TC,s9⟩;rw[a_,<-Yl,a8]at Xh;rw[a_,a8]at TC;have hm:61*(g.nons-(cQ++[b]).length)+(w'++cr g b).length<61*(g.nons-cQ.length)+(w'++[c]).length:=by simp only[aw,bp];omega
        exact⟨_,hm,_,_,_,DF++cc,v3,some (.ref sq),rfl,rfl,Xh,s9 _ _ heb,TC,pc (hwb.keeps s9) (hib.keeps s9),keep s9,R2,by omega⟩
def gD{κ:Type}(kf:Nat->κ)(ks:List Nat)(vf:Nat->V):List (κ×V):=ks.map λb=>(kf b,vf b)
theorem ux{κ:Type}[DecidableEq κ]{kf:Nat->κ}(hk:∀a b,kf a=kf b->a=b)(ks:List Nat)(vf:Nat->V)(b:Nat):iV (gD kf ks vf) (kf b)=if b∈ks then some (vf b)else none:=by
 induction ks with
 |nil=>rfl|cons a l ih=>
  show iV ((kf a,vf a)::gD kf l vf) _=_;by_cases e:a=b
  ·subst e;rw[nR rfl,if_pos (aC ..)]
  ·rw[nS (λz=>e (hk _ _ z)),ih];by_cases h:b∈l
   ·rw[if_pos h,if_pos (az _ h)]
   ·rw[if_neg h,if_neg λz=>by
     rcases aU.mp z with q|q
     ·exact e q.symm
     ·exact h q]
theorem Uc{κ:Type}{kf:Nat->κ}{vf vf':Nat->V}(h:∀k∈ks,vf k=vf' k):gD kf ks vf=gD kf ks vf':=cZ λk hk=>by rw[h k hk]
theorem LG{κ:Type}[DecidableEq κ]{kf:Nat->κ}(hk:∀a b,kf a=kf b->a=b){vf vf':Nat->V}(h:b∉ks)(h1:∀k∈ks,vf' k=vf k):kJ (gD kf ks vf) (kf b) (vf' b)=gD kf (ks++[b]) vf':=by rw[nU _ (by rw[ux hk,if_neg h]),<-Uc h1];unfold gD;rw[aK];rfl
theorem LH{κ:Type}(kf:Nat->κ)(ks:List Nat)(vf:Nat->V):(gD kf ks vf).length=ks.length:=aq _
def enK(b:Nat):List Int:=[0,(b:Int)]
theorem Xi{a:Nat}(h:enK a=enK b):a=b:=by have:=(da (da h).2).1;omega
theorem Xj{d:Nat}(h:Ex.Aq (enK d) (enK c)=false)(j8:c≠d):c<d:=by unfold enK at h;simp only[Ex.Aq,ox,decide_eq_false_iff_not]at h;obtain⟨_,h2⟩:=h;have h4:(!decide ((0:Int)<0))=true:=rfl;rw[h4,Hv]at h2;simp only[ox,decide_eq_false_iff_not]at h2;omega
theorem P0{kf:Nat->List Int}(inj:∀{a b:Nat},kf a=kf b->a=b)(kg:∀{c d:Nat},Ex.Aq (kf d) (kf c)=false->c≠d->c<d){ys:List (List Int×ah)}{fl:List Nat}(hp:(ys.map (·.1)).Perm (fl.map kf))(hs:ys.Pairwise λx y=>Ex.Aq y.1 x.1=false)(hH:∀y∈ys,H y.2=some (.bV (y.1.map V.int)))(hn:fl.Nodup)(hm:∀c,c∈fl↔c∈l)(hl:pq l):Paired (λc q=>H q=some (.bV ((kf c).map V.int))) l (ys.map (·.2)):=by
 have o7:∀y∈ys,∃c∈fl,y.1=kf c:= λy hy=>by obtain⟨c,hc,e⟩:=aQ.mp (hp.mem_iff.mp (aQ.mpr ⟨y,hy,rfl⟩));exact⟨c,hc,e.symm⟩
 have Z2:(ys.map (·.1)).Nodup:=by rw[hp.nodup_iff];exact dF.mpr (hn.imp λ{a b} ne e=>ne (inj e))
 have hex:∀zs:List (List Int×ah),(∀y∈zs,y∈ys)->∃cs:List Nat,zs.map (·.1)=cs.map kf/\Paired (λc q=>H q=some (.bV ((kf c).map V.int))) cs (zs.map (·.2)):=by
  intro zs;induction zs with
  |nil=>intro _;exact⟨[],rfl,.nil⟩|cons y zs ih=>intro h;obtain⟨cs,e,p⟩:=ih λz hz=>h z (az _ hz);have hy:=h y (aC ..);obtain⟨c,_,e1⟩:=o7 y hy;refine⟨c::cs,by rw[aS,aS,e,e1],.cons ?_ p⟩;have:=hH y hy;rw[e1]at this;exact this
 obtain⟨cs,e,p⟩:=hex ys λy hy=>hy;have TJ:pq cs:=by have h1:(ys.map (·.1)).Pairwise λx y=>Ex.Aq y x=false:=dF.mpr hs;rw[e]at h1 Z2;exact(uY.mpr ⟨dF.mp h1,dF.mp Z2⟩).imp λ{x y} h=>kg h.1 λz=>h.2 (by rw[z])
 have el:cs=l:=wG TJ hl λx=>by
  rw[<-hm];constructor
  ·intro hx;have:kf x∈fl.map kf:=hp.mem_iff.mp (by rw[e];exact aQ.mpr ⟨x,hx,rfl⟩);obtain⟨c,hc,e2⟩:=aQ.mp this;rw[<-inj e2];exact hc
  ·intro hx;have:kf x∈cs.map kf:=by rw[<-e];exact hp.mem_iff.mpr (aQ.mpr ⟨x,hx,rfl⟩)
   obtain⟨c,hc,e2⟩:=aQ.mp this;rw[<-inj e2];exact hc
 rw[<-el];exact p
def kK(k:gH):List fE:=[bJ (k.kind:Int),bJ (k.over:Int)]
inductive Jv(H:Hp)(k:gH)(p:List fE×V):Prop
 |mk (_:p.1=kK k) (a:ah) (qs:List ah) (_:p.2= .ref a) (_:H a=some (.bV (qs.map V.ref))) (_:dY H k.jT qs)
def kL(H:Hp)(ks:List gH)(kvs:List (List fE×V)):Prop:=Paired (Jv H) ks kvs
theorem Jv.keeps(s:aE H H'){k:gH}{p:List fE×V}(h:Jv H k p):Jv H' k p:=by obtain⟨h1,a,qs,h2,h3,h4⟩:=h;exact⟨h1,a,qs,h2,s _ _ h3,h4.keeps s⟩
theorem kL.keeps(s:aE H H'){ks:List gH}{kvs:List (List fE×V)}(h:kL H ks kvs):kL H' ks kvs:=Paired.gJ h λ_ _ z=>z.keeps s
theorem Jv.nt(hS:∀b∈S,∀xs,H b≠some (.bV xs)){k:gH}{p:List fE×V}(h:Jv H k p):Jv (d6 S H) k p:=by obtain⟨h1,a,qs,h2,h3,h4⟩:=h;exact⟨h1,a,qs,h2,bo.mpr ⟨λm=>hS _ m _ h3,h3⟩,dY.nt hS h4⟩
theorem kL.nt(hS:∀b∈S,∀xs,H b≠some (.bV xs)){ks:List gH}{kvs:List (List fE×V)}(h:kL H ks kvs):kL (d6 S H) ks kvs:=Paired.gJ h λ_ _ z=>z.nt hS
structure Y4(H0 H:Hp)(g:aL)(s:List Nat)(d:ah)(ks:List Nat)(ad:Nat->ah):Prop where
 dict:H d=some (.dT (gD gK ks λb=> .ref (ad b)))
 nd:ks.Nodup
 mem:∀b,b∈ks↔bh g s b≠[]
 inj:∀b∈ks,∀b'∈ks,ad b=ad b'->b=b'
 new:∀b∈ks,H0 (ad b)=none
 be:∀b∈ks,∃qs:List ah,H (ad b)=some (.be (qs.map V.ref))/\dY H (bh g s b) qs
abbrev sKN:dZ:=mm 42
abbrev nKN:List bT:=["table","items","gathered","item","symbol","kernels"]
inductive NL(C:ah)(kf:aL->List Nat->List gH)(vs:List V)(H:Hp)(Q:VK)(E_:XK):Prop
 |mk (a la:ah) (g:aL) (ls lm lw:ah) (s:List Nat) (cc:List ah) (_:vs=[.ref a,.ref la]) (_:Good g) (_:jo C H g a ls lm lw) (_:H la=some (.be (cc.map V.ref))) (_:dY H s cc) (_:sX g s) (_:∀(H':Hp)(q:ah)(kvs:List (List fE×V)),aE H H'->H q=none->H' q=some (.dT kvs)->kL H' (kf g s) kvs->Q (.ref q) H')
theorem agc:bU nKN ["table","items"] (a5 sKN):=ml
theorem LI(G:Good g){y:mq}(h:bq g c=some y):c%16<15:=by have h1:=AO h;have h2:=Bi G (c/16);omega
theorem Jw:(bh g s b).length<=s.length:=bL _ _
theorem agd(F:lg K "kernels_over_nonterminals" "kernels_over_nonterminals" sKN f fd)(T:Gm mg)(GN:jL P w K mg base "next_symbol" 1 ["table","item"] (Cn C))(GO:jL P w K mg base "one_further" 1 ["item"] T9):dQ P w K mg base ki 2 f fd ["table","items"] (NL C mE):=by
 refine F.ok agc (λvs H Q E h=>?_) (λgl A bN s H vs Q E hr h=>?_)
 ·obtain⟨a,la,g,ls,lm,lw,s,cc,rfl,_⟩:=h;rfl
 ·obtain⟨a,la,g,ls,lm,lw,st,cc,rfl,G,hT,hA,hI,ok,k⟩:=h;have nd:=agc.nd;have hu:=m5 hr;have hsz:al=16777216:=bR;have dX:=a6 hI;have tG:st.length<=976:=jz ok.J9 λc hc=>oF G (ok.ok c hc);refine⟨_,am (g9 2 nd qX) (am (fQ bi rfl (fA (pv 1)) (nr 3 nd) (am (g9 4 nd (cO GN hr (aB _) rfl (af (pv 0) (af (pv 3) aD)))) (aJ (dD (PW.pt (r_ (bY MS (pv 4) gd (ck _)) (r9 (bY g8 (ft cw (pv 4) aR) (lQ T.nt rfl) (ck _))))) (aJ (fz (i_ bf bv bx d_ (i_ fX jR AK (WJ hu) (pv 2) (af (pv 4) (af (cV aD) aD))) (af (cO GO hr (aB _) rfl (af (pv 3) aD)) aD)))) b5)))) (am (g9 5 nd qX) (am (fQ bi rfl (fA (cg (IW rfl) rfl T.sorted (by decide+kernel) (af (pv 2) aD))) (nr 4 nd) (aJ (lI hu (pv 5) (pv 4) (qU nD rfl T.tuple (by decide+kernel) (af (uS hu (pv 2) (pv 4) (λ_ _=>rfl)) aD)) rfl))) (aJ (bG (pv 5)))))),?_⟩;refine λd hd=>?_;have s1:aE H (aP H d (.dT [])):=aE.aP hd;refine⟨_,rfl,la,rfl,⟨_,cv.of (s1 _ _ hA)⟩,ig (K:=K) (a:=la) (xs:=cc.map V.ref) (λi σ H'=>∃(v3 v4:Option V)(ks:List Nat)(ad:Nat->ah),σ=[some (.ref a),some (.ref la),some (.ref d),v3,v4,none]/\Y4 H H' g (st.take i) d ks ad/\aE H H') ⟨none,none,[],λ_=>d,rfl,⟨ai,jr,λb=>by simp[bh],λb hb=>by simp at hb,λb hb=>by simp at hb,λb hb=>by simp at hb⟩,s1⟩ (λi σ H' _ ⟨_,_,_,_,_,_,s2⟩=>cv.of (s2 _ _ hA)) ?_ ?_⟩
  ·rintro i x σ H' hi ⟨v3,v4,ks,ad,rfl,R,s2⟩;obtain⟨ia,e,rfl⟩:=dk hi;obtain⟨c,hy,mW⟩:=b0 hI e;have hco:=ok.ok c (aG hy);have jx:st.take (i+1)=st.take i++[c]:=by rw[bQ,hy];rfl
   rw[jx];have hti:(st.take i).length<=976:=by rw[a4];omega
   generalize st.take i=s0 at R hti ⊢;have skip:(∀b,bq g c≠some (.non b))->Y4 H H' g (s0++[c]) d ks ad:= λhn=>by have e1:∀b,bh g (s0++[c]) b=bh g s0 b:= λb=>(rP g s0 c b).2 (hn b);exact⟨R.dict,R.nd,λb=>by rw[e1];exact R.mem b,R.inj,R.new,λb hb=>by rw[e1];exact R.be b hb⟩
   refine⟨_,rfl,_,rfl,a,ia,g,ls,lm,lw,c,rfl,hT.keeps s2,mW.keeps s2,hco,λen=>?_,λy sq en NK=>?_⟩
   ·exact⟨_,rfl,rfl,_,rfl,bZ rfl (bZ rfl ⟨_,_,ks,ad,rfl,skip (λb z=>by rw[en]at z;cases z),s2⟩)⟩
   ·have Ju:H' sq=some (.bV (v1 (o1 g y))):=NK;cases y with
    |range lo hi=>exact⟨_,rfl,rfl,_,rfl,cF rfl ⟨_,rfl,sq,_,_,_,rfl,rfl,eh.of Ju,aN (j:=0) rfl,rfl,_,rfl,bZ rfl ⟨_,_,ks,ad,rfl,skip (λb z=>by rw[en]at z;cases z),s2⟩⟩⟩|non b=>
     have VB:H' sq=some (.bV ((gK b).map kV)):=NK;have Y3:b<g.nons:=ng G en;have Cf:=G.tJ;have hkl:ks.length<=20:=by refine aW (o4 R.nd λx hx=>?_) Cf;obtain⟨z,zs,ez⟩:=lq ((R.mem x).mp hx);obtain⟨c',_,h',_⟩:=nN.mp (show z∈bh g s0 x by rw[ez];simp);exact ng G h'
     have eb:=(rP g s0 c b).1 en;have eo:∀b',b'≠b->bh g (s0++[c]) b'=bh g s0 b':= λb' j8=>(rP g s0 c b').2 λz=>by rw[en]at z;injection (ax z)with z';exact j8 z'.symm
     refine⟨_,rfl,rfl,_,rfl,cF rfl ⟨_,rfl,sq,_,_,_,rfl,rfl,eh.of Ju,aN (j:=0) rfl,rfl,_,rfl,cF rfl ?_⟩⟩;refine⟨_,rfl,.inr (.inr (.inl ⟨rfl,.inr ⟨_,R.dict⟩⟩)),_,rfl,bj _,λl0 Av=>?_⟩;have t1:aE H' (aP H' l0 (.be [])):=aE.aP Av;have tf:=t1 _ _ R.dict;refine⟨d,sq,_,gK b,_,rfl,rfl,tf,t1 _ _ VB,by rw[LH];omega,λv hv=>?_,λhv=>?_⟩
     ·rw[ux nv]at hv;by_cases hb:b∈ks
      ·rw[if_pos hb]at hv;have ev:=ax hv;subst ev;obtain⟨qs,hq,P1⟩:=R.be b hb;refine⟨.inl ⟨rfl,_,cv.of (t1 _ _ hq)⟩,_,rfl,ia,c,rfl,(mW.keeps s2).keeps t1,LI G en,λH3 u s3 hu0 hu=>?_⟩;have zR:=s3 _ _ (t1 _ _ hq);have t3:aE H' H3:=t1.trans s3;have yU:qs.length<=976:=by rw[<-a6 P1];exact aW Jw hti
       refine⟨ad b,_,_,rfl,rfl,zR,by rw[a_];omega,?_⟩;have AW:=d7 zR;have sb:aE (d6 [ad b] H3) (aP H3 (ad b) (.be (qs.map V.ref++[V.ref u]))):=cS (ci _ _) (by simp);have hdn:d≠ad b:= λz=>by rw[<-z,t3 _ _ R.dict]at zR;cases zR
       refine⟨_,_,ks,ad,rfl,⟨by rw[aF hdn];exact t3 _ _ R.dict,R.nd,λb'=>?_,R.inj,R.new,λb' HS=>?_⟩,λx o ex=>?_⟩
       ·by_cases QJ:b'=b
        ·subst QJ;rw[eb];exact⟨λ_=>by simp,λ_=>hb⟩
        ·rw[eo b' QJ];exact R.mem b'
       ·by_cases QJ:b'=b
        ·subst QJ;rw[eb];exact⟨qs++[u],by rw[ai,aK];rfl,cJ ((dY.nt AW (P1.keeps t3)).keeps sb) (sb _ _ (bo.mpr ⟨λm=>AW _ m _ hu,hu⟩))⟩
        ·rw[eo b' QJ];obtain⟨VC,wu,abN⟩:=R.be b' HS;exact⟨VC,by rw[aF λz=>QJ (R.inj b' HS b hb z)];exact t3 _ _ wu,(dY.nt AW (abN.keeps t3)).keeps sb⟩
       ·rw[aF (aH ex (R.new b hb))];exact t3 _ _ (s2 _ _ ex)
      ·rw[if_neg hb]at hv;cases hv
     ·have hb:b∉ks:= λhb=>by rw[ux nv,if_pos hb]at hv;cases hv
      have abO:bh g s0 b=[]:=kR λz=>hb ((R.mem b).mpr z);have hld:d≠l0:=aH R.dict Av;have Ud:kJ (gD gK ks λb=>V.ref (ad b)) (gK b) (V.ref l0)=gD gK (ks++[b]) λx=>V.ref (if x=b then l0 else ad x):=by
       have:=LG (vf:= λb=>V.ref (ad b)) (vf':= λx=>V.ref (if x=b then l0 else ad x)) nv hb λx hx=>by show V.ref (if x=b then l0 else ad x)=_;rw[if_neg λz=>hb (by rw[<-z];exact hx)]
       simp only[if_true]at this;exact this
      rw[Ud];have oR:aP (aP H' l0 (.be [])) d (.dT (gD gK (ks++[b]) λx=>V.ref (if x=b then l0 else ad x))) l0=some (.be []):=by rw[aF hld.symm,ai]
      have Dz:aP (aP H' l0 (.be [])) d (.dT (gD gK (ks++[b]) λx=>V.ref (if x=b then l0 else ad x))) d=some (.dT (gD gK (ks++[b]) λx=>V.ref (if x=b then l0 else ad x))):=ai;have sb2:aE (d6 [d] H') (aP (aP H' l0 (.be [])) d (.dT (gD gK (ks++[b]) λx=>V.ref (if x=b then l0 else ad x)))):= λx o ex=>by obtain⟨h1,h2⟩:=bo.mp ex;rw[aF (by simpa using h1)];exact t1 _ _ h2
      generalize aP (aP H' l0 (.be [])) d (.dT (gD gK (ks++[b]) λx=>V.ref (if x=b then l0 else ad x)))=H2 at oR Dz sb2 ⊢;have noD:∀x∈[d],∀xs,H' x≠some (.bV xs):= λx hx xs ex=>by
       have:x=d:=by simpa using hx
       rw[this,R.dict]at ex;cases ex
      have F2:tj H2 c ia:=sb2 _ _ (bo.mpr ⟨λm=>noD _ m _ (mW.keeps s2),mW.keeps s2⟩);refine⟨.inl ⟨rfl,_,cv.of oR⟩,_,rfl,ia,c,rfl,F2,LI G en,λH3 u s3 hu0 hu=>?_⟩;have u7:=s3 _ _ oR;refine⟨l0,_,_,rfl,rfl,u7,(by show 0<al;omega),?_⟩;have AW:=d7 u7;have sb:aE (d6 [l0] H3) (aP H3 l0 (.be ([]++[V.ref u]))):=cS (ci _ _) (by simp);have t4:aE (d6 [d] H') (aP H3 l0 (.be ([]++[V.ref u]))):= λx o ex=>by have h2:=(bo.mp ex).2;rw[aF (aH h2 Av)];exact s3 _ _ (sb2 _ _ ex)
      refine⟨_,_,ks++[b],λx=>if x=b then l0 else ad x,rfl,⟨by rw[aF hld];exact s3 _ _ Dz,?_,λb'=>?_,λb1 h1 b2 h2 ee=>?_,λb' HS=>?_,λb' HS=>?_⟩,λx o ex=>?_⟩
      ·rw[f_];exact⟨R.nd,by simp,λx hx y hy e=>hb (by
        have:y=b:=by simpa using hy
        rw[<-this,<-e];exact hx)⟩
      ·rw[bC];by_cases QJ:b'=b
       ·subst QJ;rw[eb];exact⟨λ_=>by simp,λ_=> .inr (by simp)⟩
       ·rw[eo b' QJ,<-R.mem b'];exact⟨λz=>z.elim id λz=>absurd (by simpa using z) QJ,λz=> .inl z⟩
      ·have m1:b1∈ks\/b1=b:=by simpa using h1
       have m2:b2∈ks\/b2=b:=by simpa using h2
       have nl:∀x∈ks,ad x≠l0:= λx hx z=>by obtain⟨qs,hq,_⟩:=R.be x hx;rw[z,Av]at hq;cases hq
       by_cases e1:b1=b
       ·by_cases e2:b2=b
        ·rw[e1,e2]
        ·simp only[if_pos e1,if_neg e2]at ee;exact absurd ee.symm (nl b2 (m2.resolve_right e2))
       ·by_cases e2:b2=b
        ·simp only[if_neg e1,if_pos e2]at ee;exact absurd ee (nl b1 (m1.resolve_right e1))
        ·simp only[if_neg e1,if_neg e2]at ee;exact R.inj b1 (m1.resolve_right e1) b2 (m2.resolve_right e2) ee
      ·by_cases e1:b'=b
       ·show H (if b'=b then l0 else ad b')=none;rw[if_pos e1];exact s2.free Av
       ·show H (if b'=b then l0 else ad b')=none;rw[if_neg e1];have m1:b'∈ks\/b'=b:=by simpa using HS
        exact R.new b' (m1.resolve_right e1)
      ·by_cases e1:b'=b
       ·subst e1;rw[eb,abO];refine⟨[u],?_,.cons (sb _ _ (bo.mpr ⟨λm=>AW _ m _ hu,hu⟩)) .nil⟩;show aP H3 l0 _ (if b'=b' then l0 else ad b')=_;rw[if_pos rfl,ai];rfl
       ·have m1:b'∈ks:=by
         have:b'∈ks\/b'=b:=by simpa using HS
         exact this.resolve_right e1
        obtain⟨VC,wu,abN⟩:=R.be b' m1;rw[eo b' e1];refine⟨VC,?_,(dY.nt noD abN).keeps t4⟩;show aP H3 l0 _ (if b'=b then l0 else ad b')=_;rw[if_neg e1];refine t4 _ _ (bo.mpr ⟨λm=>?_,wu⟩);have:ad b'=d:=by simpa using m
        rw[this,R.dict]at wu;cases wu
      ·refine t4 x o (bo.mpr ⟨λm=>?_,s2 _ _ ex⟩);have:x=d:=by simpa using m
       rw[this,hd]at ex;cases ex
  ·rintro σ H1 ⟨v3,v4,ks,ad,rfl,R,s2⟩;rw[a_,<-dX,a8]at R;refine λe he=>?_;have hHe:H e=none:=s2.free he;have s3:aE H1 (aP H1 e (.dT [])):=aE.aP he;have hde:d≠e:=aH R.dict he;have xq:(gD gK ks λb=>V.ref (ad b)).map (·.1)=(ks.map enK).map λk=>k.map bJ:=by unfold gD;rw[bS,bS];rfl
   refine⟨_,rfl,d,_,_,rfl,s3 _ _ R.dict,xq,λk hk=>?_,λys p hp hs hH PB=>?_⟩
   ·obtain⟨c,_,rfl⟩:=aQ.mp hk;exact λz=>nomatch z
   ·have NM:=P0 (kf:=enK) Xi Xj hp hs hH R.nd (l:=lB g st) (λx=>by rw[R.mem,wQ G]) (wR g st);have s4:aE (aP H1 e (.dT [])) (aP (aP H1 e (.dT [])) p (.be (ys.map λy=>V.ref y.2))):=aE.aP PB;have YX:aP (aP H1 e (.dT [])) p (.be (ys.map λy=>V.ref y.2)) p=some (.be ((ys.map (·.2)).map V.ref)):=by rw[ai,bS];rfl
    have V9:aP (aP H1 e (.dT [])) p (.be (ys.map λy=>V.ref y.2)) e=some (.dT []):=s4 _ _ ai;have hpe:p≠e:= λz=>by rw[z,ai]at PB;cases PB
    have Xk:aE H1 (aP (aP H1 e (.dT [])) p (.be (ys.map λy=>V.ref y.2))):=s3.trans s4;have xR:=Paired.gJ NM (λc q z=>s4 _ _ z);generalize ys.map (·.2)=sy at NM xR YX;generalize aP (aP H1 e (.dT [])) p (.be (ys.map λy=>V.ref y.2))=H4 at Xk s4 YX V9 xR ⊢;have hyl:=a6 xR;have noE:∀x∈[e],∀xs,H4 x≠some (.bV xs):= λx hx xs ex=>by
     have:x=e:=by simpa using hx
     rw[this,V9]at ex;cases ex
    have inE:∀{x:ah}{o:HO},H1 x=some o->d6 [e] H4 x=some o:= λ{x o} hx=>bo.mpr ⟨by simpa using aH hx he,Xk _ _ hx⟩;have hpb:d6 [e] H4 p=some (.be (sy.map V.ref)):=bo.mpr ⟨by simpa using hpe,YX⟩;have Cf:=G.tJ;have Xl:(lB g st).length<=20:=by unfold lB;refine aW (cp _ _) ?_;rw[fh];exact Cf
    refine⟨p,rfl,⟨_,cv.of YX⟩,ig (K:=K) (a:=p) (xs:=sy.map V.ref) (λi σ H'=>∃(v4:Option V)(kvs:List (List fE×V)),σ=[some (.ref a),some (.ref la),some (.ref d),v3,v4,some (.ref e)]/\H' e=some (.dT kvs)/\kvs.map (·.1)=((lB g st).take i).map gK/\kL H' (((lB g st).take i).map λb=>⟨0,b,bh g st b⟩) kvs/\aE (d6 [e] H4) H') ⟨v4,[],rfl,V9,rfl,.nil,ci _ _⟩ (λi σ H' _ ⟨_,_,_,_,_,_,s5⟩=>cv.of (s5 _ _ hpb)) ?_ ?_⟩
    ·rintro i x σ H' hi ⟨v4,kvs,rfl,hE,hkk,Fa,s5⟩;obtain⟨sq,ei,rfl⟩:=dk hi;obtain⟨b,hy,mW⟩:=b0 xR ei;have hbk:b∈ks:=by rw[R.mem,<-wQ G];exact aG hy
     obtain⟨qs,hq,P1⟩:=R.be b hbk;have VB:H' sq=some (.bV ((gK b).map kV)):=s5 _ _ (bo.mpr ⟨λm=>noE _ m _ mW,mW⟩);have dg:lx H' d (.ref sq) (some (.ref (ad b))):=by have:=lx.t (s5 _ _ (inE R.dict)) VB;rw[ux nv,if_pos hbk]at this;exact this
     have wu:=s5 _ _ (inE hq);have hkl:kvs.length=i:=by have:=congrArg i0 hkk;rw[aq,aq,a4]at this;have h2:=(ao.mp hy).1;omega
     have Yl:=(ao.mp hy).1;refine⟨_,rfl,_,rfl,d,_,rfl,dg,ad b,_,rfl,.inl ⟨cv.of wu,λu ma=>?_⟩⟩;have t6:aE H' (aP H' u (.bV (qs.map V.ref))):=aE.aP ma;have VA:=t6 _ _ hE;have hu6:aP H' u (.bV (qs.map V.ref)) u=some (.bV (qs.map V.ref)):=ai;have hk6:=t6 _ _ VB;have s6:aE (d6 [e] H4) (aP H' u (.bV (qs.map V.ref))):=s5.trans t6;have agg:=Fa.keeps t6;generalize aP H' u (.bV (qs.map V.ref))=H6 at t6 VA hu6 hk6 s6 agg ⊢;refine⟨_,rfl,_,rfl,e,_,rfl,s_.t VA hk6 (by omega),?_⟩;have BY:iV kvs (gK b)=none:=by
      unfold iV;rw[fZ,gC];intro p hp z;have hz:p.1=gK b:=of_decide_eq_true z;have:p.1∈kvs.map (·.1):=aQ.mpr ⟨p,hp,rfl⟩;rw[hkk]at this;obtain⟨b',HS,e'⟩:=aQ.mp this;have ebb:b'=b:=nv _ _ (e'.trans hz);subst ebb;obtain⟨j,hj⟩:=fS HS;have PP:j<i:=by have:=(ao.mp hj).1;rw[a4]at this;omega
      rw[fH PP]at hj;have:=oC (wR g st) hj hy PP;omega
     rw[nU _ BY];have abQ:∀x∈[e],∀xs,H6 x≠some (.bV xs):= λx hx xs ex=>by
      have:x=e:=by simpa using hx
      rw[this,VA]at ex;cases ex
     have sb:aE (d6 [e] H6) (aP H6 e (.dT (kvs++[(gK b,V.ref u)]))):=cS (ci _ _) (by simp);refine⟨_,kvs++[(gK b,V.ref u)],rfl,ai,?_,?_,cS s6 (by simp)⟩
     ·rw[aK,hkk,gA hy];rfl
     ·rw[gA hy];have hu1:dY (d6 [e] H4) (bh g st b) qs:=dY.nt noE (P1.keeps Xk);refine cJ ((kL.nt abQ agg).keeps sb) ⟨rfl,u,qs,rfl,sb _ _ (bo.mpr ⟨λm=>abQ _ m _ hu6,hu6⟩),(dY.nt abQ (hu1.keeps s6)).keeps sb⟩
    ·rintro σ H' ⟨v4,kvs,rfl,hE,hkk,Fa,s5⟩;rw[a_,<-hyl,a8,<-Fg]at Fa;refine⟨_,rfl,k H' e kvs (λx o ex=>s5 x o ?_) hHe hE Fa⟩;exact inE (s2 _ _ ex)
end Mv
namespace L2
open PySem PySem.Spec PyProof.Rows
inductive Y5(ns:List Int)(d lo:Int):Prop
 |mk (_:(ns=[]->lo=d)) (_:(ns≠[]->lo∈ns/\∀y∈ns,lo<=y))
inductive agh(ns:List Int)(d lo:Int):Prop
 |mk (_:(ns=[]->lo=d)) (_:(ns≠[]->lo∈ns/\∀y∈ns,y<=lo))
section
variable{X:Cx}{e de:Expr}{te td:TA}{p pos kp:mZ}
inductive abR(K:ak)(Q:VK)(xs ys:List V)(H2:Hp):Prop
 |mk (a:ah) (ns:List Int) (d:Int) (_:xs=[.ref a]) (_:ys=[.int d]) (_:cv K H2 a (ns.map V.int)) (_:∀lo,Y5 ns d lo->Q (.int lo) H2)
def agi(K:ak)(te td:TA):TE:= λσ H Q=>te σ H λxs H1=>td σ H1 λys H2=>abR K Q xs ys H2
inductive abS(K:ak)(Q:VK)(xs ys:List V)(H2:Hp):Prop
 |mk (a:ah) (ns:List Int) (d:Int) (_:xs=[.ref a]) (_:ys=[.int d]) (_:cv K H2 a (ns.map V.int)) (_:∀lo,agh ns d lo->Q (.int lo) H2)
def agj(K:ak)(te td:TA):TE:= λσ H Q=>te σ H λxs H1=>td σ H1 λys H2=>abS K Q xs ys H2
theorem Ga(hc:X.calm=true)(hg:Gl X "min")(hm:X.mg "min"=none)(ha:PA X [e] te)(hk:PK X [⟨some "default",de,kp⟩] td)(hs:jd pos (cn [e] X.bW)=(false,fL e X.bW)::jd pos (cn [] X.bW):=by rfl):PE X (.Call (.Name "min" p) [e] [⟨some "default",de,kp⟩] pos) (agi X.K te td):=by intro pins s σ H Q I h;refine iX (rZ I hg hm (show mi "min"=some (.builtin "min") by decide+kernel) ?_);refine callWith_kw (fJ (ha pos pins s σ H _ I h) λus s1 ⟨vs,H1,I1,r1,q1⟩=>fJ (hk pos pins s1 σ H1 _ I1 q1) λws s2 ⟨zs,H2,I2,r2,a,ns,d,ex,ey,hq,q⟩=>?_) hs (by rw[hs];rfl);subst ex ey;obtain⟨u,rfl,r3⟩:=vals1 r1;obtain⟨u2,rfl,t2,rfl⟩:=vals1 r2;obtain rfl:u=aY a:=r3;obtain⟨cc,rv,pl,hz⟩:=I2.list hq;exact Pd (I2.ok.hd hc) pl.isList rv.ints (λe0 h' tk k=>⟨.int d,H2,I2.k4 k,⟨_,rfl⟩,q d ⟨λ_=>rfl,λz=>absurd e0 z⟩⟩) λh' tk m t' k h1 h2=>⟨.int m,H2,I2.k4 k,⟨_,rfl⟩,q m ⟨λz=>(by rw[z]at h1;cases h1),λ_=>⟨h1,h2⟩⟩⟩
theorem Xm(hc:X.calm=true)(hg:Gl X "max")(hm:X.mg "max"=none)(ha:PA X [e] te)(hk:PK X [⟨some "default",de,kp⟩] td)(hs:jd pos (cn [e] X.bW)=(false,fL e X.bW)::jd pos (cn [] X.bW):=by rfl):PE X (.Call (.Name "max" p) [e] [⟨some "default",de,kp⟩] pos) (agj X.K te td):=by intro pins s σ H Q I h;refine iX (rZ I hg hm (show mi "max"=some (.builtin "max") by decide+kernel) ?_);refine callWith_kw (fJ (ha pos pins s σ H _ I h) λus s1 ⟨vs,H1,I1,r1,q1⟩=>fJ (hk pos pins s1 σ H1 _ I1 q1) λws s2 ⟨zs,H2,I2,r2,a,ns,d,ex,ey,hq,q⟩=>?_) hs (by rw[hs];rfl);subst ex ey;obtain⟨u,rfl,r3⟩:=vals1 r1;obtain⟨u2,rfl,t2,rfl⟩:=vals1 r2;obtain rfl:u=aY a:=r3;obtain⟨cc,rv,pl,hz⟩:=I2.list hq;exact Pe (I2.ok.hd hc) pl.isList rv.ints (λe0 h' tk k=>⟨.int d,H2,I2.k4 k,⟨_,rfl⟩,q d ⟨λ_=>rfl,λz=>absurd e0 z⟩⟩) λh' tk m t' k h1 h2=>⟨.int m,H2,I2.k4 k,⟨_,rfl⟩,q m ⟨λz=>(by rw[z]at h1;cases h1),λ_=>⟨h1,h2⟩⟩⟩
end
end L2
namespace Mv
open PySem PySem.Spec PyProof.Rows L2 Mt
open Vaglrc (Sym Rule Grammar)
variable{P:a7}{X:Cx}{pos:mZ}{x:bT}{a f C q d:ah}{b i k c:Nat}{r:eA}{H H' H0:Hp}{o:HO}{l cN ks s:List Nat}{qs S:List ah}{rs:List (Nat×Nat)}{α β:Type}{fd:fR}{K:ak}{g:aL}{t:cK}{w:bP}{T:Nat->List (Nat×Nat)}{ad:Nat->ah}
inductive Gb(H:Hp)(p:Fh)(q:ah):Prop
 |mk (u:ah) (_:H q=some (.bV [nV p.lo,nV p.hi,.ref u])) (_:tj H p.to u)
def sP(H:Hp)(ps:List Fh)(qs:List ah):Prop:=Paired (Gb H) ps qs
theorem Gb.keeps(s:aE H H'){p:Fh}(h:Gb H p q):Gb H' p q:=by obtain⟨u,h1,h2⟩:=h;exact⟨u,s _ _ h1,h2.keeps s⟩
theorem sP.keeps(s:aE H H'){ps:List Fh}(h:sP H ps qs):sP H' ps qs:=Paired.gJ h λ_ _ z=>z.keeps s
theorem Gb.nt(hS:∀b∈S,∀xs,H b≠some (.bV xs)){p:Fh}(h:Gb H p q):Gb (d6 S H) p q:=by obtain⟨u,h1,h2⟩:=h;exact⟨u,bo.mpr ⟨λm=>hS _ m _ h1,h1⟩,bo.mpr ⟨λm=>hS _ m _ h2,h2⟩⟩
theorem sP.nt(hS:∀b∈S,∀xs,H b≠some (.bV xs)){ps:List Fh}(h:sP H ps qs):sP (d6 S H) ps qs:=Paired.gJ h λ_ _ z=>z.nt hS
theorem kL.qv{ks:List gH}{kvs:List (List fE×V)}(h:kL H ks kvs):kvs.map (·.1)=ks.map kK:=by
 have h':Paired (Jv H) ks kvs:=h;induction h' with|nil=>rfl|cons r t ih=>rw[aS,aS,r.1,ih t]
theorem EI{k k':gH}(h:kK k=kK k'):k.kind=k'.kind/\k.over=k'.over:=by unfold kK at h;have h1:=da h;exact⟨nF h1.1,nF (da h1.2).1⟩
theorem Ue(G:Good g)(s:List Nat){lo hi:Int}(h0:dS g s=[]->lo=0/\hi= -1)(h1:dS g s≠[]->(∃p∈dS g s,lo=(p.lo:Int))/\(∀p∈dS g s,lo<=(p.lo:Int))/\(∃p∈dS g s,hi=(p.hi:Int))/\∀p∈dS g s,(p.hi:Int)<=hi):∃a m:Nat,lo=(a:Int)/\(hi+1-lo).toNat=m/\a+m<=gs g/\lo<1000/\hi<1000/\-1<=hi/\mF g (ag g) s=(d4 a m).filterMap (o5 g s):=by
 have De:=(eO G).2;by_cases e:dS g s=[]
 ·obtain⟨rfl,rfl⟩:=h0 e;exact⟨0,0,rfl,rfl,bj _,by omega,by omega,by omega,Di G s e⟩
 ·obtain⟨⟨p,hp,rfl⟩,S0,⟨q,hq,rfl⟩,hhi⟩:=h1 e;have sp:=HU G hp;have sq:=HU G hq;have hpq:=S0 q hq;have e1:((q.hi:Int)+1-(p.lo:Int)).toNat=q.hi+1-p.lo:=by omega
  refine⟨p.lo,q.hi+1-p.lo,rfl,e1,by unfold gs;omega,by omega,by omega,by omega,wS G s (by omega) λr hr=>?_⟩;have h2:=S0 r hr;have h3:=hhi r hr;omega
variable{P:a7}{w:bP}{K:ak}{mg:bT->Option aj}{base:cX}{Cg C CH CL:ah}
abbrev sKC:dZ:=mm 43
abbrev nKC:List bT:=["table","items","spans","item","symbol","kernels","first","last","number","kernel","span"]
theorem agk:bU nKC ["table","items"] (a5 sKC):=ml
abbrev zW(g:aL)(s:List Nat):List gH:=mF g (ag g) s
theorem agl(F:lg K "kernels_over_classes" "kernels_over_classes" sKC f fd)(T:Gm mg)(GN:jL P w K mg base "next_symbol" 1 ["table","item"] (Cn C))(GO:jL P w K mg base "one_further" 1 ["item"] T9):dQ P w K mg base ki 2 f fd ["table","items"] (NL C zW):=by
 refine F.ok agk (λvs H Q E h=>?_) (λgl A bN s H vs Q E hr h=>?_)
 ·obtain⟨a,la,g,ls,lm,lw,s,cc,rfl,_⟩:=h;rfl
 ·obtain⟨a,la,g,ls,lm,lw,st,cc,rfl,G,hT,hA,hI,ok,k⟩:=h;have nd:=agk.nd;have hu:=m5 hr;have hsz:al=16777216:=bR;have dX:=a6 hI;have tG:st.length<=976:=jz ok.J9 λc hc=>oF G (ok.ok c hc);refine⟨_,am (g9 2 nd (cV aD)) (am (fQ bi rfl (fA (pv 1)) (nr 3 nd) (am (g9 4 nd (cO GN hr (aB _) rfl (af (pv 0) (af (pv 3) aD)))) (aJ (dD (PW.pt (r_ (bY MS (pv 4) gd (ck _)) (r9 (bY g8 (ft cw (pv 4) aR) (lQ T.rg rfl) (ck _))))) (aJ (fz (i_ bf bv bx d_ (pv 2) (af (ii (af (ft cw (pv 4) aR) (af (ft cw (pv 4) aR) (af (cO GO hr (aB _) rfl (af (pv 3) aD)) aD)))) aD)))) b5)))) (am (g9 5 nd qX) (am (g9 6 nd (Ga rfl rfl T.min (af (qb (own:=[("span",10)]) rfl nd (fA (pv 2)) (gi (N:=nKC) (sc:=a5 sKC) (by decide+kernel)) (λ_ _ _ _ _=>nr 10 nd) (λ_ _ _ _ _=>mP) (λ_ _ _ _ _=>Eu (xH (K:=K) rfl) (pv 10) aR (λ_ _=>rfl))) aD) (AR aR FD))) (am (g9 7 nd (Xm rfl rfl T.max (af (qb (own:=[("span",10)]) rfl nd (fA (pv 2)) (gi (N:=nKC) (sc:=a5 sKC) (by decide+kernel)) (λ_ _ _ _ _=>nr 10 nd) (λ_ _ _ _ _=>mP) (λ_ _ _ _ _=>Eu (xH (K:=K) rfl) (pv 10) aR (λ_ _=>rfl))) aD) (AR (MN Fz aR) FD))) (am (fQ bi rfl (Eo rfl T.range (af (pv 6) (af (e7 i9 (pv 7) aR) aD))) (ML (i:=8) nd rfl (by first|exact l8 rfl|exact mU rfl|exact mU (l8 rfl))) (am (xl (i:=9) (own:=[("span",10)]) rfl nd rfl rfl rfl (fA (pv 2)) (gi (N:=nKC) (sc:=a5 sKC) (by decide+kernel)) (λ_ _ _ _ _=>nr 10 nd) (λ_ _ _ _ _=>se (pb mO mO (ft (xH (K:=K) rfl) (pv 10) aR) (pv 8) (ft (xH (K:=K) rfl) (pv 10) aR))) (λ_ _ _ _ _=>Eu (xH (K:=K) rfl) (pv 10) aR (λ_ _=>rfl))) (aJ (dD (xc (pv 9) (λ_=>rfl)) (aJ (lI hu (pv 5) (ii (af (lQ T.rg rfl) (af (pv 8) aD))) (qU nD rfl T.tuple (by decide+kernel) (af (pv 9) aD)) rfl)) b5)))) (aJ (bG (pv 5)))))))),?_⟩;refine⟨bj _,λt ht=>?_⟩;have s1:aE H (aP H t (.be [])):=aE.aP ht;refine⟨_,rfl,la,rfl,⟨_,cv.of (s1 _ _ hA)⟩,ig (K:=K) (a:=la) (xs:=cc.map V.ref) (λi σ H'=>∃(v3 v4:Option V)(qs:List ah),σ=[some (.ref a),some (.ref la),some (.ref t),v3,v4,none,none,none,none,none,none]/\H' t=some (.be (qs.map V.ref))/\sP H' (dS g (st.take i)) qs/\aE H H') ⟨none,none,[],rfl,ai,.nil,s1⟩ (λi σ H' _ ⟨_,_,_,_,_,_,s2⟩=>cv.of (s2 _ _ hA)) ?_ ?_⟩
  ·rintro i x σ H' hi ⟨v3,v4,qs,rfl,hL,hq,s2⟩;obtain⟨ia,e,rfl⟩:=dk hi;obtain⟨c,hy,mW⟩:=b0 hI e;have hco:=ok.ok c (aG hy);have Aw:dS g (st.take (i+1))=dS g (st.take i)++(lv g c).toList:=ph hy;have yU:qs.length<=976:=by rw[<-a6 hq];refine aW (bL _ _) ?_;rw[a4];omega
   rw[Aw];generalize dS g (st.take i)=sp0 at hq ⊢;have skip:lv g c=none->sP H' (sp0++(lv g c).toList) qs:= λz=>by rw[z];show sP H' (sp0++[]) qs;rw[cz];exact hq
   refine⟨_,rfl,_,rfl,a,ia,g,ls,lm,lw,c,rfl,hT.keeps s2,mW.keeps s2,hco,λen=>?_,λy sq en NK=>?_⟩
   ·exact⟨_,rfl,rfl,_,rfl,bZ rfl (bZ rfl ⟨_,_,qs,rfl,hL,skip (by unfold lv;rw[en]),s2⟩)⟩
   ·have Ju:H' sq=some (.bV (v1 (o1 g y))):=NK;cases y with
    |non b=>exact⟨_,rfl,rfl,_,rfl,cF rfl ⟨_,rfl,sq,_,_,_,rfl,rfl,eh.of Ju,aN (j:=0) rfl,rfl,_,rfl,bZ rfl ⟨_,_,qs,rfl,hL,skip (by unfold lv;rw[en]),s2⟩⟩⟩|range lo hi=>
     have P2:H' sq=some (.bV [.int 1,nV (pD g lo),nV (pE g hi)]):=NK;have esp:lv g c=some ⟨pD g lo,pE g hi,c+1⟩:=by unfold lv;rw[en]
     refine⟨_,rfl,rfl,_,rfl,cF rfl ⟨_,rfl,sq,_,_,_,rfl,rfl,eh.of Ju,aN (j:=0) rfl,rfl,_,rfl,cF rfl ?_⟩⟩;refine⟨_,rfl,.inl ⟨rfl,_,cv.of hL⟩,_,rfl,sq,_,_,_,rfl,rfl,eh.of P2,aN (j:=1) rfl,_,rfl,sq,_,_,_,rfl,rfl,eh.of P2,aN (j:=2) rfl,_,rfl,ia,c,rfl,mW.keeps s2,LI G en,λH3 u s3 hu0 hu3=>⟨(by show 3<=al;decide),λv hv=>?_⟩⟩;have s4:aE H' (aP H3 v (.bV [nV (pD g lo),nV (pE g hi),.ref u])):=aE.kj s3 hv;have DC:=s4 _ _ hL;have O4:Gb (aP H3 v (.bV [nV (pD g lo),nV (pE g hi),.ref u])) ⟨pD g lo,pE g hi,c+1⟩ v:=⟨u,ai,(aE.aP hv) _ _ hu3⟩;generalize aP H3 v (.bV [nV (pD g lo),nV (pE g hi),.ref u])=H4 at s4 DC O4 ⊢;refine⟨t,_,_,rfl,rfl,DC,by rw[a_];omega,?_⟩;have sb:aE (d6 [t] H4) (aP H4 t (.be (qs.map V.ref++[V.ref v]))):=cS (ci _ _) (by simp);refine⟨_,_,qs++[v],rfl,by rw[ai,aK];rfl,?_,λx o ex=>?_⟩
     ·rw[esp];exact cJ ((sP.nt (d7 DC) (hq.keeps s4)).keeps sb) ((Gb.nt (d7 DC) O4).keeps sb)
     ·rw[aF (aH ex ht)];exact s4 _ _ (s2 _ _ ex)
  ·rintro σ H1 ⟨v3,v4,qs,rfl,hL1,hq1,s2⟩;rw[a_,<-dX,a8]at hq1;have yU:=a6 hq1;have aqU:(dS g st).length<=976:=aW (bL _ _) tG;refine λe he=>?_;have hHe:H e=none:=s2.free he;have s3:aE H1 (aP H1 e (.dT [])):=aE.aP he;have hE2:aP H1 e (.dT []) e=some (.dT []):=ai;generalize aP H1 e (.dT [])=H2 at s3 hE2 ⊢;have hL2:=s3 _ _ hL1;have Y2:=hq1.keeps s3;refine⟨_,rfl,t,rfl,⟨_,cv.of hL2⟩,λD hD=>?_⟩;refine nE (K:=K) (a:=t) (xs:=qs.map V.ref) (λi H3=>aE H2 H3/\H3 D=some (.be (((dS g st).take i).map λp=>nV p.lo))) ⟨aE.aP hD,ai⟩ (λi H3 _ ⟨s4,_⟩=>cv.of (s4 _ _ hL2)) ?_ ?_
   ·rintro i x H3 hi ⟨s4,li⟩;obtain⟨q,ei,rfl⟩:=dk hi;obtain⟨p,hy,u,mW,_⟩:=b0 Y2 ei;refine⟨rfl,_,rfl,q,_,_,_,rfl,rfl,eh.of (s4 _ _ mW),aN (j:=0) rfl,_,li,?_,λx o ex=>?_,?_⟩
    ·rw[aq,a4];omega
    ·rw[aF (aH ex hD)];exact s4 _ _ ex
    ·rw[ai,gA hy]
   ·rintro H3 ⟨s4,li⟩;rw[a_,<-yU,a8]at li;refine⟨D,(dS g st).map (λp=>(p.lo:Int)),0,rfl,rfl,cv.of (by rw[li,bS];rfl),λlo ⟨ame,amf⟩=>?_⟩;have lo0:dS g st=[]->lo=0:= λz=>ame (by rw[z];rfl);have lo1:dS g st≠[]->(∃p∈dS g st,lo=(p.lo:Int))/\∀p∈dS g st,lo<=(p.lo:Int):= λz=>by obtain⟨h1,h2⟩:=amf λz'=>z (jh.mp z');obtain⟨p,hp,e'⟩:=aQ.mp h1;exact⟨⟨p,hp,e'.symm⟩,λq hq=>h2 _ (aQ.mpr ⟨q,hq,rfl⟩)⟩
    have oI:=s4 _ _ hL2;have zR:=Y2.keeps s4;refine⟨_,rfl,t,rfl,⟨_,cv.of oI⟩,λD2 QO=>?_⟩;refine nE (K:=K) (a:=t) (xs:=qs.map V.ref) (λi H4=>aE H3 H4/\H4 D2=some (.be (((dS g st).take i).map λp=>nV p.hi))) ⟨aE.aP QO,ai⟩ (λi H4 _ ⟨s5,_⟩=>cv.of (s5 _ _ oI)) ?_ ?_
    ·rintro i x H4 hi ⟨s5,vx⟩;obtain⟨q,ei,rfl⟩:=dk hi;obtain⟨p,hy,u,mW,_⟩:=b0 zR ei;refine⟨rfl,_,rfl,q,_,_,_,rfl,rfl,eh.of (s5 _ _ mW),aN (j:=1) rfl,_,vx,?_,λx o ex=>?_,?_⟩
     ·rw[aq,a4];omega
     ·rw[aF (aH ex QO)];exact s5 _ _ ex
     ·rw[ai,gA hy]
    ·rintro H4 ⟨s5,vx⟩;rw[a_,<-yU,a8]at vx;refine⟨_,rfl,D2,(dS g st).map (λp=>(p.hi:Int)),-1,rfl,rfl,cv.of (by rw[vx,bS];rfl),λhi ⟨amg,amh⟩=>?_⟩;have VD:dS g st=[]->hi= -1:= λz=>amg (by rw[z];rfl);have Uf:dS g st≠[]->(∃p∈dS g st,hi=(p.hi:Int))/\∀p∈dS g st,(p.hi:Int)<=hi:= λz=>by obtain⟨h1,h2⟩:=amh λz'=>z (jh.mp z');obtain⟨p,hp,e'⟩:=aQ.mp h1;exact⟨⟨p,hp,e'.symm⟩,λq hq=>h2 _ (aQ.mpr ⟨q,hq,rfl⟩)⟩
     obtain⟨a0,m,elo,em,ham,aqX,aqY,aqZ,ekc⟩:=Ue G st (λz=>⟨lo0 z,VD z⟩) (λz=>⟨(lo1 z).1,(lo1 z).2,(Uf z).1,(Uf z).2⟩);have De:=(eO G).2;subst elo;refine⟨_,rfl,_,rfl,_,_,rfl,rfl,_,_,rfl,⟨by omega,by omega,by omega,by omega⟩,?_⟩;rw[em];have DC:=s5 _ _ oI;have J':=zR.keeps s5;have hE4:=s5 _ _ (s4 _ _ hE2);have hte:t≠e:= λz=>by rw[z,hE4]at DC;cases DC
     have keep:∀{H5:Hp},aE (d6 [e] H4) H5->aE H H5:= λ{H5} z=>uv hHe (((s2.trans s3).trans s4).trans s5) z;have hLb:d6 [e] H4 t=some (.be (qs.map V.ref)):=bo.mpr ⟨by simpa using hte,DC⟩;have amk:∀x∈[e],∀xs,H4 x≠some (.bV xs):= λx hx xs ex=>by
      have:x=e:=by simpa using hx
      rw[this,hE4]at ex;cases ex
     have hqb:sP (d6 [e] H4) (dS g st) qs:=sP.nt amk J';refine uP (lo:=(a0:Int)) (n:=m) (λi σ H'=>∃(v8 v9:Option V)(kvs:List (List fE×V)),σ=[some (.ref a),some (.ref la),some (.ref t),v3,v4,some (.ref e),some (.int (a0:Int)),some (.int hi),v8,v9,none]/\H' e=some (.dT kvs)/\kL H' ((d4 a0 i).filterMap (o5 g st)) kvs/\aE (d6 [e] H4) H')
      ⟨none,none,[],rfl,hE4,.nil,ci _ _⟩ ?_ ?_
     ·rintro i σ H' ZW ⟨v8,v9,kvs,rfl,hE,Fa,s6⟩;have en:(a0:Int)+(i:Nat)=((a0+i:Nat):Int):=by omega
      rw[en];have Aw:(d4 a0 (i+1)).filterMap (o5 g st)=(d4 a0 i).filterMap (o5 g st)++(o5 g st (a0+i)).toList:=by rw[List.range'_concat,gw,Nat.one_mul];congr 1
      rw[Aw];have hkl:kvs.length<=256:=by rw[<-a6 Fa];refine aW (bL _ _) ?_;rw[List.length_range'];unfold gs at ham;omega
      refine⟨_,rfl,t,rfl,⟨_,cv.of (s6 _ _ hLb)⟩,λD3 li=>?_⟩;refine nE (K:=K) (a:=t) (xs:=qs.map V.ref) (λj H5=>aE H' H5/\∃us:List ah,H5 D3=some (.be (us.map V.ref))/\dY H5 ((((dS g st).take j).filter λp=>decide (p.lo<=a0+i)&&decide (a0+i<=p.hi)).map (·.to)) us) ⟨aE.aP li,[],ai,.nil⟩ (λj H5 _ ⟨s7,_⟩=>cv.of (s7 _ _ (s6 _ _ hLb))) ?_ ?_
      ·rintro j x H5 hj ⟨s7,us,Js,Ew⟩;obtain⟨q,ej,rfl⟩:=dk hj;obtain⟨p,hy,u,mW,hyu⟩:=b0 hqb ej;have Tr:=s7 _ _ (s6 _ _ mW);have agm:tj H5 p.to u:=(hyu.keeps s6).keeps s7;have Tz:us.length<=976:=by rw[<-a6 Ew,aq];refine aW (cp _ _) ?_;rw[a4];omega
       rw[qe hy,aK];refine⟨rfl,_,rfl,q,_,_,_,rfl,rfl,eh.of Tr,aN (j:=0) rfl,_,rfl,_,_,rfl,rfl,_,rfl,?_⟩;have no:(decide (p.lo<=a0+i)&&decide (a0+i<=p.hi))=false->dY H5 ((((dS g st).take j).filter λp=>decide (p.lo<=a0+i)&&decide (a0+i<=p.hi)).map (·.to)++(if(decide (p.lo<=a0+i)&&decide (a0+i<=p.hi))=true then[p]else[]).map (·.to)) us:= λz=>by rw[if_neg (by rw[z];decide)];show dY H5 (_++[]) us;rw[cz];exact Ew
       by_cases h1:p.lo<=a0+i
       ·refine cF (decide_eq_true (by omega)) ⟨_,rfl,q,_,_,_,rfl,rfl,eh.of Tr,aN (j:=1) rfl,_,_,rfl,rfl,_,rfl,?_⟩;by_cases h2:a0+i<=p.hi
        ·refine cF (decide_eq_true (by omega)) ⟨_,rfl,q,_,_,_,rfl,rfl,eh.of Tr,aN (j:=2) rfl,_,Js,by rw[a_];omega,λx o ex=>?_,us++[u],by rw[ai,aK];rfl,?_⟩
         ·rw[aF (aH ex li)];exact s7 _ _ ex
         ·rw[if_pos (by rw[decide_eq_true h1,decide_eq_true h2];rfl)];have sb:aE (d6 [D3] H5) (aP H5 D3 (.be (us.map V.ref++[V.ref u]))):=cS (ci _ _) (by simp);exact cJ ((dY.nt (d7 Js) Ew).keeps sb) (sb _ _ (bo.mpr ⟨λm=>d7 Js _ m _ agm,agm⟩))
        ·exact bZ (decide_eq_false (by omega)) ⟨s7,us,Js,no (by rw[decide_eq_false h2,EW])⟩
       ·exact bZ (decide_eq_false (by omega)) ⟨_,rfl,bZ rfl ⟨s7,us,Js,no (by rw[decide_eq_false h1,EU])⟩⟩
      ·rintro H5 ⟨s7,us,Js,Ew⟩;rw[a_,<-yU,a8]at Ew;have agn:dY H5 (vL g st (a0+i)) us:=Ew;have Tz:=a6 agn;refine⟨_,rfl,_,.inl ⟨_,cv.of Js,rfl⟩,?_⟩;unfold o5;cases hk:vL g st (a0+i)with
       |nil=>rw[hk]at Tz;have:us=[]:=sV.mp Tz.symm;subst this;refine bZ rfl ⟨_,_,kvs,rfl,s7 _ _ hE,?_,s6.trans s7⟩;show kL H5 (_++[]) kvs;rw[cz];exact Fa.keeps s7|cons z zs=>
        have j8:us≠[]:= λez=>by rw[ez,hk]at Tz;cases Tz
        obtain⟨u0,us0,eus⟩:=lq j8;refine cF (by rw[eus];rfl) ?_;refine⟨_,rfl,D3,_,rfl,.inl ⟨cv.of Js,λut hut=>?_⟩⟩;have t6:aE H5 (aP H5 ut (.bV (us.map V.ref))):=aE.aP hut;have ago:aP H5 ut (.bV (us.map V.ref)) ut=some (.bV (us.map V.ref)):=ai;generalize aP H5 ut (.bV (us.map V.ref))=H6 at t6 ago ⊢;refine⟨_,rfl,_,rfl,(by show 2<=al;decide),λkt hkt=>?_⟩;have t7:aE H6 (aP H6 kt (.bV [.int 1,.int ((a0+i:Nat):Int)])):=aE.aP hkt;have agp:aP H6 kt (.bV [.int 1,.int ((a0+i:Nat):Int)]) kt=some (.bV ((kK ⟨1,a0+i,vL g st (a0+i)⟩).map kV)):=ai;generalize aP H6 kt (.bV [.int 1,.int ((a0+i:Nat):Int)])=H7 at t7 agp ⊢;have t57:aE H5 H7:=t6.trans t7;have Lr:=t57 _ _ (s7 _ _ hE);refine⟨e,_,rfl,s_.t Lr agp (by omega),?_⟩;have BY:iV kvs (kK ⟨1,a0+i,vL g st (a0+i)⟩)=none:=by
         unfold iV;rw[fZ,gC];intro p hp zz;have hz:p.1=kK ⟨1,a0+i,vL g st (a0+i)⟩:=of_decide_eq_true zz;have:p.1∈kvs.map (·.1):=aQ.mpr ⟨p,hp,rfl⟩;rw[Fa.qv]at this;obtain⟨k',rN,e'⟩:=aQ.mp this;obtain⟨n,hn,en'⟩:=b3.mp rN;have Y6:=(EI (e'.trans hz)).2;unfold o5 at en';split at en'
         ·cases en'
         ·rw[<-ax en']at Y6;have h3:n=a0+i:=Y6;have h4:=(m6.mp hn).2;omega
        rw[nU _ BY,<-hk];have abT:∀x∈[e],∀xs,H7 x≠some (.bV xs):= λx hx xs ex=>by
         have:x=e:=by simpa using hx
         rw[this,Lr]at ex;cases ex
        have sb:aE (d6 [e] H7) (aP H7 e (.dT (kvs++[(kK ⟨1,a0+i,vL g st (a0+i)⟩,V.ref ut)]))):=cS (ci _ _) (by simp);refine⟨_,_,kvs++[(kK ⟨1,a0+i,vL g st (a0+i)⟩,V.ref ut)],rfl,ai,?_,cS ((s6.trans s7).trans t57) (by simp)⟩;have agq:=t7 _ _ ago;rw[if_neg (by rw[hk];exact bn)];exact cJ ((kL.nt abT ((Fa.keeps s7).keeps t57)).keeps sb) ⟨rfl,ut,us,rfl,sb _ _ (bo.mpr ⟨λm=>abT _ m _ agq,agq⟩),(dY.nt abT (agn.keeps t57)).keeps sb⟩
     ·rintro σ H' ⟨v8,v9,kvs,rfl,hE,Fa,s6⟩;rw[<-ekc]at Fa;exact⟨_,rfl,k H' e kvs (keep s6) hHe hE Fa⟩
theorem abU{A:cT}(hr:lO k A):A.units+2<iw:=d8 (Q4 (by decide:2<=64) _) hr.units
def ja(k:List Nat):xr:=k.map qf
theorem Ug{k k':List Nat}(h:ja k=ja k'):k=k':=by
 unfold ja at h;induction k generalizing k' with
 |nil=>
  cases k' with|nil=>rfl|cons _ _=>cases h
 |cons c k ih=>
  cases k' with|nil=>cases h|cons c' k'=>have h':=da h;rw[yX _ _ h'.1,ih h'.2]
def nw:Nat->List (List Nat)->G9->Prop
 |_,[],[]=>True|n,k::ks,p::kvs=>p.1=ja k/\p.2.2=nV n/\nw (n+1) ks kvs|_,_,_=>False
theorem nw.fD:∀{n:Nat}{ks:List (List Nat)}{kvs:G9},nw n ks kvs->kvs.length=ks.length
 |_,[],[],_=>rfl|_,_::_,_::_,h=>by rw[aZ,aZ,nw.fD h.2.2]|_,[],_::_,h=>h.elim|_,_::_,[],h=>h.elim
theorem nw.val:∀{n:Nat}{ks:List (List Nat)}{kvs:G9},nw n ks kvs->∀k:List Nat,vY kvs (ja k)=(ks.findIdx? (λt=>t==k)).map λi=>nV (n+i)
 |_,[],[],_,_=>rfl|n,q::ks,p::kvs,h,k=>by
  obtain⟨h1,h2,h3⟩:=h;unfold vY;rw[dR,mw];by_cases e:q=k
  ·subst e;have d1:decide (p.1=ja q)=true:=decide_eq_true h1;rw[d1,beq_self_eq_true];show some p.2.2=some (nV (n+0));rw[h2];rfl
  ·have d1:decide (p.1=ja k)=false:=decide_eq_false λz=>e (Ug (h1.symm.trans z));have d2:(q==k)=false:=by rw[beq_eq_false_iff_ne];exact e
   rw[d1,d2];have ih:=nw.val h3 k;unfold vY at ih;show(Q7 _ kvs).map _=sR _ (sR _ _);rw[ih,VQ];congr 1;funext i;show nV (n+1+i)=nV (n+(i+1));congr 1;omega
 |_,[],_::_,h,_=>h.elim|_,_::_,[],h,_=>h.elim
theorem nw.snoc:∀{n:Nat}{ks:List (List Nat)}{kvs:G9},nw n ks kvs->∀(k:List Nat)(b:ah),nw n (ks++[k]) (kvs++[(ja k,b,nV (n+ks.length))])
 |_,[],[],_,k,b=>⟨rfl,rfl,trivial⟩|n,q::ks,p::kvs,h,k,b=>by refine⟨h.1,h.2.1,?_⟩;have:=nw.snoc h.2.2 k b;rw[show n+1+ks.length=n+(q::ks).length by rw[aZ];omega]at this;exact this|_,[],_::_,h,_,_=>h.elim|_,_::_,[],h,_,_=>h.elim
theorem A1{k:List Nat}{kb:ah}(h1:H kb=some (.bV (qs.map V.ref)))(h2:dY H k qs):jC H (ja k) kb:=by
 refine⟨qs,h1,?_⟩;have h2':Paired (tj H) k qs:=h2;unfold ja;clear h1 h2;induction h2' with|nil=>exact .nil|cons r _ ih=>exact .cons r ih
inductive Xn(H:Hp)(s:List Nat)(q:ah):Prop
 |mk (cc:List ah) (_:H q=some (.be (cc.map V.ref))) (_:dY H s cc)
def Jx(H:Hp)(ss:List (List Nat))(qs:List ah):Prop:=Paired (Xn H) ss qs
theorem Xn.keeps(s:aE H H')(h:Xn H l q):Xn H' l q:=by obtain⟨cc,h1,h2⟩:=h;exact⟨cc,s _ _ h1,h2.keeps s⟩
theorem Jx.keeps(s:aE H H'){ss:List (List Nat)}(h:Jx H ss qs):Jx H' ss qs:=Paired.gJ h λ_ _ z=>z.keeps s
structure xS(P:a7)(w:bP)(C:ah)(S:List ah)(H:Hp)(g:aL)(a ls lm lw nm:ah)(ks:List (List Nat)):Prop where
 E4:jo C (d6 S H) g a ls lm lw
 sts:∃ss:List ah,H ls=some (.be (ss.map V.ref))/\Jx (d6 S H) (ks.map (aV g)) ss
 Uh:∃kvs:G9,H nm=some (DN P w nm kvs)/\nw 0 ks kvs/\∀p∈kvs,jC (d6 S H) p.1 p.2.1
theorem ny(s:aE H H'){k:xr}{b:ah}(h:jC H k b):jC H' k b:=h.keeps λc ys e=>s _ _ e
theorem xS.to{P:a7}{w:bP}{C:ah}{S':List ah}{ls lm lw nm:ah}{ks:List (List Nat)}(h:xS P w C S H g a ls lm lw nm ks)(s:aE (d6 S H) (d6 S' H'))(e1:H' ls=H ls)(e2:H' nm=H nm):xS P w C S' H' g a ls lm lw nm ks:=by obtain⟨ss,h1,h2⟩:=h.sts;obtain⟨kvs,h3,h4,h5⟩:=h.Uh;exact⟨h.E4.keeps s,⟨ss,by rw[e1];exact h1,h2.keeps s⟩,⟨kvs,by rw[e2];exact h3,h4,λp hp=>ny s (h5 p hp)⟩⟩
def vz(m:gf):List fE:=[bJ (m.kind:Int),bJ (m.over:Int)]
def rj(mv:List gf):List (List fE×V):=mv.map λm=>(vz m,nV m.to)
def Y7(n:Nat):Int:=CO (eP [Vc 1,Vc (n:Int)])
def aml:List Nat:=[0,0,86,0,31,150,0,95,214,40,159,0,104,223,49,168,0,113,232,58,177,0,122,241,0,186,0,0,250,0,0,0,0,0,0,0,0,15,0,0,79,0,24,143,0,88,207,33,152,0,97,216,42,161,0,106,225,51,170,0,115,234,0,179,0,0,243,0,0,0,0,0,0,0,0,8,0,0,72,0,17,0,0,81,0,26,145,0,90,209,35,154,0,99,218,44,163,0,108,227,0,172,0,0,236,0,181,0,0,245,0,0,0,0,0,0,0,0,10,0,0,74,0,19,138,0,83,202,28,147,0,92,211,37,156,0,101,220,46,165,0,110,229,0,174,0,0,238,0,0,0,0,0,0,0,0,3,0,0,67,0,12,131,0,76,195,21,140,0,85,204,30,149,0,94,213,39,158,0,103,222,0,167,0,0,231,0,0,0,0,0,0,0,0,0,0,0,60,0,5,124,0,69,188,14,133,252,78,197,23,142,0,87,206,32,151,0,96,215,0,160,0,0,224,0,0,0,0,0,0,0,0,0,0,0,53,0,0,117,0,62,0,7,126,0,71,190,16,135,254,80,199,25,144,0,89,208,0,153,0,0,217,0,0,0,0,226,0,0,0,0,0,0,0,0,0,0,0,55,0,0,119,0,64,183,9,128,247,73,192,18,137,0,82,201,0,146,0,91,210,0,155,0,0,219,0,0,0,0,0,0,0,0,0,0,0,48,0,0,112,0,57,176,2,121,240,66,185,11,130,249,75,194,20,139,0,84,203,0,148,0,0,212,0,0,0,0,0,0,0,0,0,0,0,41,0,0,105,0,50,169,0,114,233,59,178,4,123,242,68,187,13,132,251,77,196,0,141,0,0,205,0,0,0,0,0,0,0,0,0,0,0,34,0,0,98,0,43,162,0,107,0,52,171,0,116,235,61,180,6,125,244,70,189,0,134,253,0,198,0,0,0,0,0,0,0,0,0,0,0,27,0,0,0,0,36,0,0,100,0,45,164,0,109,228,54,173,0,118,237,63,182,0,127,246,0,191,0,136,255,0,200,0,0,0,0,0,0,0,0,0,0,0,29,0,0,93,0,38,157,0,102,221,47,166,0,111,230,56,175,1,120,239,65,184,0,129,248,0,193,0,0,0,0,0,0,0,0,0,0,0,22]
theorem P4:((bE 256).all λn=>aml.getD (Y7 n%512).toNat 0==n)=true:=by decide+kernel
theorem Xo{a:Nat}(ha:a<256)(hb:b<256)(h:Y7 a=Y7 b):a=b:=by have:=ik.mp P4;have h1:=iL (this a (eV.mpr ha));have h2:=iL (this b (eV.mpr hb));rw[<-h1,<-h2,h]
theorem Ui{P:a7}{w:bP}(kvs:List (List fE×V)):(kvs.map λp=>sM P w p.1)=(kvs.map (·.1)).map (sM P w):=(bS ..).symm
theorem Uj{P:a7}{w:bP}{k:gH}(QP:k.kind=1):sM P w (kK k)=Y7 k.over:=by
 have el:(kK k).map (c_ P w).hash=[Vc 1,Vc (k.over:Int)]:=by unfold kK;rw[QP];rfl
 unfold sM gn Y7;rw[el]
theorem Xp(G:Good g){x y:gH}(hx:x∈zW g s)(hy:y∈zW g s)(h:Yh (x.kind,x.over) (y.kind,y.over)):x.over<256/\y.over<256/\x.over≠y.over:=by
 have De:=(eO G).2;have h1:=g4 G hx;have h2:=g4 G hy;unfold gs at h1 h2;rcases h with q|⟨_,q⟩
 ·have q':x.kind<y.kind:=q;omega
 ·have q':x.over<y.over:=q;exact⟨by omega,by omega,by omega⟩
theorem LJ{P:a7}{w:bP}(G:Good g){kvs:List (List fE×V)}(h:kL H (zW g s) kvs):(kvs.map λp=>sM P w p.1).Nodup:=by
 have e:(kvs.map λp=>sM P w p.1)=(zW g s).map λk=>Y7 k.over:=by
  have e1:=Ui (P:=P) (w:=w) kvs;have e2:=congrArg (ZC (sM P w)) h.qv;have e3:((zW g s).map kK).map (sM P w)=(zW g s).map λk=>Y7 k.over:=by
   have key:∀l:List gH,(∀k∈l,k.kind=1)->(l.map kK).map (sM P w)=l.map λk=>Y7 k.over:=by
    intro l;induction l with
    |nil=>intro _;rfl|cons k l ih=>intro hl;have h1:=Uj (P:=P) (w:=w) (k:=k) (hl k (aC ..));have h2:=ih λq hq=>hl q (az _ hq);rw[aS,aS,aS,h1,h2]
   exact key _ λk hk=>(g4 G hk).1
  exact(e1.trans e2).trans e3
 rw[e];refine dF.mpr ?_;have hp:=(N'.mp (oG G s)).2.1;refine hp.imp_of_mem λ{x y} hx hy h=>?_;obtain⟨h1,h2,h3⟩:=Xp G hx hy h;exact λz=>h3 (Xo h1 h2 z)
theorem LK(G:Good g)(s:List Nat):((cP g (ag g) s).map kK).Nodup:=by
 refine dF.mpr ((oG G s).imp λ{x y} h z=>?_);obtain⟨e1,e2⟩:=EI z;rcases h with q|⟨_,q⟩
 ·have q':x.kind<y.kind:=q;omega
 ·have q':x.over<y.over:=q;omega
abbrev LL:dZ:=mm 44
abbrev abV:List bT:=["table","items","numbers","kernels","found","symbol","kernel"]
inductive NN(P:a7)(w:bP)(C:ah)(vs:List V)(H:Hp)(Q:VK)(E_:XK):Prop
 |mk (a la nm:ah) (g:aL) (ls lm lw:ah) (ks:List (List Nat)) (s:List Nat) (cc:List ah) (_:vs=[.ref a,.ref la,.ref nm]) (_:Good g) (_:xS P w C [ls,lm,lw,nm] H g a ls lm lw nm ks) (_:d6 [ls,lm,lw,nm] H la=some (.be (cc.map V.ref))) (_:dY (d6 [ls,lm,lw,nm] H) s cc) (_:sX g s) (_:ks.length<=128) (_:(∃xm,H lm=some (.be xm))) (_:(∃xw,H lw=some (.be xw))) (_:lm≠ls) (_:lw≠ls) (_:lm≠nm) (_:lw≠nm) (_:∀(H':Hp)(q:ah),aE (d6 [ls,nm] H) H'->H q=none->H' q=some (.dT (rj (jA g (ag g) ks s).2))->xS P w C [ls,lm,lw,nm] H' g a ls lm lw nm (jA g (ag g) ks s).1->Q (.ref q) H')
theorem NO:bU abV ["table","items","numbers"] (a5 LL):=ml
theorem Uk{P:a7}{w:bP}(e1:X.prog=P)(e2:X.w=w){o i kI:Expr}{td ty tv:TE}{sd:mZ}(hu:X.A.units+2<iw)(ho:PE X o td)(hi:PE X i ty)(hv:PE X kI tv)(hs:rB kI (some (.Subscript o i sd)) pos.line X.bW=i4 false):PS X (.Assign [.Subscript o i sd] kI pos) (YF P w td ty tv):=by subst e1 e2;exact WP hu ho hi hv hs
theorem NP(mv:List gf):(rj mv).length=mv.length:=aq _
theorem P5(l:List gH)(ks:List (List Nat)):(l.foldl g2 (ks,[])).2.map (λm=>(m.kind,m.over))=l.map λk=>(k.kind,k.over):=by
 have:=jU (P:= λpre (st:List (List Nat)×List gf)=>st.2.map (λm=>(m.kind,m.over))=pre.map λk=>(k.kind,k.over)) (f:=g2) l [] (ks,[]) rfl λpre k st _ h=>by show(st.2++[_]).map _=(pre++[k]).map _;rw[aK,aK,h];rfl
 exact this
theorem Ul(F:lg K "moves_from" "moves_from" LL f fd)(T:Gm mg)(TT:AX K C)(GN:jL P w K mg base "kernels_over_nonterminals" 2 ["table","items"] (NL C mE))(GC:jL P w K mg base "kernels_over_classes" 2 ["table","items"] (NL C zW))(GL:jL P w K mg base "closed" 2 ["table","kernel"] (Co C)):dQ P w K mg base ki 3 f fd ["table","items","numbers"] (NN P w C):=by
 refine F.ok NO (λvs H Q E h=>?_) (λgl A bN s H vs Q E hr h=>?_)
 ·obtain⟨a,la,nm,g,ls,lm,lw,ks,s,cc,rfl,_⟩:=h;rfl
 ·obtain⟨a,la,nm,g,ls,lm,lw,ks,st,cc,rfl,G,M,hA,hI,ok,yY,⟨xm,nlm⟩,⟨xw,nlw⟩,dms,dws,dmn,dwn,k⟩:=h;have nd:=NO.nd;have hu:=m5 hr;have yZ:=abU hr;have hsz:al=16777216:=bR;have bs:=ci [ls,lm,lw,nm] H;refine⟨_,am (g9 3 nd (cO GN hr (aB _) rfl (af (pv 0) (af (pv 1) aD)))) (am (fz (i_ fX D' PySem.F.type_dict_update (WK hu) (pv 3) (af (cO GC hr (aB _) rfl (af (pv 0) (af (pv 1) aD))) aD))) (am (g9 4 nd qX) (am (M_ (fQ bi rfl (yP (pv 3)) (vR rfl (gT (nr 5 nd) (gT (nr 6 nd) pY))) (am (dD (Fx (Pl yZ (pv 6) (pv 2))) (am (Uk (P:=P) (w:=w) rfl rfl yZ (pv 2) (pv 6) (cg bM rfl T.fD bB (af (cE (pv 0) rfl) aD)) rfl) (aJ (fz (i_ bf bv bx d_ (cE (pv 0) rfl) (af (cO GL hr (aB _) rfl (af (pv 0) (af (pv 6) aD))) aD))))) b5) (aJ (lI hu (pv 4) (pv 5) (WO yZ (pv 2) (pv 6) (λ_ _=>rfl)) rfl))))) (aJ (bG (pv 4)))))),?_⟩;refine⟨_,rfl,_,rfl,a,la,g,ls,lm,lw,st,cc,rfl,G,M.E4.keeps bs,bs _ _ hA,hI.keeps bs,ok,λH1 d kN s1 hd0 hd hkN=>?_⟩;refine⟨_,rfl,.inr (.inr (.inl ⟨rfl,.inr ⟨_,hd⟩⟩)),_,rfl,_,rfl,a,la,g,ls,lm,lw,st,cc,rfl,G,(M.E4.keeps bs).keeps s1,s1 _ _ (bs _ _ hA),(hI.keeps bs).keeps s1,ok,λH2 d2 kC s2 amm Dz hkC=>?_⟩;have amn:=hkN.keeps s2;have hdn:d≠d2:=aH hd amm;have hK2:kL H2 (cP g (ag g) st) (kN++kC):=pc amn hkC;have hKl:=a6 hK2;have De:=pX G st;refine⟨d,d2,kN,kC,rfl,rfl,hdn,s2 _ _ hd,Dz,LJ G hkC,by rw[hK2.qv];exact LK G st,by rw[<-hKl];omega,?_⟩;generalize kN++kC=kvs at hK2 hKl ⊢;have Xq:H d=none:=hd0;have s3:aE H (aP H2 d (.dT kvs)):= λb o e=>by rw[aF (aH e Xq)];exact s2 _ _ (s1 _ _ e)
  have amp:∀x∈[d],∀xs,H2 x≠some (.bV xs):= λx hx xs ex=>by
   have:x=d:=by simpa using hx
   rw[this,s2 _ _ hd]at ex;cases ex
  have hK3:kL (aP H2 d (.dT kvs)) (cP g (ag g) st) kvs:=(kL.nt amp hK2).keeps (cS (ci _ _) (by simp));have Y8:aP H2 d (.dT kvs) d=some (.dT kvs):=ai;generalize aP H2 d (.dT kvs)=H3 at s3 hK3 Y8 ⊢;refine λfa hfa=>?_;have hHf:H fa=none:=s3.free hfa;have hdf:d≠fa:=aH Y8 hfa;have s4:aE H (aP H3 fa (.dT [])):=aE.kj s3 hfa;have hK4:kL (aP H3 fa (.dT [])) (cP g (ag g) st) kvs:=hK3.keeps (aE.aP hfa);have hd4:aP H3 fa (.dT []) d=some (.dT kvs):=by rw[aF hdf];exact Y8
  have hf4:aP H3 fa (.dT []) fa=some (.dT []):=ai;generalize aP H3 fa (.dT [])=H4 at s4 hK4 hd4 hf4 ⊢;refine⟨d,.dT kvs,hd4,trivial,λod=>?_⟩;have hK5:kL (aP H4 d (.nB od (.dT kvs))) (cP g (ag g) st) kvs:=(kL.nt (λx hx xs ex=>by
   have:x=d:=by simpa using hx
   rw[this,hd4]at ex;cases ex) hK4).keeps (cS (S:=[d]) (ci _ _) (by simp))
  have s5:aE H (aP H4 d (.nB od (.dT kvs))):= λb o e=>by rw[aF (aH e Xq)];exact s4 _ _ e
  have hf5:aP H4 d (.nB od (.dT kvs)) fa=some (.dT []):=by rw[aF hdf.symm];exact hf4
  have hd5:aP H4 d (.nB od (.dT kvs)) d=some (.nB od (.dT kvs)):=ai;generalize aP H4 d (.nB od (.dT kvs))=H5 at hK5 s5 hf5 hd5 ⊢;obtain⟨ss0,LM,ard⟩:=M.sts;obtain⟨nk0,Cp,are,arf⟩:=M.Uh;have agr:d≠ls:= λz=>by rw[z,LM]at Xq;cases Xq
  have ags:fa≠ls:= λz=>by rw[z,LM]at hHf;cases hHf
  have agt:d≠nm:= λz=>by rw[z,Cp]at Xq;cases Xq
  have agu:fa≠nm:= λz=>by rw[z,Cp]at hHf;cases hHf
  have Y9:ls≠nm:= λz=>by rw[z,Cp]at LM;cases LM
  have M5:xS P w C [d,fa,ls,lm,lw,nm] H5 g a ls lm lw nm ks:=M.to (λb o e=>by obtain⟨h1,h2⟩:=bo.mp e;refine bo.mpr ⟨?_,s5 _ _ h2⟩;have e1:b≠d:=aH h2 Xq;have e2:b≠fa:=aH h2 hHf;simp only[aU,not_or]at h1 ⊢;exact⟨e1,e2,h1⟩) (by rw[s5 _ _ LM,LM]) (by rw[s5 _ _ Cp,Cp])
  have Um:∀x∈[d,fa,ls,nm],∀xs,H5 x≠some (.bV xs):= λx hx xs ex=>by
   have Dl:x=d\/x=fa\/x=ls\/x=nm:=by simpa using hx
   rcases Dl with z|z|z|z
   ·rw[z,hd5]at ex;cases ex
   ·rw[z,hf5]at ex;cases ex
   ·rw[z,s5 _ _ LM]at ex;cases ex
   ·rw[z,s5 _ _ Cp]at ex;cases ex
  have hKb:kL (d6 [d,fa,ls,nm] H5) (cP g (ag g) st) kvs:=kL.nt Um hK5;have Uo:∀{H':Hp},aE (d6 [d,fa,ls,nm] H5) H'->aE (d6 [ls,nm] H) H':= λ{H'} z b o e=>by obtain⟨h1,h2⟩:=bo.mp e;refine z b o (bo.mpr ⟨?_,s5 _ _ h2⟩);simp only[aU,not_or]at h1 ⊢;exact⟨aH h2 Xq,aH h2 hHf,h1⟩
  refine⟨_,rfl,d,od,kvs,rfl,hd5,Le (J:=SJ d od kvs) (n:=kvs.length) (λi σ H'=>∃(v5 v6:Option V),σ=[some (.ref a),some (.ref la),some (.ref nm),some (.ref d),some (.ref fa),v5,v6]/\H' d=some (.nB od (.dT kvs))/\H' fa=some (.dT (rj (((cP g (ag g) st).take i).foldl g2 (ks,[])).2))/\xS P w C [d,fa,ls,lm,lw,nm] H' g a ls lm lw nm (((cP g (ag g) st).take i).foldl g2 (ks,[])).1/\aE (d6 [d,fa,ls,nm] H5) H') ⟨none,none,rfl,hd5,hf5,M5,ci _ _⟩ (λi σ H' hi ⟨_,_,_,h,_⟩=>⟨h,hi⟩) (λσ H' ⟨_,_,_,h,_⟩=>⟨h,aB _⟩) ?_ ?_⟩
  ·rintro i x σ H' H'' hi ⟨v5,v6,rfl,Ai,hf',M',s'⟩ ⟨T',sq,kk,v,CW,rfl,F5,NK,rfl⟩;obtain⟨km,Fa,QP,kb,qs,rfl,hkb,hkq⟩:=b0 hKb CW;have amr:kk=kK km:=QP;subst amr;have ams:=aG Fa;have amt:=zA G ok km ams;have abK:(((cP g (ag g) st).take i).foldl g2 (ks,[])).1.length<=404:=by obtain⟨z,ez,hz⟩:=nO ((cP g (ag g) st).take i) (ks,[]);rw[ez,aw];rw[a4]at hz;have:(ks,([]:List gf)).1.length=ks.length:=rfl;omega
   have abX:=P5 ((cP g (ag g) st).take i) ks;rw[oT Fa];generalize ((cP g (ag g) st).take i).foldl g2 (ks,[])=sk at hf' M' abK abX ⊢;have t6:aE H' (aP H' T' (.bV [.ref sq,.ref kb])):=aE.aP F5;have M6:xS P w C [d,fa,ls,lm,lw,nm] (aP H' T' (.bV [.ref sq,.ref kb])) g a ls lm lw nm sk.1:=by obtain⟨ss,G',_⟩:=M'.sts;obtain⟨nk,hnm,_⟩:=M'.Uh;exact M'.to (uu t6) (by rw[t6 _ _ G',G']) (by rw[t6 _ _ hnm,hnm])
   refine⟨T',_,rfl,eh.of ai,rfl,_,_,rfl,_,_,rfl,rfl,?_⟩;have hd6:=t6 _ _ Ai;have hf6:=t6 _ _ hf';have Up:=t6 _ _ NK;have s6:aE (d6 [d,fa,ls,nm] H5) (aP H' T' (.bV [.ref sq,.ref kb])):=s'.trans t6;generalize aP H' T' (.bV [.ref sq,.ref kb])=H6 at t6 M6 hd6 hf6 Up s6 ⊢;obtain⟨ss,G',Y_⟩:=M6.sts;obtain⟨nk,hnm,hnr,hnk⟩:=M6.Uh;have bs6:=ci [d,fa,ls,lm,lw,nm] H6;have amw:=s6 _ _ hkb;have amx:=hkq.keeps s6;have ND:B4 P w H6 nm nk:=⟨hnm,λp hp=>ny bs6 (hnk p hp)⟩;have NA:jC H6 (ja km.jT) kb:=A1 amw amx;have P6:=hnr.val km.jT;have agx:=a6 Y_;rw[aq]at agx;obtain⟨dx,lr,lc,lo,as,cs,h1,h2,h3,h4,h5,h6⟩:=M6.E4;refine⟨_,rfl,_,rfl,nm,kb,nk,ja km.jT,rfl,rfl,ND,NA,_,rfl,?_⟩;have oH:∀(H7:Hp)(nk':G9)(j:Nat)(QG:List (List Nat)),cj sk.1 km.jT=(QG,j)->H7 d=some (.nB od (.dT kvs))->H7 fa=some (.dT (rj sk.2))->H7 sq=some (.bV ((kK km).map kV))->B4 P w H7 nm nk'->jC H7 (ja km.jT) kb->vY nk' (ja km.jT)=some (nV j)->
    xS P w C [d,fa,ls,lm,lw,nm] H7 g a ls lm lw nm QG->aE (d6 [d,fa,ls,nm] H5) H7->
    ∀D:rX,(∀σ H',(∃(v5 v6:Option V),σ=[some (.ref a),some (.ref la),some (.ref nm),some (.ref d),some (.ref fa),v5,v6]/\H' d=some (.nB od (.dT kvs))/\H' fa=some (.dT (rj (g2 sk km).2))/\xS P w C [d,fa,ls,lm,lw,nm] H' g a ls lm lw nm (g2 sk km).1/\aE (d6 [d,fa,ls,nm] H5) H')->D.nx σ H')->
    YD (rY 4) (rY 5) (YE P w (rY 2) (rY 6)) D [some (.ref a),some (.ref la),some (.ref nm),some (.ref d),some (.ref fa),some (.ref sq),some (.ref kb)] H7:=by
    intro H7 nk' j QG epl hd7 hf7 F_ ND7 NA7 hv7 M7 s7 D hD;have Y':sk.2.length<=276:=by have:=congrArg i0 abX;rw[aq,aq,a4]at this;omega
    have BY:iV (rj sk.2) (kK km)=none:=by
     unfold iV;rw[fZ,gC];intro p hp zz;have hz:p.1=kK km:=of_decide_eq_true zz;obtain⟨m,hm,rfl⟩:=aQ.mp hp;have hz2:vz m=kK km:=hz;unfold vz kK at hz2;have hz3:=da hz2;have e1:=nF hz3.1;have e2:=nF (da hz3.2).1;have:(m.kind,m.over)∈((cP g (ag g) st).take i).map λk=>(k.kind,k.over):=by rw[<-abX];exact aQ.mpr ⟨m,hm,rfl⟩
     obtain⟨k',rN,ek'⟩:=aQ.mp this;obtain⟨j',hj'⟩:=fS rN;have PP:j'<i:=by have:=(ao.mp hj').1;rw[a4]at this;omega
     rw[fH PP]at hj';have amy:=(ao.mp hj').1;have Uq:=(ao.mp Fa).1;have hp:=iQ.mp (oG G st) j' i amy Uq PP;rw[(ao.mp hj').2,(ao.mp Fa).2]at hp;have e3:=hJ ek';rcases hp with q|⟨_,q⟩
     ·have q':k'.kind<km.kind:=q;omega
     ·have q':k'.over<km.over:=q;omega
    refine⟨_,rfl,_,rfl,nm,kb,nk',ja km.jT,_,rfl,rfl,ND7,NA7,hv7,_,rfl,_,rfl,fa,_,rfl,s_.t hf7 F_ (by rw[NP];omega),?_⟩;rw[nU _ BY];have ea:g2 sk km=(QG,sk.2++[{kind:=km.kind,over:=km.over,to:=j}]):=by unfold g2;rw[epl]
    refine hD _ _ ⟨_,_,rfl,by rw[aF hdf];exact hd7,?_,?_,cS s7 (by simp)⟩
    ·rw[ai,ea];unfold rj;rw[aK];rfl
    ·rw[ea];exact M7.to (λb o e=>by rw[mQ (by simp)];exact e) (by rw[aF ags.symm]) (by rw[aF agu.symm])
   have wx:∀o,sk.1.findIdx? (λt=>t==km.jT)=o->cj sk.1 km.jT=match o with
    |some j=>(sk.1,j)|none=>(sk.1++[km.jT],sk.1.length):= λo e=>by
    unfold cj;rw[e];cases o<;>rfl
   cases YS:sk.1.findIdx? (λt=>t==km.jT)with
   |some j=>
    rw[YS]at P6;rw[P6];refine bZ rfl ?_;have ev:(some j).map (λi=>nV (0+i))=some (nV j):=by rw[A3,pJ]
    exact oH H6 nk j sk.1 (wx _ YS) hd6 hf6 Up ND NA (by rw[P6,ev]) M6 s6 _ λ_ _ z=>z
   |none=>
    rw[YS]at P6;rw[P6];have abY:sX g km.jT:=(show qo g km.jT from .inr amt).ok;refine cF rfl ⟨_,rfl,a,C,dx,_,_,rfl,bs6 _ _ h1,TT.cl,TT.QM,pd,ls,_,rfl,.inl (cv.of G'),_,rfl,_,rfl,nm,kb,nk,ja km.jT,rfl,rfl,ND,NA,P6,by rw[hnr.fD];omega,?_⟩;rw[a_,<-agx];have t7:aE (d6 [nm] H6) (aP H6 nm (DN P w nm (nk++[(ja km.jT,kb,V.int (sk.1.length:Nat))]))):=cS (ci _ _) (by simp);have Xr:aP H6 nm (DN P w nm (nk++[(ja km.jT,kb,V.int (sk.1.length:Nat))])) nm=some (DN P w nm (nk++[(ja km.jT,kb,V.int (sk.1.length:Nat))])):=ai;have b7:d6 [d,fa,ls,lm,lw,nm] (aP H6 nm (DN P w nm (nk++[(ja km.jT,kb,V.int (sk.1.length:Nat))])))=d6 [d,fa,ls,lm,lw,nm] H6:=mQ (by simp);have s7:aE (d6 [d,fa,ls,nm] H5) (aP H6 nm (DN P w nm (nk++[(ja km.jT,kb,V.int (sk.1.length:Nat))]))):=cS s6 (by simp);have hd7:aP H6 nm (DN P w nm (nk++[(ja km.jT,kb,V.int (sk.1.length:Nat))])) d=some (.nB od (.dT kvs)):=by rw[aF agt];exact hd6
    have hf7:aP H6 nm (DN P w nm (nk++[(ja km.jT,kb,V.int (sk.1.length:Nat))])) fa=some (.dT (rj sk.2)):=by rw[aF agu];exact hf6
    have Ur:aP H6 nm (DN P w nm (nk++[(ja km.jT,kb,V.int (sk.1.length:Nat))])) ls=some (.be (ss.map V.ref)):=by rw[aF Y9];exact G'
    have F_:aP H6 nm (DN P w nm (nk++[(ja km.jT,kb,V.int (sk.1.length:Nat))])) sq=some (.bV ((kK km).map kV)):=by rw[aF λz=>by rw[z,hnm]at Up;cases Up];exact Up
    have abZ:=s7 _ _ hkb;have ab0:=hkq.keeps s7;generalize aP H6 nm (DN P w nm (nk++[(ja km.jT,kb,V.int (sk.1.length:Nat))]))=H7 at t7 Xr b7 s7 hd7 hf7 Ur F_ abZ ab0 ⊢;have NQ:=ci [d,fa,ls,lm,lw,nm] H7;rw[b7]at NQ;refine⟨_,rfl,a,C,dx,_,_,rfl,NQ _ _ h1,TT.cl,TT.QM,pd,.inl ⟨rfl,_,cv.of Ur⟩,_,rfl,_,rfl,a,kb,g,ls,lm,lw,km.jT,qs,rfl,G,M6.E4.keeps NQ,abZ,ab0,abY,λH8 q8 agy s8 Xs hq8 agz=>?_⟩;have agA:=s8 _ _ Ur;refine⟨ls,_,_,rfl,rfl,agA,by rw[a_];omega,?_⟩;have hm7:H7 lm=some (.be xm):=Uo s7 _ _ (bo.mpr ⟨by simp[dms,dmn],nlm⟩);have hw7:H7 lw=some (.be xw):=Uo s7 _ _ (bo.mpr ⟨by simp[dws,dwn],nlw⟩);have ab1:q8∉[d,fa,ls,lm,lw,nm]:=by
     have n7:∀{b:ah}{o:HO},H7 b=some o->q8≠b:= λ{b o} e z=>by rw[z,e]at Xs;cases Xs
     simp only[aU,not_or];exact⟨n7 hd7,n7 hf7,n7 Ur,n7 hm7,n7 hw7,n7 Xr,by simp⟩
    have Us:∀x∈[d,fa,ls,lm,lw,nm],∀xs,H8 x≠some (.bV xs):= λx hx xs ex=>by
     have Dl:x=d\/x=fa\/x=ls\/x=lm\/x=lw\/x=nm:=by simpa using hx
     rcases Dl with z|z|z|z|z|z
     ·rw[z,s8 _ _ hd7]at ex;cases ex
     ·rw[z,s8 _ _ hf7]at ex;cases ex
     ·rw[z,agA]at ex;cases ex
     ·rw[z,s8 _ _ hm7]at ex;cases ex
     ·rw[z,s8 _ _ hw7]at ex;cases ex
     ·rw[z,s8 _ _ Xr]at ex;cases ex
    have b8:d6 [d,fa,ls,lm,lw,nm] (aP H8 ls (.be (ss.map V.ref++[V.ref q8])))=d6 [d,fa,ls,lm,lw,nm] H8:=mQ (by simp);have sb8:aE (d6 [d,fa,ls,lm,lw,nm] H6) (d6 [d,fa,ls,lm,lw,nm] H8):=by rw[<-b7];exact uu s8
    have ab2:dY (d6 [d,fa,ls,lm,lw,nm] H8) (aV g km.jT) agy:=dY.nt Us agz;have Za:jC (d6 [d,fa,ls,lm,lw,nm] H8) (ja km.jT) kb:=by have h1:=s8 _ _ abZ;exact A1 (bo.mpr ⟨λm=>Us _ m _ h1,h1⟩) (dY.nt Us (ab0.keeps s8))
    have agB:aP H8 ls (.be (ss.map V.ref++[V.ref q8])) nm=some (DN P w nm (nk++[(ja km.jT,kb,V.int (sk.1.length:Nat))])):=by rw[aF Y9.symm];exact s8 _ _ Xr
    have nr9:nw 0 (sk.1++[km.jT]) (nk++[(ja km.jT,kb,V.int (sk.1.length:Nat))]):=by have:=hnr.snoc km.jT kb;rw[pJ]at this;exact this
    have kb9:∀p∈nk++[(ja km.jT,kb,V.int (sk.1.length:Nat))],jC (d6 [d,fa,ls,lm,lw,nm] H8) p.1 p.2.1:= λp hp=>by
     rcases bC.mp hp with z|z
     ·exact ny sb8 (hnk p z)
     ·have:p=(ja km.jT,kb,V.int (sk.1.length:Nat)):=by simpa using z
      rw[this];exact Za
    have M9:xS P w C [d,fa,ls,lm,lw,nm] (aP H8 ls (.be (ss.map V.ref++[V.ref q8]))) g a ls lm lw nm (sk.1++[km.jT]):=by refine⟨by rw[b8];exact M6.E4.keeps sb8,⟨ss++[q8],by rw[ai,aK];rfl,?_⟩,⟨_,agB,nr9,by rw[b8];exact kb9⟩⟩;rw[b8,aK];exact cJ (Y_.keeps sb8) ⟨agy,bo.mpr ⟨ab1,hq8⟩,ab2⟩
    have s9:aE (d6 [d,fa,ls,nm] H5) (aP H8 ls (.be (ss.map V.ref++[V.ref q8]))):=cS (s7.trans s8) (by simp);have up:∀{b:ah}{o:HO},H7 b=some o->b≠ls->aP H8 ls (.be (ss.map V.ref++[V.ref q8])) b=some o:= λ{b o} e hb=>by rw[aF hb];exact s8 _ _ e
    have hv9:vY (nk++[(ja km.jT,kb,V.int (sk.1.length:Nat))]) (ja km.jT)=some (nV sk.1.length):=by rw[nr9.val km.jT,Oe,YS];simp
    refine oH _ _ sk.1.length (sk.1++[km.jT]) (wx _ YS) (up hd7 agr) (up hf7 ags) (up F_ λz=>by rw[z,Ur]at F_;cases F_) ⟨agB,λp hp=>?_⟩ ?_ hv9 M9 s9 _ λ_ _ z=>z
    ·have:=kb9 p hp;rw[<-b8]at this;exact ny (ci _ _) this
    ·have:=Za;rw[<-b8]at this;exact ny (ci _ _) this
  ·rintro σ H' ⟨v5,v6,rfl,Ai,hf',M',s'⟩;rw[<-hKl,a8]at hf' M';refine⟨Ai,_,rfl,k _ fa (λb o e=>?_) hHf ?_ ?_⟩
   ·rw[aF (aH (bo.mp e).2 Xq)];exact Uo s' b o e
   ·rw[aF hdf.symm];exact hf'
   ·refine M'.to (λb o e=>?_) (by rw[aF agr.symm]) (by rw[aF agt.symm]);obtain⟨h1,h2⟩:=bo.mp e;simp only[aU,not_or]at h1;refine bo.mpr ⟨by simp only[aU,not_or];exact h1.2.2,?_⟩;rw[aF h1.1];exact h2
theorem P7{P:a7}{w:bP}(e1:X.prog=P)(e2:X.w=w){ke ve:Expr}{tk tv:TE}(hu:X.A.units+1<iw)(hk:PE X ke tk)(hv:PE X ve tv):PE X (.Dict [some ke] [ve] pos) (SR P w tk tv):=by subst e1 e2;exact SU hu hk hv
def ab3(H:Hp)(r:C0)(q:ah):Prop:=H q=some (.dT (rj r.moves))
def agC(g:aL)(H:Hp)(r:C0)(q:ah):Prop:=H q=some (.be (eS (eL g r.items)))
inductive TabAt(C:ah)(H:Hp)(g:aL)(t:cK)(a:ah):Prop
 |mk (ls lm lw:ah) (ss ms ws:List ah) (_:jo C H g a ls lm lw) (_:H ls=some (.be (ss.map V.ref))) (_:Jx H (t.map (·.items)) ss) (_:H lm=some (.be (ms.map V.ref))) (_:Paired (ab3 H) t ms) (_:H lw=some (.be (ws.map V.ref))) (_:Paired (agC g H) t ws)
theorem TabAt.keeps{C:ah}(s:aE H H')(h:TabAt C H g t a):TabAt C H' g t a:=by obtain⟨ls,lm,lw,ss,ms,ws,h1,h2,h3,h4,h5,h6,h7⟩:=h;exact⟨ls,lm,lw,ss,ms,ws,h1.keeps s,s _ _ h2,h3.keeps s,s _ _ h4,Paired.gJ h5 λ_ _ z=>s _ _ z,s _ _ h6,Paired.gJ h7 λ_ _ z=>s _ _ z⟩
theorem P8{ks:List (List Nat)}{rows:cK}(T:Tb g ks rows)(hl:rows.length=ks.length):rows.map (·.items)=ks.map (aV g):=by
 refine Ae λi=>?_;rw[aM,aM];cases e:rows[i]? with
 |none=>rw[dy (by rw[<-hl];exact iR.mp e)];rfl|some r=>obtain⟨k,h1,_,h3,_⟩:=T.row i r e;rw[h1];show some r.items=some _;rw[h3]
abbrev Ut:dZ:=mm 46
abbrev agD:List bT:=["grammar","table","start","numbers","items"]
inductive LN(Cg C:ah)(vs:List V)(H:Hp)(Q:VK)(E_:XK):Prop
 |mk (a0:ah) (g:aL) (_:vs=[.ref a0]) (_:Good g) (_:aba Cg H g a0) (_:(gL g=none->∀H',aE H H'->Q .non H')) (_:∀t ks,gL g=some t->sY g ks t->t.length<=128->∀H' q,aE H H'->TabAt C H' g t q->Q (.ref q) H')
theorem Uu:bU agD ["grammar"] (a5 Ut):=ml
theorem Xt{Cg:ah}(F:lg K "make_table" "make_table" Ut f fd)(T:Gm mg)(TT:AX K C)(GT:jL P w K mg base "table_without_states" 4 ["grammar"] (YZ Cg C))(GS:jL P w K mg base "start_rule" 1 ["table"] (FW C))(GL:jL P w K mg base "closed" 2 ["table","kernel"] (Co C))(GV:jL P w K mg base "moves_from" 3 ["table","items","numbers"] (NN P w C))(GW:jL P w K mg base "whole_rules" 2 ["table","items"] (NI C)):dQ P w K mg base ki 5 f fd ["grammar"] (LN Cg C):=by
 refine F.ok Uu (λvs H Q E h=>?_) (λgl A bN s H vs Q E hr h=>?_)
 ·obtain⟨a0,g,rfl,_⟩:=h;rfl
 ·obtain⟨a0,g,rfl,G,hG,q0,q1⟩:=h;have nd:=Uu.nd;have hu:=m5 hr;have hsz:al=16777216:=bR;refine⟨_,am (g9 1 nd (cO GT hr (aB _) rfl (af (pv 0) aD))) (am (g9 2 nd (ii (af (ii (af (cO GS hr (by decide) rfl (af (pv 1) aD)) (af aR aD))) aD))) (am (g9 3 nd (P7 (P:=P) (w:=w) rfl rfl hu (pv 2) aR)) (am (fz (i_ bf bv bx d_ (cE (pv 1) rfl) (af (cO GL hr (by decide) rfl (af (pv 1) (af (pv 2) aD))) aD))) (am (mN bi (bY ue (cg bM rfl T.fD bB (af (cE (pv 1) rfl) aD)) (cg bM rfl T.fD bB (af (cE (pv 1) rfl) aD)) (ck _)) (am (dD (bY Iv (cg bM rfl T.fD bB (af (cE (pv 1) rfl) aD)) (lQ T.mst rfl) (ck _)) (aJ (bG gd)) b5) (am (g9 4 nd (ft b_ (cE (pv 1) rfl) (cg bM rfl T.fD bB (af (cE (pv 1) rfl) aD)))) (am (fz (i_ bf bv bx d_ (cE (pv 1) rfl) (af (cO GV hr (by decide) rfl (af (pv 1) (af (pv 4) (af (pv 3) aD)))) aD))) (aJ (fz (i_ bf bv bx d_ (cE (pv 1) rfl) (af (cO GW hr (by decide) rfl (af (pv 1) (af (pv 4) aD))) aD)))))))) (aJ (bG (pv 1))))))),?_⟩;refine⟨_,rfl,a0,g,rfl,G,hG,λH1 a ls lm lw s1 qx G' PU NF n1 n2 n3 d12 d13 d23=>?_⟩;have bs1:=ci [ls,lm,lw] H1;refine⟨_,rfl,a,g,ls,lm,lw,rfl,qx.keeps bs1,(by show 2<=al;decide),λt1 Vv=>⟨(by show 1<=al;decide),λt2 V_=>?_⟩⟩;have u1:aE H1 (aP H1 t1 (.bV [nV g.rules.length,.int 0])):=aE.aP Vv;have u2:aE H1 (aP (aP H1 t1 (.bV [nV g.rules.length,.int 0])) t2 (.bV [.ref t1])):=aE.kj u1 V_;have amA:t1≠t2:= λz=>by rw[<-z,ai]at V_;cases V_
  have Xu:aP (aP H1 t1 (.bV [nV g.rules.length,.int 0])) t2 (.bV [.ref t1]) t2=some (.bV ([t1].map V.ref)):=ai;have Xv:dY (aP (aP H1 t1 (.bV [nV g.rules.length,.int 0])) t2 (.bV [.ref t1])) (dO g) [t1]:=by refine .cons ?_ .nil;show _=some (HO.bV _);rw[aF amA,ai];unfold hX fF;rw[show(g.rules.length*16+0)/16=g.rules.length by omega,show(g.rules.length*16+0)%16=0 by omega];rfl
  generalize aP (aP H1 t1 (.bV [nV g.rules.length,.int 0])) t2 (.bV [.ref t1])=H2 at u2 Xu Xv ⊢;refine λnm Cp=>?_;have hNA:jC H2 (ja (dO g)) t2:=A1 Xu Xv;have u3:aE H2 (aP H2 nm (DN P w nm [])):=aE.aP Cp;refine⟨_,rfl,t2,ja (dO g),rfl,ai,ny u3 hNA,?_⟩;have u4:aE H2 (aP (aP H2 nm (DN P w nm [])) nm (DN P w nm [(ja (dO g),t2,.int 0)])):= λb o e=>by rw[aF (aH e Cp),aF (aH e Cp)];exact e
  have ab4:aP (aP H2 nm (DN P w nm [])) nm (DN P w nm [(ja (dO g),t2,.int 0)]) nm=some (DN P w nm [(ja (dO g),t2,.int 0)]):=ai;generalize aP (aP H2 nm (DN P w nm [])) nm (DN P w nm [(ja (dO g),t2,.int 0)])=H4 at u4 ab4 ⊢;have Xk:aE H1 H4:=u2.trans u4;have zX:H1 nm=none:=u2.free Cp;have amB:nm≠ls:= λz=>by rw[z,G']at zX;cases zX
  have ab5:nm≠lm:= λz=>by rw[z,PU]at zX;cases zX
  have ab6:nm≠lw:= λz=>by rw[z,NF]at zX;cases zX
  have NR:jo C (d6 [ls,lm,lw,nm] H4) g a ls lm lw:=qx.keeps λb o e=>by obtain⟨h1,h2⟩:=bo.mp e;refine bo.mpr ⟨?_,Xk _ _ h2⟩;have:b≠nm:=aH h2 zX;simp only[aU,not_or]at h1 ⊢;exact⟨h1.1,h1.2.1,h1.2.2.1,this,by simp⟩
  have bs4:=ci [ls,lm,lw,nm] H4;obtain⟨dx,lr,lc,lo,as,cs,qy,Hd,Jy,Kb,Kc,He⟩:=NR;have NR:jo C (d6 [ls,lm,lw,nm] H4) g a ls lm lw:=⟨dx,lr,lc,lo,as,cs,qy,Hd,Jy,Kb,Kc,He⟩;have abY:sX g (dO g):=(show qo g (dO g)from .inl rfl).ok;have PR:=Xk _ _ G';refine⟨_,rfl,a,C,dx,_,_,rfl,bs4 _ _ qy,TT.cl,TT.QM,pd,.inl ⟨rfl,_,cv.of PR⟩,_,rfl,_,rfl,a,t2,g,ls,lm,lw,dO g,[t1],rfl,G,NR.keeps bs4,u4 _ _ Xu,Xv.keeps u4,abY,λH5 q5 amC s5 amD P9 agE=>?_⟩;have agF:=s5 _ _ PR;refine⟨ls,_,_,rfl,rfl,agF,(by show 0<al;omega),?_⟩;have amE:∀{H6:Hp}{xm xw xs:List V}{kv:G9},H6 ls=some (.be xs)->H6 lm=some (.be xm)->H6 lw=some (.be xw)->H6 nm=some (DN P w nm kv)->∀x∈[ls,lm,lw,nm],∀ys,H6 x≠some (.bV ys):= λe1 e2 e3 e4 x hx ys ex=>by
   have Dl:x=ls\/x=lm\/x=lw\/x=nm:=by simpa using hx
   rcases Dl with z|z|z|z
   ·rw[z,e1]at ex;cases ex
   ·rw[z,e2]at ex;cases ex
   ·rw[z,e3]at ex;cases ex
   ·rw[z,e4]at ex;cases ex
  have LO:∀{H6:Hp}{xm xw xs:List V}{kv:G9}{q:ah},H6 ls=some (.be xs)->H6 lm=some (.be xm)->H6 lw=some (.be xw)->H6 nm=some (DN P w nm kv)->H6 q=none->q∉[ls,lm,lw,nm]:= λ{H6 xm xw xs kv q} e1 e2 e3 e4 eq hx=>by
   have Dl:q=ls\/q=lm\/q=lw\/q=nm:=by simpa using hx
   rcases Dl with z|z|z|z
   ·rw[z,e1]at eq;cases eq
   ·rw[z,e2]at eq;cases eq
   ·rw[z,e3]at eq;cases eq
   ·rw[z,e4]at eq;cases eq
  have agG:=Xk _ _ PU;have agH:=Xk _ _ NF;have agI:=s5 _ _ ab4;have T3:=s5 _ _ agG;have agJ:=s5 _ _ agH;have Um:=amE agF T3 agJ agI;have b6:d6 [ls,lm,lw,nm] (aP H5 ls (.be ([]++[V.ref q5])))=d6 [ls,lm,lw,nm] H5:=mQ (by simp);have M6:xS P w C [ls,lm,lw,nm] (aP H5 ls (.be ([]++[V.ref q5]))) g a ls lm lw nm [dO g]:=by
   refine⟨by rw[b6];exact NR.keeps (uu s5),⟨[q5],ai,?_⟩,⟨[(ja (dO g),t2,.int 0)],by rw[aF amB];exact agI,⟨rfl,rfl,trivial⟩,λp hp=>?_⟩⟩
   ·rw[b6];exact .cons ⟨amC,bo.mpr ⟨LO PR agG agH ab4 amD,P9⟩,dY.nt Um agE⟩ .nil
   ·have:p=(ja (dO g),t2,V.int 0):=by simpa using hp
    rw[this,b6];have h1:=s5 _ _ (u4 _ _ Xu);exact A1 (bo.mpr ⟨λm=>Um _ m _ h1,h1⟩) (dY.nt Um ((Xv.keeps u4).keeps s5))
  have agK:aP H5 ls (.be ([]++[V.ref q5])) lm=some (.be []):=by rw[aF d12.symm];exact T3
  have agL:aP H5 ls (.be ([]++[V.ref q5])) lw=some (.be []):=by rw[aF d13.symm];exact agJ
  have s6:aE H (aP H5 ls (.be ([]++[V.ref q5]))):= λb o e=>by rw[aF (aH e n1)];exact s5 _ _ (Xk _ _ (s1 _ _ e))
  have amF:H nm=none:=s1.free zX;generalize aP H5 ls (.be ([]++[V.ref q5]))=H6 at M6 agK agL s6 ⊢;refine⟨λm σ H'=>∃(ks:List (List Nat))(rows:cK)(ms ws:List ah)(v4:Option V),m=200-rows.length/\σ=[some (.ref a0),some (.ref a),some (.ref t2),some (.ref nm),v4]/\xS P w C [ls,lm,lw,nm] H' g a ls lm lw nm ks/\H' lm=some (.be (ms.map V.ref))/\Paired (ab3 (d6 [ls,lm,lw,nm] H')) rows ms/\H' lw=some (.be (ws.map V.ref))/\Paired (agC g (d6 [ls,lm,lw,nm] H')) rows ws/\Blt g rows.length ks rows/\Tb g ks rows/\aE H H'/\rows.length<=128,⟨_,[dO g],[],[],[],none,rfl,rfl,M6,agK,.nil,agL,.nil,Oo g,Rx g,s6,bj _⟩,?_⟩;rintro m σ H' ⟨ks,rows,ms,ws,v4,rfl,rfl,M,hM,hMv,hW,hWh,B,TB,s7,yY⟩;obtain⟨ss,Y_,hSt⟩:=M.sts;obtain⟨nk,hnk,hnr,arp⟩:=M.Uh;have NQ:=ci [ls,lm,lw,nm] H';obtain⟨dx,lr,lc,lo,as,cs,qy,Hd,Jy,Kb,Kc,He⟩:=M.E4;have tG:=a6 hSt;rw[aq]at tG;have Y':=a6 hMv;have QK:=a6 hWh;refine⟨_,rfl,a,C,dx,_,_,rfl,NQ _ _ qy,TT.cl,TT.YM,wa,lm,_,rfl,.inl (cv.of hM),_,rfl,a,C,dx,_,_,rfl,NQ _ _ qy,TT.cl,TT.QM,pd,ls,_,rfl,.inl (cv.of Y_),_,_,rfl,rfl,_,rfl,?_⟩;rw[a_,a_,<-Y',<-tG];by_cases f8:rows.length<ks.length
  ·refine cF (decide_eq_true (by omega)) ⟨_,λ_ _ z=>z,?_⟩;refine⟨_,rfl,a,C,dx,_,_,rfl,NQ _ _ qy,TT.cl,TT.QM,pd,ls,_,rfl,.inl (cv.of Y_),_,_,rfl,rfl,_,rfl,?_⟩;rw[a_,<-tG];by_cases agM:128<ks.length
   ·refine cF (decide_eq_true (by omega)) ?_;exact q0 (Rh B agM) H' s7
   ·refine bZ (decide_eq_false (by omega)) ?_;obtain⟨k0,Yz⟩:∃k,ks[rows.length]? =some k:=⟨_,ay f8⟩;have hkc:(ks.map (aV g))[rows.length]? =some (aV g k0):=by rw[aM,Yz];rfl
    obtain⟨la,hla,cc,LF,Zb⟩:=L2.fV hSt hkc;have hKS:=B.jT k0 (aG Yz);have d5:sX g (aV g k0):=hKS.ok.close;refine⟨_,rfl,a,C,dx,_,_,rfl,NQ _ _ qy,TT.cl,TT.QM,pd,_,rfl,a,C,dx,_,_,rfl,NQ _ _ qy,TT.cl,TT.YM,wa,lm,_,rfl,.inl (cv.of hM),ls,_,_,_,rfl,rfl,cv.of Y_,SD (j:=rows.length) (by rw[a_,Y']) (by rw[aM,hla];rfl),?_⟩;refine⟨_,rfl,a,C,dx,_,_,rfl,NQ _ _ qy,TT.cl,TT.YM,wa,.inl ⟨rfl,_,cv.of hM⟩,_,rfl,_,rfl,_,rfl,a,la,nm,g,ls,lm,lw,ks,aV g k0,cc,rfl,G,M,LF,Zb,d5,by omega,⟨_,hM⟩,⟨_,hW⟩,d12.symm,d13.symm,ab5.symm,ab6.symm,λH8 q8 s8 Xs hq8 M8=>?_⟩;have hM8:H8 lm=some (.be (ms.map V.ref)):=s8 _ _ (bo.mpr ⟨by simp[d12.symm,ab5.symm],hM⟩);have hW8:H8 lw=some (.be (ws.map V.ref)):=s8 _ _ (bo.mpr ⟨by simp[d13.symm,ab6.symm],hW⟩);refine⟨lm,_,_,rfl,rfl,hM8,by rw[a_];omega,?_⟩;have sb8:aE (d6 [ls,lm,lw,nm] H') (d6 [ls,lm,lw,nm] H8):= λb o e=>by obtain⟨h1,h2⟩:=bo.mp e;refine bo.mpr ⟨h1,s8 _ _ (bo.mpr ⟨?_,h2⟩)⟩;simp only[aU,not_or]at h1 ⊢;exact⟨h1.1,h1.2.2.2.1,by simp⟩
    have b9:d6 [ls,lm,lw,nm] (aP H8 lm (.be (ms.map V.ref++[V.ref q8])))=d6 [ls,lm,lw,nm] H8:=mQ (by simp);have ab1:=LO Y_ hM hW hnk Xs;have agN:Paired (ab3 (d6 [ls,lm,lw,nm] (aP H8 lm (.be (ms.map V.ref++[V.ref q8]))))) (rows++[{items:=aV g k0,moves:=(jA g (ag g) ks (aV g k0)).2}]) (ms++[q8]):=by rw[b9];exact cJ (Paired.gJ hMv λ_ _ z=>sb8 _ _ z) (bo.mpr ⟨ab1,hq8⟩)
    have hM9:aP H8 lm (.be (ms.map V.ref++[V.ref q8])) lm=some (.be ((ms++[q8]).map V.ref)):=by rw[ai,aK];rfl
    have hW9:aP H8 lm (.be (ms.map V.ref++[V.ref q8])) lw=some (.be (ws.map V.ref)):=by rw[aF d23.symm];exact hW8
    have M9:xS P w C [ls,lm,lw,nm] (aP H8 lm (.be (ms.map V.ref++[V.ref q8]))) g a ls lm lw nm (jA g (ag g) ks (aV g k0)).1:=M8.to (by rw[b9];exact aE.Pu) (by rw[aF d12]) (by rw[aF ab5]);have sb9:aE (d6 [ls,lm,lw,nm] H') (d6 [ls,lm,lw,nm] (aP H8 lm (.be (ms.map V.ref++[V.ref q8])))):=by rw[b9];exact sb8
    have s9:aE H (aP H8 lm (.be (ms.map V.ref++[V.ref q8]))):= λb o e=>by rw[aF (aH e n2)];refine s8 _ _ (bo.mpr ⟨?_,s7 _ _ e⟩);simp[aH e n1,aH e amF]
    generalize aP H8 lm (.be (ms.map V.ref++[V.ref q8]))=H9 at agN hM9 hW9 M9 sb9 s9 ⊢;have bs9:=ci [ls,lm,lw,nm] H9;obtain⟨ss9,ab7,_⟩:=M9.sts;obtain⟨nk9,ab8,_⟩:=M9.Uh;have Xw:(aV g k0).length<=976:=jz d5.J9 λc hc=>oF G (d5.ok c hc);refine⟨_,rfl,a,C,dx,_,_,rfl,bs9 _ _ (sb9 _ _ qy),TT.cl,TT.who,FV,.inl ⟨rfl,_,cv.of hW9⟩,_,rfl,_,rfl,a,la,g,ls,lm,lw,aV g k0,cc,rfl,M9.E4.keeps bs9,bs9 _ _ (sb9 _ _ LF),(Zb.keeps sb9).keeps bs9,d5.ok,Xw,λYB q10 J_ agP ab9=>?_⟩;have amL:=J_ _ _ hW9;refine⟨lw,_,_,rfl,rfl,amL,by rw[a_,<-QK];omega,?_⟩;have b11:d6 [ls,lm,lw,nm] (aP YB lw (.be (ws.map V.ref++[V.ref q10])))=d6 [ls,lm,lw,nm] YB:=mQ (by simp);have aca:aE (d6 [ls,lm,lw,nm] H9) (d6 [ls,lm,lw,nm] (aP YB lw (.be (ws.map V.ref++[V.ref q10])))):=by rw[b11];exact uu J_
    have agQ:=LO ab7 hM9 hW9 ab8 agP;refine⟨200-(rows.length+1),by omega,(jA g (ag g) ks (aV g k0)).1,rows++[{items:=aV g k0,moves:=(jA g (ag g) ks (aV g k0)).2}],ms++[q8],ws++[q10],_,by rw[aw,bp],rfl,M9.to aca (by rw[aF d13,J_ _ _ ab7,ab7]) (by rw[aF ab6,J_ _ _ ab8,ab8]),by rw[aF d23];exact J_ _ _ hM9,Paired.gJ agN λ_ _ z=>aca _ _ z,by rw[ai,aK];rfl,?_,?_,V2 TB Yz hKS,λb o e=>?_,by rw[aw,bp];omega⟩
    ·refine cJ (Paired.gJ hWh λ_ _ z=>aca _ _ (sb9 _ _ z)) ?_;rw[b11];exact bo.mpr ⟨agQ,ab9⟩
    ·rw[aw,bp];exact Rf G B Yz (by show ks.length<=128;omega)
    ·rw[aF (aH e n3)];exact J_ _ _ (s9 _ _ e)
  ·have yM:=B.le;have heq:rows.length=ks.length:=by omega
   refine bZ (decide_eq_false (by omega)) ⟨_,rfl,?_⟩;have agR:ks.length<=128:=by omega
   refine q1 rows ks (Rg B heq.symm agR) {toTb:=TB,fD:=heq} (by omega) H' a s7 ⟨ls,lm,lw,ss,ms,ws,M.E4.keeps NQ,Y_,?_,hM,Paired.gJ hMv λ_ _ z=>NQ _ _ z,hW,Paired.gJ hWh λ_ _ z=>NQ _ _ z⟩;rw[P8 TB heq];exact hSt.keeps NQ
inductive agS(x y:V)(H:Hp)(Q:VK):Prop
 |mk (m c:Nat) (_:x=nV m) (_:y=nV c) (_:Q (nV (m/2^c)) H)
theorem Xx:uQ X (lV .RShift) agS:=by
 intro pins s σ H x y v u Q I rx ry h;obtain⟨m,c,e1,e2,q⟩:=h;refine aaq pins s σ H x y v u Q I rx ry ⟨m,c,e1,e2,by omega,?_⟩;show Q (V.int ((m:Int)/2^((c:Int)).toNat)) H;have e:((m:Int)/2^((c:Int)).toNat)=((m/2^c:Nat):Int):=by rw[show((c:Int)).toNat=c by omega];simp
 rw[e];exact q
inductive agT(x y:V)(H:Hp)(Q:VK):Prop
 |mk (m:Nat) (_:x=nV m) (_:y= .int 1) (_:Q (nV (m%2)) H)
theorem Xy:uQ X (lV .BitAnd) agT:=by
 intro pins s σ H x y v u Q I rx ry h;obtain⟨m,e1,e2,q⟩:=h;refine aar pins s σ H x y v u Q I rx ry ⟨m,1,e1,e2,?_⟩;show Q (V.int (Vf (m:Int) 1)) H;rw[bitAnd_m1];have e:((m:Int)%2)=((m%2:Nat):Int):=by omega
 rw[e];exact q
def wf(m e:Nat):List Nat:=(bE (e+1)).filter λc=>m.testBit c
theorem Cq{m e:Nat}(h:m<2^(e+1)):c∈wf m e↔m.testBit c=true:=by
 unfold wf;rw[dE,eV];constructor
 ·exact λz=>z.2
 ·intro z;refine⟨?_,z⟩;by_cases q:c<e+1
  ·exact q
  ·rw[Mu (bX h (oO (by decide) (by omega)))]at z;cases z
def LP(H:Hp)(l:List Nat)(q:ah):Prop:=H q=some (.be (eS l))
def jb(g:aL)(cN:List Nat):List (List Nat):=(cN.map λm=>wf m (gs g))++[[gs g]]
abbrev Gc:dZ:=mm 51
inductive NS(vs:List V)(H:Hp)(Q:VK)(E_:XK):Prop
 |mk (m e:Nat) (_:vs=[nV m,nV e]) (_:e<=300) (_:∀(H':Hp)(q:ah),aE H H'->H q=none->H' q=some (.be (eS (wf m e)))->Q (.ref q) H')
theorem NT:bU ["bits","end","column"] ["bits","end"] (a5 Gc):=ml
theorem Uv(F:lg K "columns_in" "columns_in" Gc f fd)(T:Gm mg):dQ P w K mg base ki 1 f fd ["bits","end"] NS:=by
 refine F.ok NT (λvs H Q E h=>?_) (λgl A bN s H vs Q E hr h=>?_)
 ·obtain⟨m,e,rfl,_⟩:=h;rfl
 ·obtain⟨m,e,rfl,he,k⟩:=h;have nd:=NT.nd;have hsz:al=16777216:=bR;refine⟨_,aJ (bG (qb (own:=[("column",2)]) rfl nd (uO rfl T.range (af (e7 i9 (pv 1) aR) aD)) (gi (N:=["bits","end","column"]) (sc:=a5 Gc) (by decide+kernel)) (λ_ _ _ _ _=>nr 2 nd) (λ_ _ _ _ _=>se (bY g8 (e7 Xy (e7 Xx (pv 0) (pv 2)) aR) aR (ck _))) (λ_ _ _ _ _=>pv 2))),?_⟩;refine⟨_,rfl,_,_,rfl,rfl,_,rfl,by omega,by omega,λD hD=>?_⟩;have e1:((e:Int)+1).toNat=e+1:=by omega
  rw[e1];refine IM (lo:=0) (n:=e+1) (λi H3=>aE H H3/\H3 D=some (.be (eS ((bE i).filter λc=>m.testBit c)))) ⟨aE.aP hD,ai⟩ ?_ ?_
  ·rintro i H3 hi ⟨s3,li⟩;rw[Ms];have hl:((bE i).filter λc=>m.testBit c).length<=301:=by refine aW (cp _ _) ?_;rw[fh];omega
   refine⟨rfl,_,rfl,_,rfl,m,i,rfl,rfl,_,rfl,rfl,rfl,_,rfl,?_⟩;rw[gY,eU];have et:m.testBit i=decide (m/2^i%2=1):=Nat.testBit_eq_decide_div_mod_eq;by_cases hb:m/2^i%2=1
   ·have eb:m.testBit i=true:=by rw[et];exact decide_eq_true hb
    refine cF (dV (by rw[hb];rfl)) ⟨_,rfl,_,li,by rw[fO];omega,λx o ex=>?_,?_⟩
    ·rw[aF (aH ex hD)];exact s3 _ _ ex
    ·rw[ai,eB,if_pos eb];unfold eS;rw[aK];rfl
   ·have eb:¬m.testBit i=true:=by rw[et];simpa using hb
    refine bZ (mh (by omega)) ⟨s3,?_⟩;rw[eB,if_neg eb];show _=some (HO.be (eS (_++[])));rw[cz];exact li
  ·rintro H3 ⟨s3,li⟩;exact k H3 D s3 hD li
abbrev NU:dZ:=mm 52
inductive Uw(C:ah)(vs:List V)(H:Hp)(Q:VK)(E_:XK):Prop
 |mk (a:ah) (g:aL) (ls lm lw:ah) (_:vs=[.ref a]) (_:Good g) (_:jo C H g a ls lm lw) (_:∀(H':Hp)(q:ah)(cs:List ah)(cN:List Nat),aE H H'->H q=none->lC g cN->H' q=some (.be (cs.map V.ref))->Paired (LP H') (jb g cN) cs->Q (.ref q) H')
theorem Ux:bU ["table","end","columns","bits"] ["table"] (a5 NU):=ml
theorem Xz(F:lg K "columns_that_follow" "columns_that_follow" NU f fd)(GE:jL P w K mg base "end_column" 1 ["table"] (Nq C))(GF:jL P w K mg base "follow_sets" 4 ["table"] (YQ C))(GC:jL P w K mg base "columns_in" 1 ["bits","end"] NS):dQ P w K mg base ki 5 f fd ["table"] (Uw C):=by
 refine F.ok Ux (λvs H Q E h=>?_) (λgl A bN s H vs Q E hr h=>?_)
 ·obtain⟨a,g,ls,lm,lw,rfl,_⟩:=h;rfl
 ·obtain⟨a,g,ls,lm,lw,rfl,G,hT,k⟩:=h;have nd:=Ux.nd;have hsz:al=16777216:=bR;have De:=(eO G).2;refine⟨_,am (vS (i:=1) nd rfl (by first|exact l8 rfl|exact mU rfl|exact mU (l8 rfl)) (cO GE hr (by decide) rfl (af (pv 0) aD))) (am (xl (i:=2) (own:=[("bits",3)]) rfl nd rfl rfl rfl (fA (cO GF hr (aB _) rfl (af (pv 0) aD))) (gi (N:=["table","end","columns","bits"]) (sc:=a5 NU) (by decide+kernel)) (λ_ _ _ _ _=>nr 3 nd) (λ_ _ _ _ _=>mP) (λ_ _ _ _ _=>cO GC hr (by decide) rfl (af (pv 3) (af (pv 1) aD)))) (am (fz (i_ bf bv bx d_ (pv 2) (af (cV (af (pv 1) aD)) aD))) (aJ (bG (pv 2))))),?_⟩;refine⟨_,rfl,a,g,ls,lm,lw,rfl,hT,?_⟩;refine⟨_,rfl,a,g,ls,lm,lw,rfl,G,hT,λH1 fa cN s1 hf0 hf FO=>⟨fa,rfl,⟨_,cv.of hf⟩,λD hD=>?_⟩⟩;refine nE (K:=K) (a:=fa) (xs:=eS cN) (λi H3=>aE H1 H3/\∃cs:List ah,H3 D=some (.be (cs.map V.ref))/\D∉cs/\Paired (LP H3) ((cN.take i).map λm=>wf m (gs g)) cs) ⟨aE.aP hD,[],ai,by simp,.nil⟩ (λi H3 _ ⟨s4,_⟩=>cv.of (s4 _ _ hf)) ?_ ?_
  ·rintro i x H3 hi ⟨s3,cs,li,hDc,PM⟩;obtain⟨m,hm,rfl⟩:∃m,cN[i]? =some m/\x=nV m:=by
    unfold eS at hi;rw[aM]at hi;cases e:cN[i]? with|none=>rw[e]at hi;cases hi|some m=>rw[e]at hi;exact⟨m,rfl,(ax hi).symm⟩
   have IL:cs.length<=20:=by rw[<-a6 PM,aq,a4,FO.fD];have:=G.tJ;omega
   refine⟨rfl,_,rfl,_,rfl,m,gs g,rfl,by unfold gs;omega,λH4 q s4 sm hq=>?_⟩;have vx:=s4 _ _ li;have hqD:q≠D:= λz=>by rw[z,li]at sm;cases sm
   refine⟨_,vx,by rw[a_];omega,λc o ec=>?_,cs++[q],by rw[ai,aK];rfl,?_,?_⟩
   ·rw[aF (aH ec hD)];exact s4 _ _ (s3 _ _ ec)
   ·simp only[bC,my,not_or];exact⟨hDc,hqD.symm⟩
   ·rw[gA hm];refine cJ ?_ (by show aP H4 D _ q=_;rw[aF hqD];exact hq);have key:∀{l:List (List Nat)}{ds:List ah},(∀d∈ds,d≠D)->Paired (LP H3) l ds->Paired (LP (aP H4 D (.be (cs.map V.ref++[V.ref q])))) l ds:=by
     intro l ds Jz hp;induction hp with|nil=>exact .nil|cons r _ ih=>exact .cons (by show aP H4 D _ _=_;rw[aF (Jz _ (aC ..))];exact s4 _ _ r) (ih λd hd=>Jz d (az _ hd))
    exact key (λd hd z=>hDc (by rw[<-z];exact hd)) PM
  ·rintro H3 ⟨s3,cs,li,hDc,PM⟩;rw[fO,a8]at PM;refine⟨_,rfl,.inl ⟨rfl,_,cv.of li⟩,_,rfl,(by show 1<=al;omega),λu hu=>?_⟩;have t4:aE H3 (aP H3 u (.be [nV (gs g)])):=aE.aP hu;have vx:=t4 _ _ li;have huD:u≠D:= λz=>by rw[z,li]at hu;cases hu
   have IL:cs.length<=20:=by rw[<-a6 PM,aq,FO.fD];exact G.tJ
   refine⟨D,_,_,rfl,rfl,vx,by rw[a_];omega,?_⟩;refine⟨_,rfl,k _ D (cs++[u]) cN (λb o e=>?_) (s1.free hD) FO (by rw[ai,aK];rfl) ?_⟩
   ·rw[aF (aH (s1 _ _ e) hD)];exact t4 _ _ (s3 _ _ (s1 _ _ e))
   ·unfold jb;refine cJ ?_ (by show aP _ D _ u=_;rw[aF huD,ai];rfl);have key:∀{l:List (List Nat)}{ds:List ah},(∀d∈ds,d≠D)->Paired (LP H3) l ds->Paired (LP (aP (aP H3 u (.be [nV (gs g)])) D (.be (cs.map V.ref++[V.ref u])))) l ds:=by
     intro l ds Jz hp;induction hp with|nil=>exact .nil|cons r _ ih=>exact .cons (by show aP _ D _ _=_;rw[aF (Jz _ (aC ..))];exact t4 _ _ r) (ih λd hd=>Jz d (az _ hd))
    exact key (λd hd z=>hDc (by rw[<-z];exact hd)) PM
def DG(c:Nat):fE:=bJ (c:Int)
theorem uW(a b:Nat)(h:DG a=DG b):a=b:=nF h
def acb(H:Hp)(p:Nat×Nat)(q:ah):Prop:=H q=some (.bV [nV p.1,nV p.2])
def uy(H:Hp)(l:List (Nat×Nat))(qs:List ah):Prop:=Paired (acb H) l qs
theorem uy.keeps(s:aE H H'){l:List (Nat×Nat)}(h:uy H l qs):uy H' l qs:=Paired.gJ h λ_ _ z=>s _ _ z
structure zY(H0 H:Hp)(T:Nat->List (Nat×Nat))(d:ah)(ks:List Nat)(ad:Nat->ah):Prop where
 dict:H d=some (.dK (gD DG ks λb=> .ref (ad b)))
 nd:ks.Nodup
 mem:∀c,c∈ks↔T c≠[]
 inj:∀b∈ks,∀b'∈ks,ad b=ad b'->b=b'
 new:∀b∈ks,H0 (ad b)=none
 be:∀c∈ks,∃qs:List ah,H (ad c)=some (.be (qs.map V.ref))/\uy H (T c) qs
theorem zY.keeps(s:aE H H')(h:zY H0 H T d ks ad):zY H0 H' T d ks ad:=⟨s _ _ h.dict,h.nd,h.mem,h.inj,h.new,λc hc=>let⟨qs,h1,h2⟩:=h.be c hc;⟨qs,s _ _ h1,h2.keeps s⟩⟩
theorem zY.congr{T':Nat->List (Nat×Nat)}(h:zY H0 H T d ks ad)(e:∀c,T c=T' c):zY H0 H T' d ks ad:=by have:T=T':=funext e;rw[<-this];exact h
theorem zY.add(R:zY H0 H T d ks ad)(hc:T c=[]){l:ah}{ths:List (Nat×Nat)}(Av:H0 l=none)(j8:ths≠[])(Xl:∀b∈ks,ad b≠l)(Ai:H' d=some (.dK (gD DG (ks++[c]) λx=>V.ref (if x=c then l else ad x))))(OH:H' l=some (.be (qs.map V.ref)))(hq:uy H' ths qs)(hk:∀b∈ks,∀xs,H (ad b)=some (.be xs)->H' (ad b)=some (.be xs))(ht:∀q xs,H q=some (.bV xs)->H' q=some (.bV xs)):zY H0 H' (λx=>if x=c then ths else T x) d (ks++[c]) (λx=>if x=c then l else ad x):=by
 have xT:c∉ks:= λz=>(R.mem c).mp z hc;refine⟨Ai,?_,λx=>?_,λb1 h1 b2 h2 ee=>?_,λb hb=>?_,λb hb=>?_⟩
 ·rw[f_];exact⟨R.nd,by simp,λx hx y hy e=>xT (by
   have:y=c:=by simpa using hy
   rw[<-this,<-e];exact hx)⟩
 ·rw[bC];by_cases e:x=c
  ·subst e;show _↔(if x=x then ths else T x)≠[];rw[if_pos rfl];exact⟨λ_=>j8,λ_=> .inr (by simp)⟩
  ·show _↔(if x=c then ths else T x)≠[];rw[if_neg e,<-R.mem x];exact⟨λz=>z.elim id λz=>absurd (by simpa using z) e,λz=> .inl z⟩
 ·have m1:b1∈ks\/b1=c:=by simpa using h1
  have m2:b2∈ks\/b2=c:=by simpa using h2
  by_cases e1:b1=c
  ·by_cases e2:b2=c
   ·rw[e1,e2]
   ·simp only[if_pos e1,if_neg e2]at ee;exact absurd ee.symm (Xl b2 (m2.resolve_right e2))
  ·by_cases e2:b2=c
   ·simp only[if_neg e1,if_pos e2]at ee;exact absurd ee (Xl b1 (m1.resolve_right e1))
   ·simp only[if_neg e1,if_neg e2]at ee;exact R.inj b1 (m1.resolve_right e1) b2 (m2.resolve_right e2) ee
 ·show H0 (if b=c then l else ad b)=none;by_cases e1:b=c
  ·rw[if_pos e1];exact Av
  ·rw[if_neg e1];have m1:b∈ks\/b=c:=by simpa using hb
   exact R.new b (m1.resolve_right e1)
 ·by_cases e1:b=c
  ·subst e1;refine⟨qs,?_,?_⟩
   ·show H' (if b=b then l else ad b)=_;rw[if_pos rfl];exact OH
   ·show uy H' (if b=b then ths else T b) qs;rw[if_pos rfl];exact hq
  ·have m1:b∈ks:=by
    have:b∈ks\/b=c:=by simpa using hb
    exact this.resolve_right e1
   obtain⟨VC,h1,h2⟩:=R.be b m1;refine⟨VC,?_,?_⟩
   ·show H' (if b=c then l else ad b)=_;rw[if_neg e1];exact hk b m1 _ h1
   ·show uy H' (if b=c then ths else T b) VC;rw[if_neg e1];exact Paired.gJ h2 λ_ _ z=>ht _ _ z
theorem zY.more(R:zY H0 H T d ks ad)(hc:c∈ks){ths:List (Nat×Nat)}(j8:ths≠[])(Ai:H' d=H d)(OH:H' (ad c)=some (.be (qs.map V.ref)))(hq:uy H' ths qs)(hk:∀b∈ks,b≠c->∀xs,H (ad b)=some (.be xs)->H' (ad b)=some (.be xs))(ht:∀q xs,H q=some (.bV xs)->H' q=some (.bV xs)):zY H0 H' (λx=>if x=c then ths else T x) d ks ad:=by
 refine⟨by rw[Ai];exact R.dict,R.nd,λx=>?_,R.inj,R.new,λb hb=>?_⟩
 ·by_cases e:x=c
  ·subst e;show _↔(if x=x then ths else T x)≠[];rw[if_pos rfl];exact⟨λ_=>j8,λ_=>hc⟩
  ·show _↔(if x=c then ths else T x)≠[];rw[if_neg e];exact R.mem x
 ·by_cases e1:b=c
  ·subst e1;exact⟨qs,OH,by show uy H' (if b=b then ths else T b) qs;rw[if_pos rfl];exact hq⟩
  ·obtain⟨VC,h1,h2⟩:=R.be b hb;refine⟨VC,hk b hb e1 _ h1,?_⟩;show uy H' (if b=c then ths else T b) VC;rw[if_neg e1];exact Paired.gJ h2 λ_ _ z=>ht _ _ z
def Hf(mv:List gf)(c:Nat):List (Nat×Nat):=match mv.find? (λm=>m.kind==1&&m.over==c)with|some m=>[(0,m.to)]|none=>[]
theorem JA(mv:List gf)(m:gf)(h:∀m'∈mv,(m'.kind,m'.over)≠(m.kind,m.over))(c:Nat):Hf (mv++[m]) c=if m.kind=1/\c=m.over then[(0,m.to)]else Hf mv c:=by
 unfold Hf;rw[List.find?_append];by_cases hc:m.kind=1/\c=m.over
 ·rw[if_pos hc];have e1:mv.find? (λm=>m.kind==1&&m.over==c)=none:=by rw[gC];intro m' HP z;rw[bg,beq_iff_eq,beq_iff_eq]at z;exact h m' HP (by rw[z.1,z.2,hc.1,hc.2])
  rw[e1];have e2:(m.kind==1&&m.over==c)=true:=by rw[bg,beq_iff_eq,beq_iff_eq];exact⟨hc.1,hc.2.symm⟩
  show(match Q6 none (Q7 _ [m])with
   |some m=>[(0,m.to)]|none=>[])=_
  rw[dR,e2];rfl
 ·rw[if_neg hc];have e2:(m.kind==1&&m.over==c)=false:=by
   cases e:(m.kind==1&&m.over==c)with|false=>rfl|true=>rw[bg,beq_iff_eq,beq_iff_eq]at e;exact absurd ⟨e.1,e.2.symm⟩ hc
  have e3:Q7 (λm:gf=>m.kind==1&&m.over==c) [m]=none:=by rw[dR,e2];rfl
  rw[e3,Option.or_none]
def iJ(g:aL)(r:Nat):Nat×Nat:=if r=g.rules.length then(2,0)else(1,r)
def g6(g:aL)(cN:List Nat)(r:Nat):List Nat:=(jb g cN).getD (aO g r).lhs []
theorem P_(r:Nat):(g6 g cN r).Nodup:=by
 unfold g6;rw[aT];cases e:(jb g cN)[(aO g r).lhs]? with
 |none=>exact jr|some l=>
  have hm:=aG e;unfold jb at hm;rcases bC.mp hm with z|z
  ·obtain⟨m,_,rfl⟩:=aQ.mp z;exact(List.nodup_range).filter _
  ·have:l=[gs g]:=by simpa using z
   rw[this];simp
theorem Cr(G:Good g)(F:lC g cN){r:Nat}(hr:r<=g.rules.length):(jb g cN)[(aO g r).lhs]? =some (g6 g cN r):=by
 have f8:(aO g r).lhs<(jb g cN).length:=by
  unfold jb;rw[aw,aq,F.fD,bp];by_cases e:r=g.rules.length
  ·subst e;rw[pU];show g.nons<_;omega
  ·rw[uH (ay (show r<g.rules.length by omega))];have:=(G.rule _ (sT (show r<g.rules.length by omega))).lhs;omega
 unfold g6;rw[aT,ay f8];rfl
theorem LQ(G:Good g)(F:lC g cN){r:Nat}(hr:r<=g.rules.length)(c:Nat):iD g cN c r=if c∈g6 g cN r then some (iJ g r)else none:=by
 have hg:=Cr G F hr;unfold iD iJ;by_cases e:r=g.rules.length
 ·rw[if_pos e,if_pos e];subst e;have e1:(aO g g.rules.length).lhs=g.nons:=by rw[pU]
  rw[e1]at hg;unfold jb at hg;rw[eW (by rw[aq,F.fD];exact aB _),aq,F.fD,lG]at hg;have e2:[gs g]=g6 g cN g.rules.length:=ax hg;rw[<-e2];by_cases h:c=gs g
  ·rw[if_pos h,if_pos (by simp[h])]
  ·rw[if_neg h,if_neg (by simp[h])]
 ·have f8:r<g.rules.length:=by omega
  rw[if_neg e,if_neg e];have hl:(aO g r).lhs<g.nons:=by rw[uH (ay f8)];exact(G.rule _ (sT f8)).lhs
  obtain⟨m,hm⟩:∃m,cN[(aO g r).lhs]? =some m:=⟨_,ay (by rw[F.fD];exact hl)⟩;unfold jb at hg;rw[cW (by rw[aq,F.fD];exact hl),aM,hm]at hg;have e2:wf m (gs g)=g6 g cN r:=ax hg;rw[<-e2];have e3:cN.getD (aO g r).lhs 0=m:=by rw[aT,hm];rfl
  have Uq:=F.lt (aO g r).lhs;rw[e3]at Uq ⊢;by_cases hb:m.testBit c=true
  ·rw[if_pos hb,if_pos ((Cq Uq).mpr hb)]
  ·rw[if_neg hb,if_neg λz=>hb ((Cq Uq).mp z)]
def wT(g:aL)(cN:List Nat)(T:Nat->List (Nat×Nat))(wl:List Nat)(c:Nat):List (Nat×Nat):=T c++wl.filterMap (iD g cN c)
theorem P'(G:Good g){ks:List (List Nat)}(TT:sY g ks t)(F:lC g cN)(h:dc g cN t i c≠[]):c<=gs g:=by
 obtain⟨⟨a,b⟩,r,e⟩:=lq h;rcases vP G TT e with⟨_,_,q⟩|⟨rfl,q1,q2⟩|⟨rfl,rfl⟩
 ·omega
 ·have hm:(1,b)∈dc g cN t i c:=by rw[e];simp
  unfold dc at hm;rcases bC.mp hm with z|z
  ·unfold kZ at z;split at z
   ·have:=my.mp z;cases this
   ·simp at z
  ·obtain⟨r',_,er⟩:=b3.mp z;unfold iD at er;split at er
   ·split at er
    ·omega
    ·cases er
   ·split at er
    ·rename_i hb;by_cases hc:c<=gs g
     ·exact hc
     ·rw[Mu (bX (F.lt _) (oO (by decide) (by omega)))]at hb;cases hb
    ·cases er
 ·have hm:(2,0)∈dc g cN t i c:=by rw[e];simp
  unfold dc at hm;rcases bC.mp hm with z|z
  ·unfold kZ at z;split at z
   ·have:=my.mp z;cases this
   ·simp at z
  ·obtain⟨r',_,er⟩:=b3.mp z;unfold iD at er;split at er
   ·split at er
    ·omega
    ·cases er
   ·split at er
    ·have:=ax er;cases this
    ·cases er
theorem Uy{ks:List (List Nat)}{mv:List gf}(M:Bw g ks s mv):mv.map (λm=>(m.kind,m.over))=(cP g (ag g) s).map λk=>(k.kind,k.over):=by
 refine Ae λi=>?_;rw[aM,aM];cases e:mv[i]? with
 |none=>rw[dy (by rw[<-M.fD];exact iR.mp e)];rfl|some m=>
  have hl:i<(cP g (ag g) s).length:=by rw[<-M.fD];exact(ao.mp e).1
  have hk:=ay hl;obtain⟨e1,e2,_⟩:=M.wM i m _ e hk;rw[hk];show some (m.kind,m.over)=some _;rw[e1,e2]
theorem Qa(G:Good g){ks:List (List Nat)}{mv:List gf}(M:Bw g ks s mv):(mv.map λm=>(m.kind,m.over)).Nodup:=by
 rw[Uy M];refine dF.mpr ((oG G s).imp λ{x y} h z=>?_);obtain⟨e1,e2⟩:=hJ z;rcases h with q|⟨_,q⟩
 ·have q':x.kind<y.kind:=q;omega
 ·have q':x.over<y.over:=q;omega
theorem uz{l:List α}(h:l.Nodup){x:α}(e:l[i]? =some x):∀y∈l.take i,y≠x:= λy hy z=>by
 obtain⟨j,hj⟩:=fS hy;have PP:j<i:=by have:=(ao.mp hj).1;rw[a4]at this;omega
 rw[fH PP,z]at hj;have:=afv h hj e;omega
theorem Qb{r:Nat}(h:c∈g6 g cN r):c<=gs g:=by
 unfold g6 at h;rw[aT]at h;cases e:(jb g cN)[(aO g r).lhs]? with
 |none=>rw[e]at h;simp at h|some l=>
  rw[e]at h;have hm:=aG e;have h':c∈l:=h;unfold jb at hm;rcases bC.mp hm with z|z
  ·obtain⟨m,_,rfl⟩:=aQ.mp z;unfold wf at h';have:=eV.mp (dE.mp h').1;omega
  ·have:l=[gs g]:=by simpa using z
   rw[this]at h';have:c=gs g:=by simpa using h'
   omega
theorem uA(g:aL)(s:List Nat):(eL g s).length<=s.length:=by unfold eL;rw[aq];exact cp _ _
abbrev LR:dZ:=mm 53
abbrev acd:List bT:=["table","columns","state","things","symbol","target","rule","thing","column"]
inductive NV(C:ah)(vs:List V)(H:Hp)(Q:VK)(E_:XK):Prop
 |mk (a ca:ah) (g:aL) (ks:List (List Nat)) (t:cK) (cN:List Nat) (cs:List ah) (i:Nat) (_:vs=[.ref a,.ref ca,nV i]) (_:Good g) (_:sY g ks t) (_:TabAt C H g t a) (_:lC g cN) (_:H ca=some (.be (cs.map V.ref))) (_:Paired (LP H) (jb g cN) cs) (_:i<t.length) (_:∀(H':Hp)(d:ah)(kk:List Nat)(ad:Nat->ah),aE H H'->H d=none->zY H H' (dc g cN t i) d kk ad->Q (.ref d) H')
theorem NW:bU acd ["table","columns","state"] (a5 LR):=ml
theorem Uz(F:lg K "things_in_state" "things_in_state" LR f fd)(T:Gm mg)(TT:AX K C)(GS:jL P w K mg base "start_rule" 1 ["table"] (FW C)):dQ P w K mg base ki 2 f fd ["table","columns","state"] (NV C):=by
 refine F.ok NW (λvs H Q E h=>?_) (λgl A bN s H vs Q E hr h=>?_)
 ·obtain⟨a,ca,g,ks,t,cN,cs,i,rfl,_⟩:=h;rfl
 ·obtain⟨a,ca,g,ks,t,cN,cs,i,rfl,G,TA,pH,FO,hC,hCs,jx,k⟩:=h;have nd:=NW.nd;have hu:=m5 hr;have hsz:al=16777216:=bR;have De:=(eO G).2;obtain⟨ls,lm,lw,ss,ms,ws,qx,h2,h3,h4,h5,h6,h7⟩:=pH;obtain⟨dx,lr,lc,lo,as,QQ,qy,Hd,Jy,Kb,Kc,He⟩:=qx;have qx:jo C H g a ls lm lw:=⟨dx,lr,lc,lo,as,QQ,qy,Hd,Jy,Kb,Kc,He⟩;obtain⟨r,Ax⟩:∃r,t[i]? =some r:=⟨_,ay jx⟩;obtain⟨md,LS,hmd⟩:=L2.fV h5 Ax;obtain⟨wd,acf,hwd⟩:=L2.fV h7 Ax;obtain⟨k0,Yz,hKS,hri,MO⟩:=TA.row i r Ax;have hmn:=Qa G MO;have d5:sX g r.items:=by rw[hri];exact hKS.ok.close
  have af8:r.items.length<=976:=jz d5.J9 λc hc=>oF G (d5.ok c hc);have Y':r.moves.length<=276:=by rw[MO.fD];exact pX G _
  have QK:=uA g r.items;have UA:H md=some (.dT (rj r.moves)):=hmd;have UB:H wd=some (.be (eS (eL g r.items))):=hwd;refine⟨_,am (g9 3 nd xn) (am (M_ (fQ bi rfl (yP (ft b_ (cE (pv 0) rfl) (pv 2))) (vR rfl (gT (nr 4 nd) (gT (nr 5 nd) pY))) (aJ (dD (bY g8 (ft cw (pv 4) aR) (lQ T.rg rfl) (ck _)) (aJ (lI hu (pv 3) (ft cw (pv 4) aR) (cV (af (ii (af (lQ T.mo rfl) (af (pv 5) aD))) aD)) rfl)) b5)))) (am (fQ bi rfl (fA (ft b_ (cE (pv 0) rfl) (pv 2))) (nr 6 nd) (am (g9 7 nd (BL (bY g8 (pv 6) (cO GS hr (aB _) rfl (af (pv 0) aD)) (ck _)) (ii (af (lQ T.ac rfl) (af aR aD))) (ii (af (lQ T.pt rfl) (af (pv 6) aD))))) (aJ (fQ bi rfl (fA (ft b_ (pv 1) (ft cw (ft b_ (cE (pv 0) rfl) (pv 6)) aR))) (nr 8 nd) (aJ (fz (i_ bf bv bx d_ (i_ fX jR AK WU (pv 3) (af (pv 8) (af (cV aD) aD))) (af (pv 7) aD)))))))) (aJ (bG (pv 3))))),?_⟩;refine λd hd=>?_;have s1:aE H (aP H d (.dK [])):=aE.aP hd;have tf:aP H d (.dK []) d=some (.dK (gD DG [] λ_=> .ref d)):=ai;generalize aP H d (.dK [])=H1 at s1 tf ⊢;have ndm:d≠md:= λz=>by rw[z,UA]at hd;cases hd
  refine⟨md,.dT (rj r.moves),s1 _ _ UA,trivial,λod=>?_⟩;have b1:aE (d6 [md] H) (aP H1 md (.nB od (.dT (rj r.moves)))):= λb o e=>by obtain⟨e1,e2⟩:=bo.mp e;rw[aF (by simpa using e1)];exact s1 _ _ e2
  have inM:∀{b:ah}{o:HO},H b=some o->b≠md->d6 [md] H b=some o:= λ{b o} e hb=>bo.mpr ⟨by simpa using hb,e⟩;have amQ:lm≠md:= λz=>by rw[z,UA]at h4;cases h4
  have ham:a≠md:= λz=>by rw[z,UA]at qy;cases qy
  have hmi:(ms.map V.ref)[i]? =some (.ref md):=by rw[aM,LS];rfl
  refine⟨_,rfl,a,C,dx,_,_,rfl,b1 _ _ (inM qy ham),TT.cl,TT.YM,wa,_,rfl,lm,_,_,_,rfl,rfl,cv.of (b1 _ _ (inM h4 amQ)),aN hmi,md,od,rj r.moves,rfl,ai,Le (J:=SJ md od (rj r.moves)) (n:=(rj r.moves).length) (λj σ H'=>∃(v4 v5:Option V)(kk:List Nat)(ad:Nat->ah),σ=[some (.ref a),some (.ref ca),some (nV i),some (.ref d),v4,v5,none,none,none]/\H' md=some (.nB od (.dT (rj r.moves)))/\zY H H' (Hf (r.moves.take j)) d kk ad/\(∀c∈kk,c<300)/\aE (d6 [md] H) H') ⟨none,none,[],λ_=>d,rfl,ai,⟨by rw[aF ndm];exact tf,jr,λc=>by simp[Hf],λb hb=>by simp at hb,λb hb=>by simp at hb,λb hb=>by simp at hb⟩,λc hc=>by simp at hc,b1⟩ (λj σ H' hj ⟨_,_,_,_,_,hh,_⟩=>⟨hh,hj⟩) (λσ H' ⟨_,_,_,_,_,hh,_⟩=>⟨hh,aB _⟩) ?_ ?_⟩
  ·rintro j x σ H' H'' hj ⟨v4,v5,kk,ad,rfl,hfz,R,xU,s2⟩ ⟨T',sq,kq,v,CW,rfl,F5,NK,rfl⟩;obtain⟨m,hm,em⟩:∃m,r.moves[j]? =some m/\(vz m,nV m.to)=(kq,v):=by
    unfold rj at CW;rw[aM]at CW;cases e:r.moves[j]? with|none=>rw[e]at CW;cases CW|some m=>rw[e]at CW;exact⟨m,rfl,ax CW⟩
   obtain⟨rfl,rfl⟩:=hJ em;have hmm:=aG hm;have BY:∀m'∈r.moves.take j,(m'.kind,m'.over)≠(m.kind,m.over):= λm' HP=>by refine uz hmn (i:=j) (x:=(m.kind,m.over)) (by rw[aM,hm];rfl) _ ?_;rw[<-oq];exact aQ.mpr ⟨m',HP,rfl⟩
   have Qc:r.moves.take (j+1)=r.moves.take j++[m]:=by rw[bQ,hm];rfl
   have t3:aE H' (aP H' T' (.bV [.ref sq,nV m.to])):=aE.aP F5;have R3:=R.keeps t3;have XA:=t3 _ _ hfz;have P2:aP H' T' (.bV [.ref sq,nV m.to]) sq=some (.bV [nV m.kind,nV m.over]):=t3 _ _ NK;have s3:=s2.trans t3;refine⟨T',_,rfl,eh.of ai,rfl,_,_,rfl,_,_,rfl,rfl,?_⟩;generalize aP H' T' (.bV [.ref sq,nV m.to])=H3 at t3 R3 XA P2 s3 ⊢;refine⟨_,rfl,sq,_,_,_,rfl,rfl,eh.of P2,aN (j:=0) rfl,rfl,_,rfl,?_⟩;by_cases QP:m.kind=1
   ·have hov:m.over<gs g:=by
     rcases(TA.V3 G Ax hmm).2.1 with⟨z,_⟩|⟨_,z⟩
     ·omega
     ·exact z
    have hTc:Hf (r.moves.take j) m.over=[]:=by unfold Hf;rw[gC.mpr λm' HP z=>?_];rw[bg,beq_iff_eq,beq_iff_eq]at z;exact BY m' HP (by rw[z.1,z.2,QP])
    have xT:m.over∉kk:= λz=>(R.mem _).mp z hTc;have hkl:kk.length<=300:=o4 R.nd xU;refine cF (dV (by rw[QP];rfl)) ⟨_,rfl,(by show 2<=al;omega),λt1 Vv=>⟨(by show 1<=al;omega),λl1 sh=>?_⟩⟩;have t4:aE H3 (aP (aP H3 t1 (.bV [.int 0,nV m.to])) l1 (.be [.ref t1])):=aE.kj (aE.aP Vv) sh;have ZT:t1≠l1:= λz=>by rw[<-z,ai]at sh;cases sh
    have ht4:aP (aP H3 t1 (.bV [.int 0,nV m.to])) l1 (.be [.ref t1]) t1=some (.bV [nV 0,nV m.to]):=by rw[aF ZT,ai];rfl
    have NY:aP (aP H3 t1 (.bV [.int 0,nV m.to])) l1 (.be [.ref t1]) l1=some (.be ([t1].map V.ref)):=ai;have LU:H3 l1=none:=(aE.aP Vv).free sh;generalize aP (aP H3 t1 (.bV [.int 0,nV m.to])) l1 (.be [.ref t1])=H4 at t4 ht4 NY ⊢;have hd4:=t4 _ _ R3.dict;refine⟨_,rfl,_,rfl,sq,_,_,_,rfl,rfl,eh.of (t4 _ _ P2),aN (j:=1) rfl,d,_,rfl,s_.k (k:=DG m.over) hd4 (by rw[LH];omega),?_⟩;have Ud:kJ (gD DG kk λb=>V.ref (ad b)) (DG m.over) (V.ref l1)=gD DG (kk++[m.over]) λx=>V.ref (if x=m.over then l1 else ad x):=by
     have:=LG (vf:= λb=>V.ref (ad b)) (vf':= λx=>V.ref (if x=m.over then l1 else ad x)) uW xT λx hx=>by show V.ref (if x=m.over then l1 else ad x)=_;rw[if_neg λz=>xT (by rw[<-z];exact hx)]
     simp only[if_true]at this;exact this
    rw[Ud];have ndl:l1≠d:= λz=>by rw[z,R3.dict]at LU;cases LU
    have ndt:∀q xs,H4 q=some (.bV xs)->q≠d:= λq xs e z=>by rw[z,hd4]at e;cases e
    have FX:H l1=none:=by
     cases e:H l1 with
     |none=>rfl|some o=>
      by_cases z:l1=md
      ·rw[z,XA]at LU;cases LU
      ·rw[s3 _ _ (inM e z)]at LU;cases LU
    have R5:=R3.add hTc (l:=l1) (qs:=[t1]) (ths:=[(0,m.to)]) FX (by simp) (H':=aP H4 d (.dK (gD DG (kk++[m.over]) λx=>V.ref (if x=m.over then l1 else ad x))))
     (λb hb z=>by obtain⟨qs,e,_⟩:=R3.be b hb;rw[z,LU]at e;cases e) ai (by rw[aF ndl];exact NY) (.cons (by show aP H4 d _ t1=_;rw[aF (ndt _ _ ht4)];exact ht4) .nil)
     (λb hb xs e=>by
      rw[aF λz=>by rw[z,R3.dict]at e;cases e];exact t4 _ _ e) (λq xs e=>by
      rw[aF (ndt _ _ (t4 _ _ e))];exact t4 _ _ e)
    refine⟨_,_,kk++[m.over],λx=>if x=m.over then l1 else ad x,rfl,by rw[aF ndm.symm];exact t4 _ _ XA,?_,λc hc=>?_,λb o e=>?_⟩
    ·rw[Qc];refine R5.congr λc=>?_;rw[JA _ _ BY];by_cases hc:c=m.over
     ·rw[if_pos hc,if_pos ⟨QP,hc⟩]
     ·rw[if_neg hc,if_neg λz=>hc z.2]
    ·have:c∈kk\/c=m.over:=by simpa using hc
     rcases this with z|z
     ·exact xU c z
     ·unfold gs at hov;omega
    ·rw[aF (aH (bo.mp e).2 hd)];exact t4 _ _ (s3 _ _ e)
   ·refine bZ (mh (by omega)) ⟨_,_,kk,ad,rfl,XA,?_,xU,s3⟩;rw[Qc];refine R3.congr λc=>?_;rw[JA _ _ BY,if_neg λz=>QP z.1]
  ·rintro σ H' ⟨v4,v5,kk,ad,rfl,hfz,R,xU,s2⟩;rw[NP,a8]at R;refine⟨hfz,?_⟩;have s5:aE H (aP H' md (.dT (rj r.moves))):= λb o e=>by
    by_cases z:b=md
    ·rw[z,ai];rw[z,UA]at e;exact e
    ·rw[aF z];exact s2 _ _ (inM e z)
   have R5:zY H (aP H' md (.dT (rj r.moves))) (wT g cN (Hf r.moves) []) d kk ad:=by
    refine zY.congr (T:=Hf r.moves) ⟨by rw[aF ndm];exact R.dict,R.nd,R.mem,R.inj,R.new,λc hc=>?_⟩ λc=>by unfold wT;simp
    obtain⟨qs,e1,e2⟩:=R.be c hc;refine⟨qs,?_,Paired.gJ e2 λ_ _ z=>?_⟩
    ·rw[aF λz=>by rw[z,hfz]at e1;cases e1];exact e1
    ·have z':=z;show aP H' md _ _=_;rw[aF λy=>by have z2:H' _=some (.bV _):=z';rw[y,hfz]at z2;cases z2]
     exact z
   generalize aP H' md (.dT (rj r.moves))=H5 at s5 R5 ⊢;have S1:(ws.map V.ref)[i]? =some (.ref wd):=by rw[aM,acf];rfl
   refine⟨_,rfl,a,C,dx,_,_,rfl,s5 _ _ qy,TT.cl,TT.who,FV,_,rfl,lw,_,_,_,rfl,rfl,cv.of (s5 _ _ h6),aN S1,wd,rfl,⟨_,cv.of (s5 _ _ UB)⟩,ig (K:=K) (a:=wd) (xs:=eS (eL g r.items)) (λj σ H'=>∃(v6 v7 v8:Option V)(kk:List Nat)(ad:Nat->ah),σ=[some (.ref a),some (.ref ca),some (nV i),some (.ref d),v4,v5,v6,v7,v8]/\zY H H' (wT g cN (Hf r.moves) ((eL g r.items).take j)) d kk ad/\(∀c∈kk,c<300)/\aE H H') ⟨none,none,none,kk,ad,rfl,R5,xU,s5⟩ (λj σ H' _ ⟨_,_,_,_,_,_,_,_,s6⟩=>cv.of (s6 _ _ UB)) ?_ ?_⟩
   ·rintro j x σ H6 hj ⟨v6,v7,v8,kk,ad,rfl,R6,xU,s6⟩;obtain⟨r0,hr1,rfl⟩:∃r0,(eL g r.items)[j]? =some r0/\x=nV r0:=by
     unfold eS at hj;rw[aM]at hj;cases e:(eL g r.items)[j]? with|none=>rw[e]at hj;cases hj|some m=>rw[e]at hj;exact⟨m,rfl,(ax hj).symm⟩
    have ach:r0<=g.rules.length:=by have hm:=aG hr1;unfold eL at hm;obtain⟨c,hc,rfl⟩:=aQ.mp hm;exact(d5.ok c (dE.mp hc).1).rule
    have Qc:(eL g r.items).take (j+1)=(eL g r.items).take j++[r0]:=by rw[bQ,hr1];rfl
    have agV:∀c,(wT g cN (Hf r.moves) ((eL g r.items).take j) c).length<=980:= λc=>by
     unfold wT;rw[aw];have e1:(Hf r.moves c).length<=1:=by unfold Hf;split<;>simp
     have e2:=bL (iD g cN c) ((eL g r.items).take j);rw[a4]at e2;omega
    have eT:∀c,wT g cN (Hf r.moves) ((eL g r.items).take (j+1)) c=wT g cN (Hf r.moves) ((eL g r.items).take j) c++if c∈g6 g cN r0 then[iJ g r0]else[]:= λc=>by
     unfold wT;rw[Qc,gw,<-fg];congr 1;rw[bI,LQ G FO ach];by_cases z:c∈g6 g cN r0
     ·rw[if_pos z,if_pos z];rfl
     ·rw[if_neg z,if_neg z];rfl
    generalize wT g cN (Hf r.moves) ((eL g r.items).take j)=T0 at R6 agV eT;have go:∀(H7:Hp)(th:ah),aE H6 H7->acb H7 (iJ g r0) th->∀D:rX,(∀σ H',(∃(v6 v7 v8:Option V)(kk:List Nat)(ad:Nat->ah),σ=[some (.ref a),some (.ref ca),some (nV i),some (.ref d),v4,v5,v6,v7,v8]/\zY H H' (wT g cN (Hf r.moves) ((eL g r.items).take (j+1))) d kk ad/\(∀c∈kk,c<300)/\aE H H')->D.nx σ H')->
     aan (RY K (Yu (Wt K) (rY 1) (Yu (aaz K) (Yu (Wt K) (aau K (rY 0) "rules") (rY 6)) (tC (.int 0))))) (ow 8) (Yr (tBM K "list" MY (tBM K "dict" YH (rY 3) (xg (rY 8) (xg (ae5 Du) Du))) (xg (rY 7) Du))) D [some (.ref a),some (.ref ca),some (nV i),some (.ref d),v4,v5,some (nV r0),some (.ref th),v8] H7:=by
     intro H7 th s7 hth D hD;have s67:aE H H7:=s6.trans s7;obtain⟨ra,hra,tt,qs0,XB,_,_⟩:=L2.fV Jy (oJ ach);have PV:(as.map V.ref)[r0]? =some (.ref ra):=by rw[aM,hra];rfl
     obtain⟨cq,amT,hcq⟩:=L2.fV hCs (Cr G FO ach);have amU:(cs.map V.ref)[(aO g r0).lhs]? =some (.ref cq):=by rw[aM,amT];rfl
     have agW:H cq=some (.be (eS (g6 g cN r0))):=hcq;refine⟨_,rfl,_,rfl,a,C,dx,_,_,rfl,s67 _ _ qy,TT.cl,TT.YL,v_,_,rfl,lr,_,_,_,rfl,rfl,cv.of (s67 _ _ Hd),aN PV,ra,_,_,_,rfl,rfl,eh.of (s67 _ _ XB),aN (j:=0) rfl,ca,_,_,_,rfl,rfl,cv.of (s67 _ _ hC),aN amU,cq,rfl,⟨_,cv.of (s67 _ _ agW)⟩,ig (K:=K) (a:=cq) (xs:=eS (g6 g cN r0)) (λjj σ H8=>∃(v8:Option V)(kk:List Nat)(ad:Nat->ah),σ=[some (.ref a),some (.ref ca),some (nV i),some (.ref d),v4,v5,some (nV r0),some (.ref th),v8]/\zY H H8 (λc=>T0 c++if c∈(g6 g cN r0).take jj then[iJ g r0]else[]) d kk ad/\(∀c∈kk,c<300)/\aE H H8/\acb H8 (iJ g r0) th) ⟨v8,kk,ad,rfl,(R6.keeps s7).congr (λc=>by simp),xU,s67,hth⟩ (λjj σ H8 _ ⟨_,_,_,_,_,_,s8,_⟩=>cv.of (s8 _ _ agW)) ?_ ?_⟩
     ·rintro jj x σ H8 hjj ⟨v8,kk,ad,rfl,R8,xU,s8,amV⟩;obtain⟨c,hc1,rfl⟩:∃c,(g6 g cN r0)[jj]? =some c/\x=nV c:=by
       unfold eS at hjj;rw[aM]at hjj;cases e:(g6 g cN r0)[jj]? with|none=>rw[e]at hjj;cases hjj|some m=>rw[e]at hjj;exact⟨m,rfl,(ax hjj).symm⟩
      have amW:=Qb (aG hc1);have hc0:c∉(g6 g cN r0).take jj:= λz=>uz (P_ r0) hc1 c z rfl;have etk:(g6 g cN r0).take (jj+1)=(g6 g cN r0).take jj++[c]:=by rw[bQ,hc1];rfl
      have eT1:T0 c++(if c∈(g6 g cN r0).take jj then[iJ g r0]else[])=T0 c:=by rw[if_neg hc0,cz]
      have enx:∀x,(if x=c then T0 c++[iJ g r0]else T0 x++if x∈(g6 g cN r0).take jj then[iJ g r0]else[])=T0 x++if x∈(g6 g cN r0).take (jj+1)then[iJ g r0]else[]:= λx=>by
       rw[etk];by_cases z:x=c
       ·subst z;rw[if_pos rfl,if_pos (by simp)]
       ·rw[if_neg z];congr 1;by_cases y:x∈(g6 g cN r0).take jj
        ·rw[if_pos y,if_pos (dj _ y)]
        ·rw[if_neg y,if_neg λq=>by
          rcases bC.mp q with q|q
          ·exact y q
          ·exact z (by simpa using q)]
      have hkl:kk.length<=300:=o4 R8.nd xU;have NZ:H8 th=some (.bV [nV (iJ g r0).1,nV (iJ g r0).2]):=amV;refine⟨_,rfl,.inr (.inr (.inl ⟨rfl,.inl ⟨_,R8.dict⟩⟩)),_,rfl,bj _,λl0 Av=>?_⟩;have t1:aE H8 (aP H8 l0 (.be [])):=aE.aP Av;refine⟨d,_,DG c,_,rfl,rfl,t1 _ _ R8.dict,by rw[LH];omega,λv hv=>?_,λhv=>?_⟩
      ·rw[ux uW]at hv;by_cases xT:c∈kk
       ·rw[if_pos xT]at hv;have ev:=ax hv;subst ev;obtain⟨qs,hq,P1⟩:=R8.be c xT;rw[eT1]at P1;have yU:qs.length<=980:=by rw[<-a6 P1];exact agV c
        have hq9:=t1 _ _ hq;refine⟨.inl ⟨rfl,_,cv.of hq9⟩,_,rfl,ad c,_,_,rfl,rfl,hq9,by rw[a_];omega,?_⟩;have sb:aE (d6 [ad c] (aP H8 l0 (.be []))) (aP (aP H8 l0 (.be [])) (ad c) (.be (qs.map V.ref++[V.ref th]))):=cS (ci _ _) (by simp);have tp:∀q xs,H8 q=some (.bV xs)->aP (aP H8 l0 (.be [])) (ad c) (.be (qs.map V.ref++[V.ref th])) q=some (.bV xs):= λq xs e=>by rw[aF λz=>by rw[z,hq]at e;cases e];exact t1 _ _ e
        have hdn:d≠ad c:= λz=>by have:=R8.dict;rw[z,hq]at this;cases this
        refine⟨_,kk,ad,rfl,(R8.more xT (qs:=qs++[th]) (ths:=T0 c++[iJ g r0]) (by simp) (H':=aP (aP H8 l0 (.be [])) (ad c) (.be (qs.map V.ref++[V.ref th]))) ?_ (by rw[ai,aK];rfl) ?_ ?_ tp).congr enx,xU,λb o e=>?_,tp _ _ NZ⟩
        ·rw[aF hdn,t1 _ _ R8.dict,R8.dict]
        ·exact cJ (Paired.gJ P1 λ_ _ z=>tp _ _ z) (tp _ _ NZ)
        ·intro b hb hbc xs e;rw[aF λz=>hbc (R8.inj b hb c xT z)];exact t1 _ _ e
        ·rw[aF (aH e (R8.new c xT))];exact t1 _ _ (s8 _ _ e)
       ·rw[if_neg xT]at hv;cases hv
      ·have xT:c∉kk:= λz=>by rw[ux uW,if_pos z]at hv;cases hv
       have hTe:T0 c++(if c∈(g6 g cN r0).take jj then[iJ g r0]else[])=[]:=kR λz=>xT ((R8.mem c).mpr z);have amY:T0 c=[]:=by rw[eT1]at hTe;exact hTe
       have hld:l0≠d:= λz=>by rw[z,R8.dict]at Av;cases Av
       have Ud:kJ (gD DG kk λb=>V.ref (ad b)) (DG c) (V.ref l0)=gD DG (kk++[c]) λx=>V.ref (if x=c then l0 else ad x):=by
        have:=LG (vf:= λb=>V.ref (ad b)) (vf':= λx=>V.ref (if x=c then l0 else ad x)) uW xT λx hx=>by show V.ref (if x=c then l0 else ad x)=_;rw[if_neg λz=>xT (by rw[<-z];exact hx)]
        simp only[if_true]at this;exact this
       rw[Ud];have oR:aP (aP H8 l0 (.be [])) d (.dK (gD DG (kk++[c]) λx=>V.ref (if x=c then l0 else ad x))) l0=some (.be []):=by rw[aF hld,ai]
       refine⟨.inl ⟨rfl,_,cv.of oR⟩,_,rfl,l0,_,_,rfl,rfl,oR,(by show 0<al;omega),?_⟩;have ot:∀q o,H8 q=some o->q≠d->aP (aP (aP H8 l0 (.be [])) d (.dK (gD DG (kk++[c]) λx=>V.ref (if x=c then l0 else ad x)))) l0 (.be ([]++[V.ref th])) q=some o:= λq o e hq=>by rw[aF (aH e Av),aF hq];exact t1 _ _ e
       have tp:∀q xs,H8 q=some (.bV xs)->aP (aP (aP H8 l0 (.be [])) d (.dK (gD DG (kk++[c]) λx=>V.ref (if x=c then l0 else ad x)))) l0 (.be ([]++[V.ref th])) q=some (.bV xs):= λq xs e=>ot q _ e λz=>by rw[z,R8.dict]at e;cases e
       have R9:=R8.add hTe (l:=l0) (qs:=[th]) (ths:=[iJ g r0]) (s8.free Av) (by simp) (H':=aP (aP (aP H8 l0 (.be [])) d (.dK (gD DG (kk++[c]) λx=>V.ref (if x=c then l0 else ad x)))) l0 (.be ([]++[V.ref th])))
        (λb hb z=>by obtain⟨qs,e,_⟩:=R8.be b hb;rw[z,Av]at e;cases e) (by rw[aF hld.symm,ai]) ai (.cons (tp _ _ NZ) .nil)
        (λb hb xs e=>ot _ _ e λz=>by rw[z,R8.dict]at e;cases e) tp
       refine⟨_,kk++[c],λx=>if x=c then l0 else ad x,rfl,R9.congr λx=>?_,λx hx=>?_,λb o e=>ot b o (s8 _ _ e) (aH e hd),tp _ _ NZ⟩
       ·rw[<-enx,amY];rfl
       ·have:x∈kk\/x=c:=by simpa using hx
        rcases this with z|z
        ·exact xU x z
        ·unfold gs at amW;omega
     ·rintro σ H8 ⟨v8,kk,ad,rfl,R8,xU,s8,_⟩;rw[fO,a8]at R8;exact hD _ _ ⟨_,_,_,kk,ad,rfl,R8.congr λc=>(eT c).symm,xU,s8⟩
    refine⟨_,rfl,_,rfl,a,g,ls,lm,lw,rfl,qx.keeps s6,rfl,_,rfl,?_⟩;by_cases hR:r0=g.rules.length
    ·refine cF (dV (by rw[hR])) ⟨(by show 2<=al;omega),λth hth=>?_⟩;exact go _ th (aE.aP hth) (by show aP H6 th _ th=_;rw[ai];unfold iJ;rw[if_pos hR];rfl) _ λ_ _ z=>z
    ·refine bZ (mh (by omega)) ⟨_,rfl,(by show 2<=al;omega),λth hth=>?_⟩;exact go _ th (aE.aP hth) (by show aP H6 th _ th=_;rw[ai];unfold iJ;rw[if_neg hR];rfl) _ λ_ _ z=>z
   ·rintro σ H' ⟨v6,v7,v8,kk,ad,rfl,R6,xU,s6⟩;rw[fO,a8]at R6;refine⟨_,rfl,k H' d kk ad s6 hd (R6.congr λc=>?_)⟩;unfold wT dc kZ;rw[o6 Ax,vN Ax];congr 1;unfold Hf;cases r.moves.find? (λm=>m.kind==1&&m.over==c)<;>rfl
inductive sQ(H:Hp)(g:aL)(cN:List Nat)(t:cK)(q:ah):Prop
 |mk (ds:List ah) (_:H q=some (.be (ds.map V.ref))) (_:ds.length=t.length) (_:∀(i:Nat)(d:ah),ds[i]? =some d->∃H0 kk ad,zY H0 H (dc g cN t i) d kk ad)
theorem sQ.keeps(s:aE H H')(h:sQ H g cN t q):sQ H' g cN t q:=by obtain⟨ds,h1,h2,h3⟩:=h;exact⟨ds,s _ _ h1,h2,λi d hd=>let⟨H0,kk,ad,R⟩:=h3 i d hd;⟨H0,kk,ad,R.keeps s⟩⟩
theorem zY.amZ(R:zY H0 H T d ks ad){D:ah}{xs:List V}(hD0:H0 D≠none)(hD:H D=some (.be xs))(hd:H0 d=none):zY H0 (d6 [D] H) T d ks ad:=by have inb:∀{b:ah}{o:HO},H b=some o->b≠D->d6 [D] H b=some o:= λ{b o} e hb=>bo.mpr ⟨by simpa using hb,e⟩;refine⟨inb R.dict λz=>hD0 (by rw[<-z];exact hd),R.nd,R.mem,R.inj,R.new,λc hc=>?_⟩;obtain⟨qs,h1,h2⟩:=R.be c hc;exact⟨qs,inb h1 λz=>hD0 (by rw[<-z];exact R.new c hc),Paired.gJ h2 λ_ _ z=>inb z λy=>by have z':H _=some (.bV _):=z;rw[y,hD]at z';cases z'⟩
def agX(H:Hp)(c:Nat×Nat×Nat)(q:ah):Prop:=H q=some (.bV [nV c.1,nV c.2.1,nV c.2.2])
def qZ(H:Hp)(l:List (Nat×Nat×Nat))(qs:List ah):Prop:=Paired (agX H) l qs
theorem qZ.keeps(s:aE H H'){l:List (Nat×Nat×Nat)}(h:qZ H l qs):qZ H' l qs:=Paired.gJ h λ_ _ z=>s _ _ z
theorem qZ.nt(hS:∀b∈S,∀xs,H b≠some (.bV xs)){l:List (Nat×Nat×Nat)}(h:qZ H l qs):qZ (d6 S H) l qs:=Paired.gJ h λ_ _ z=>bo.mpr ⟨λm=>hS _ m _ z,z⟩
def LV(g:aL)(cN:List Nat)(t:cK)(i:Nat):List (Nat×Nat×Nat):=(bE i).flatMap λj=>(bE (gs g+1)).filterMap (kH g cN t j)
theorem EJ(g:aL)(cN:List Nat)(t:cK)(i:Nat):LV g cN t (i+1)=LV g cN t i++(bE (gs g+1)).filterMap (kH g cN t i):=by unfold LV;rw[gY (n:=i),pp];simp
theorem JB(g:aL)(cN:List Nat)(t:cK):∀i,(LV g cN t i).length<=i*(gs g+1)
 |0=>by simp[LV]|i+1=>by rw[EJ,aw];have h1:=JB g cN t i;have h2:=bL (kH g cN t i) (bE (gs g+1));rw[fh]at h2;rw[Nat.add_mul,Nat.one_mul];omega
def Ay(g:aL)(cN:List Nat)(t:cK)(i c:Nat):Bool:= !(dc g cN t i c).isEmpty
theorem zZ(g:aL)(cN:List Nat)(t:cK)(i:Nat):∀l:List Nat,(l.filter (Ay g cN t i)).filterMap (kH g cN t i)=l.filterMap (kH g cN t i)
 | []=>rfl|c::l=>by
  have ih:=zZ g cN t i l;rw[eB];by_cases h:Ay g cN t i c=true
  ·rw[if_pos h,bI,bI,ih]
  ·rw[if_neg h,ih,bI];have e:dc g cN t i c=[]:=by unfold Ay at h;simpa using h
   have e2:kH g cN t i c=none:=by unfold kH;rw[e];rfl
   rw[e2]
theorem LW{p:Nat->Bool}(h:pq l):pq (l.filter p):=ah2 _ h
abbrev XC:dZ:=mm 54
inductive Zc(C:ah)(vs:List V)(H:Hp)(Q:VK)(E_:XK):Prop
 |mk (a:ah) (g:aL) (ks:List (List Nat)) (t:cK) (_:vs=[.ref a]) (_:Good g) (_:sY g ks t) (_:t.length<=128) (_:TabAt C H g t a) (_:∀(H':Hp)(q:ah)(cN:List Nat),aE H H'->H q=none->lC g cN->sQ H' g cN t q->Q (.ref q) H')
theorem Zd:bU ["table","columns","state"] ["table"] (a5 XC):=ml
theorem acj(F:lg K "all_things" "all_things" XC f fd)(T:Gm mg)(TT:AX K C)(GC:jL P w K mg base "columns_that_follow" 5 ["table"] (Uw C))(GT:jL P w K mg base "things_in_state" 2 ["table","columns","state"] (NV C)):dQ P w K mg base ki 6 f fd ["table"] (Zc C):=by
 refine F.ok Zd (λvs H Q E h=>?_) (λgl A bN s H vs Q E hr h=>?_)
 ·obtain⟨a,g,ks,t,rfl,_⟩:=h;rfl
 ·obtain⟨a,g,ks,t,rfl,G,TA,yY,pH,k⟩:=h;have nd:=Zd.nd;have hsz:al=16777216:=bR;have JC:=pH;obtain⟨ls,lm,lw,ss,ms,ws,qx,h2,h3,h4,h5,h6,h7⟩:=pH;obtain⟨dx,lr,lc,lo,as,QQ,qy,Hd,Jy,Kb,Kc,He⟩:=qx;have qx:jo C H g a ls lm lw:=⟨dx,lr,lc,lo,as,QQ,qy,Hd,Jy,Kb,Kc,He⟩;have tG:=a6 h3;rw[aq]at tG;refine⟨_,am (vS (i:=1) nd rfl (by first|exact l8 rfl|exact mU rfl|exact mU (l8 rfl)) (cO GC hr (aB _) rfl (af (pv 0) aD))) (aJ (bG (qb (own:=[("state",2)]) rfl nd (uO rfl T.range (af (cg bM rfl T.fD bB (af (cE (pv 0) rfl) aD)) aD)) (gi (N:=["table","columns","state"]) (sc:=a5 XC) (by decide+kernel)) (λ_ _ _ _ _=>nr 2 nd) (λ_ _ _ _ _=>mP) (λ_ _ _ _ _=>cO GT hr (by decide) rfl (af (pv 0) (af (pv 1) (af (pv 2) aD))))))),?_⟩;refine⟨_,rfl,a,g,ls,lm,lw,rfl,G,qx,λH1 ca cs cN s1 hc0 FO hC hCs=>?_⟩;refine⟨_,rfl,a,C,dx,_,_,rfl,s1 _ _ qy,TT.cl,TT.QM,pd,ls,_,rfl,.inl (cv.of (s1 _ _ h2)),_,rfl,by rw[a_];omega,by rw[a_];omega,λD hD=>?_⟩;have e1:(((ss.map V.ref).length:Int)).toNat=t.length:=by rw[a_,<-tG];omega
  rw[e1];refine IM (lo:=0) (n:=t.length) (λi H3=>aE H1 H3/\∃ds:List ah,H3 D=some (.be (ds.map V.ref))/\ds.length=i/\∀(j:Nat)(d:ah),ds[j]? =some d->∃H0 kk ad,zY H0 (d6 [D] H3) (dc g cN t j) d kk ad) ⟨aE.aP hD,[],ai,rfl,λj d h=>by simp at h⟩ ?_ ?_
  ·rintro i H3 hi ⟨s3,ds,li,DD,Jz⟩;rw[Ms];refine⟨rfl,_,rfl,_,rfl,_,rfl,a,ca,g,ks,t,cN,cs,i,rfl,G,TA,(JC.keeps s1).keeps s3,FO,s3 _ _ hC,Paired.gJ hCs (λ_ _ z=>s3 _ _ z),hi,λH4 d kk ad s4 hd0 R4=>?_⟩;have vx:=s4 _ _ li;refine⟨_,vx,by rw[a_];omega,λc o ec=>?_,ds++[d],by rw[ai,aK];rfl,by rw[aw,bp,DD],λj d' hj=>?_⟩
   ·rw[aF (aH ec hD)];exact s4 _ _ (s3 _ _ ec)
   ·rw[mQ (by simp)];by_cases hjl:j<ds.length
    ·rw[cW hjl]at hj;obtain⟨H0,kk',ad',R'⟩:=Jz j d' hj;exact⟨H0,kk',ad',R'.keeps (uu s4)⟩
    ·have hje:j=ds.length:=by have:=(ao.mp hj).1;rw[aw,bp]at this;omega
     subst hje;rw[eW (aB _),lG]at hj;have e:=ax hj;subst e;rw[DD];exact⟨H3,kk,ad,R4.amZ (by rw[li];exact λz=>nomatch z) vx hd0⟩
  ·rintro H3 ⟨s3,ds,li,DD,Jz⟩;exact k H3 D cN (s1.trans s3) (s1.free hD) FO ⟨ds,li,DD,λi d hd=>let⟨H0,kk,ad,R⟩:=Jz i d hd;⟨H0,kk,ad,R.keeps (ci _ _)⟩⟩
abbrev UC:dZ:=mm 55
inductive LX(vs:List V)(H:Hp)(Q:VK)(E_:XK):Prop
 |mk (q:ah) (g:aL) (ks:List (List Nat)) (t:cK) (cN:List Nat) (_:vs=[.ref q]) (_:Good g) (_:sY g ks t) (_:t.length<=128) (_:lC g cN) (_:sQ H g cN t q) (_:∀(H':Hp)(r:ah)(qs:List ah),aE H H'->H r=none->H' r=some (.be (qs.map V.ref))->qZ H' (dH g t) qs->Q (.ref r) H')
theorem UD:bU ["things","conflicts","state","at_columns","column"] ["things"] (a5 UC):=ml
theorem XD(F:lg K "conflicts_among" "conflicts_among" UC f fd)(T:Gm mg):dQ P w K mg base ki 1 f fd ["things"] LX:=by
 refine F.ok UD (λvs H Q E h=>?_) (λgl A bN s H vs Q E hr h=>?_)
 ·obtain⟨q,g,ks,t,cN,rfl,_⟩:=h;rfl
 ·obtain⟨q,g,ks,t,cN,rfl,G,TA,yY,FO,⟨ds,hq,DD,Jz⟩,k⟩:=h;have nd:=UD.nd;have hu:=m5 hr;have hsz:al=16777216:=bR;have De:=(eO G).2;refine⟨_,am (g9 1 nd (cV aD)) (am (fQ bi rfl (xo rfl T.nu (af (pv 0) aD)) (vR rfl (gT (nr 2 nd) (gT (nr 3 nd) pY))) (aJ (fQ bi rfl (fA (cg (IV rfl) rfl T.sorted (by decide+kernel) (af (pv 3) aD))) (nr 4 nd) (aJ (dD (bY Iv (cg bM rfl T.fD bB (af (uS hu (pv 3) (pv 4) (λ_ _=>rfl)) aD)) aR (ck _)) (aJ (fz (i_ bf bv bx d_ (pv 1) (af (ii (af (pv 2) (af (pv 4) (af (cg bM rfl T.fD bB (af (uS hu (pv 3) (pv 4) (λ_ _=>rfl)) aD)) aD)))) aD)))) b5))))) (aJ (bG (pv 1)))),?_⟩;refine⟨bj _,λc hc=>?_⟩;have s1:aE H (aP H c (.be [])):=aE.aP hc;have pF:=wW G TA FO;refine⟨_,rfl,q,_,rfl,cv.of (s1 _ _ hq),xM (K:=K) (a:=q) (xs:=ds.map V.ref) (λi σ H'=>∃(v2 v3 v4:Option V)(qs:List ah),σ=[some (.ref q),some (.ref c),v2,v3,v4]/\H' c=some (.be (qs.map V.ref))/\qZ H' (LV g cN t i) qs/\aE H H') ⟨none,none,none,[],rfl,ai,.nil,s1⟩ (λi σ H' _ ⟨_,_,_,_,_,_,_,s2⟩=>cv.of (s2 _ _ hq)) ?_ ?_⟩
  ·rintro i x σ H' T' hi ⟨v2,v3,v4,qs,rfl,hL,EK,s2⟩ F5;obtain⟨d,tf,rfl⟩:=dk hi;have Yl:i<t.length:=by rw[<-DD];exact(ao.mp tf).1
   obtain⟨H0,kk,ad,R⟩:=Jz i d tf;have t3:aE H' (aP H' T' (.bV [.int (i:Nat),.ref d])):=aE.aP F5;have s3:=s2.trans t3;have oI:=t3 _ _ hL;have agY:=EK.keeps t3;refine⟨T',_,rfl,eh.of ai,rfl,_,_,rfl,_,_,rfl,rfl,?_⟩;generalize aP H' T' (.bV [.int (i:Nat),.ref d])=H3 at t3 s3 oI agY ⊢;have R3:=R.keeps s3;have xq:(gD DG kk λb=>V.ref (ad b)).map (·.1)=(kk.map λ(k:Nat)=>(k:Int)).map bJ:=by unfold gD;rw[bS,bS];rfl
   refine⟨_,rfl,d,_,_,rfl,R3.dict,xq,λns p TK TM PB=>?_⟩;have ens:=Jm TK TM R.nd (l:=(bE (gs g+1)).filter (Ay g cN t i)) (λx=>by
    rw[R.mem,dE,eV];constructor
    ·intro z;have:=P' G TA FO z;exact⟨by omega,by unfold Ay;simpa using z⟩
    ·rintro⟨_,z⟩;unfold Ay at z;simpa using z) (LW (uN _))
   subst ens;rw[Jn];have t4:aE H3 (aP H3 p (.be (eS ((bE (gs g+1)).filter (Ay g cN t i))))):=aE.aP PB;have YY:aP H3 p (.be (eS ((bE (gs g+1)).filter (Ay g cN t i)))) p=some (.be (eS ((bE (gs g+1)).filter (Ay g cN t i)))):=ai;have s4:=s3.trans t4;have DC:=t4 _ _ oI;have agZ:=agY.keeps t4;have hpc:p≠c:= λz=>by rw[z,oI]at PB;cases PB
   generalize aP H3 p (.be (eS ((bE (gs g+1)).filter (Ay g cN t i))))=H4 at t4 YY s4 DC agZ ⊢;have arG:=JB g cN t i;have arH:i*(gs g+1)<=128*257:=Nat.mul_le_mul (by omega) (by unfold gs;omega);rw[EJ,<-zZ];generalize hsc:(bE (gs g+1)).filter (Ay g cN t i)=sc at YY ⊢;have arI:sc.length<=257:=by rw[<-hsc];refine aW (cp _ _) ?_;rw[fh];unfold gs;omega
   have arJ:=d7 DC;have hpb:d6 [c] H4 p=some (.be (eS sc)):=bo.mpr ⟨by simpa using hpc,YY⟩;have keep:∀{H5:Hp},aE (d6 [c] H4) H5->aE H H5:= λ{H5} z=>uv hc s4 z;refine⟨p,rfl,⟨_,cv.of YY⟩,ig (K:=K) (a:=p) (xs:=eS sc) (λj σ H5=>∃(v4:Option V)(qs:List ah),σ=[some (.ref q),some (.ref c),some (.int (i:Nat)),some (.ref d),v4]/\H5 c=some (.be (qs.map V.ref))/\qZ H5 (LV g cN t i++(sc.take j).filterMap (kH g cN t i)) qs/\aE (d6 [c] H4) H5) ⟨v4,qs,rfl,DC,by rw[qm];show qZ H4 (_++[]) qs;rw[cz];exact agZ,ci _ _⟩ (λj σ H5 _ ⟨_,_,_,_,_,s5⟩=>cv.of (s5 _ _ hpb)) ?_ ?_⟩
   ·rintro j x σ H5 hj ⟨v4,qs,rfl,hL5,Qe,s5⟩;obtain⟨cl,hc1,rfl⟩:∃cl,sc[j]? =some cl/\x=nV cl:=by
     unfold eS at hj;rw[aM]at hj;cases e:sc[j]? with|none=>rw[e]at hj;cases hj|some m=>rw[e]at hj;exact⟨m,rfl,(ax hj).symm⟩
    have xT:cl∈kk:=by have:=aG hc1;rw[<-hsc]at this;have z:=(dE.mp this).2;rw[R.mem];unfold Ay at z;simpa using z
    obtain⟨tq,htq,hti⟩:=R.be cl xT;have ZT:=a6 hti;have ag2:=keep s5 _ _ htq;have dg:lx H5 d (.int (cl:Int)) (some (.ref (ad cl))):=by have:=lx.k (k:=DG cl) (keep s5 _ _ R.dict);rw[ux uW,if_pos xT]at this;exact this
    have yU:qs.length<=33200:=by rw[<-a6 Qe,aw];have h2:=bL (kH g cN t i) (sc.take j);rw[a4]at h2;omega
    rw[ph hc1];refine⟨_,rfl,_,rfl,d,_,rfl,dg,ad cl,_,rfl,.inl (cv.of ag2),_,_,rfl,rfl,_,rfl,?_⟩;rw[a_,<-ZT];by_cases hn:1<(dc g cN t i cl).length
    ·have ecf:kH g cN t i cl=some (i,cl,(dc g cN t i cl).length):=if_pos hn;refine cF (decide_eq_true (by omega)) ⟨_,rfl,.inl ⟨rfl,_,cv.of hL5⟩,_,rfl,_,rfl,_,rfl,_,rfl,d,_,rfl,dg,ad cl,_,rfl,.inl (cv.of ag2),(by show 3<=al;omega),λu ma=>?_⟩;rw[a_,<-ZT];have t6:aE H5 (aP H5 u (.bV [.int (i:Nat),nV cl,.int ((dc g cN t i cl).length:Nat)])):=aE.aP ma;have hu6:agX (aP H5 u (.bV [.int (i:Nat),nV cl,.int ((dc g cN t i cl).length:Nat)])) (i,cl,(dc g cN t i cl).length) u:=ai;have Vx:=t6 _ _ hL5;have ag3:=Qe.keeps t6;have s6:=s5.trans t6;generalize aP H5 u (.bV [.int (i:Nat),nV cl,.int ((dc g cN t i cl).length:Nat)])=H6 at t6 hu6 Vx ag3 s6 ⊢;refine⟨c,_,_,rfl,rfl,Vx,by rw[a_];omega,?_⟩;have sb:aE (d6 [c] H6) (aP H6 c (.be (qs.map V.ref++[V.ref u]))):=cS (ci _ _) (by simp);refine⟨_,qs++[u],rfl,by rw[ai,aK];rfl,?_,cS s6 (by simp)⟩;rw[ecf,<-fg];exact cJ ((qZ.nt (d7 Vx) ag3).keeps sb) (sb _ _ (bo.mpr ⟨λm=>d7 Vx _ m _ hu6,hu6⟩))
    ·have ecf:kH g cN t i cl=none:=if_neg hn;refine bZ (decide_eq_false (by omega)) ⟨_,qs,rfl,hL5,?_,s5⟩;rw[ecf];show qZ H5 (_++(_++[])) qs;rw[cz];exact Qe
   ·rintro σ H5 ⟨v4,qs,rfl,hL5,Qe,s5⟩;rw[fO,a8]at Qe;exact⟨_,_,_,qs,rfl,hL5,Qe,keep s5⟩
  ·rintro σ H' ⟨v2,v3,v4,qs,rfl,hL,EK,s2⟩;rw[a_,DD]at EK;refine⟨_,rfl,k H' c qs s2 hc hL ?_⟩;rw[pF];exact EK
theorem rg2:((bE 201).all λn=>C7 0 (n:Int) 2&&(ln 0 (n:Int) 2==(n+1)/2))=true:=by decide+kernel
theorem am1{n:Nat}(h:n<=200):RgC 0 (n:Int) 2 ((n+1)/2):=by have:=ik.mp rg2 n (eV.mpr (by omega));rw[bg]at this;exact⟨by decide,by decide,this.1,iL this.2⟩
def px(l:List Int):List V:=l.map V.int
def ag4(H:Hp)(p:Nat×Option Nat)(q:ah):Prop:=H q=some (.bV [nV p.1,oV p.2])
def uB(H:Hp)(l:List (Nat×Option Nat))(qs:List ah):Prop:=Paired (ag4 H) l qs
theorem uB.keeps(s:aE H H'){l:List (Nat×Option Nat)}(h:uB H l qs):uB H' l qs:=Paired.gJ h λ_ _ z=>s _ _ z
theorem uB.nt(hS:∀b∈S,∀xs,H b≠some (.bV xs)){l:List (Nat×Option Nat)}(h:uB H l qs):uB (d6 S H) l qs:=Paired.gJ h λ_ _ z=>bo.mpr ⟨λm=>hS _ m _ z,z⟩
theorem y0(h:b<=256):(vw g)[b]? =some (oV (nP g b)):=by unfold vw;rw[aM,g_ (by omega)];rfl
theorem XE(mv:List gf)(k o:Nat):iV (rj mv) [bJ (k:Int),bJ (o:Int)]=(mv.find? (λm=>m.kind==k&&m.over==o)).map λm=>nV m.to:=by
 induction mv with
 |nil=>rfl|cons m mv ih=>
  show iV ((vz m,nV m.to)::rj mv) _=_;rw[dR];by_cases e:m.kind=k/\m.over=o
  ·rw[nR (by show vz m=_;unfold vz;rw[e.1,e.2])];have:(m.kind==k&&m.over==o)=true:=by rw[bg,beq_iff_eq,beq_iff_eq];exact e
   rw[this];rfl
  ·rw[nS λz=>e ?_,ih]
   ·have:(m.kind==k&&m.over==o)=false:=by
     cases q:(m.kind==k&&m.over==o)with|false=>rfl|true=>rw[bg,beq_iff_eq,beq_iff_eq]at q;exact absurd q e
    rw[this]
   ·have z':vz m=[bJ (k:Int),bJ (o:Int)]:=z;unfold vz at z';have h1:=da z';exact⟨nF h1.1,nF (da h1.2).1⟩
def ag5:Nat×Option Nat->List Int
 |(_,some k)=>[0,(k:Int)]|(n,none)=>[1,(n:Int)]
theorem JD{r:C0}(hr:t[i]? =some r){md sq:ah}(hm:H md=some (.dT (rj r.moves))){o:Option Nat}(hs:H sq=some (.bV [nV k,oV o])):Ps H md (.ref sq) ((o.bind (bK t i k)).map nV):=by
 cases o with|none=>exact .inr (.inr ⟨rfl,_,[some (bJ (k:Int)),none],sq,.inl hm,rfl,hs,by simp⟩)|some c=>left;have:=lx.t (k:=[bJ (k:Int),bJ (c:Int)]) hm (b:=sq) hs;rw[XE]at this;show lx H md (.ref sq) ((bK t i k c).map nV);rw[vN hr,VQ];exact this
abbrev LY:dZ:=mm 66
inductive N0(C:ah)(vs:List V)(H:Hp)(Q:VK)(E_:XK):Prop
 |mk (a:ah) (g:aL) (ls lm lw:ah) (kd n:Nat) (_:vs=[.ref a,nV kd,nV n]) (_:jo C H g a ls lm lw) (_:Q (.bl (OD g kd n).isSome) H)
theorem XF:bU ["table","kind","number"] ["table","kind","number"] (a5 LY):=ml
theorem UE(F:lg K "is_symbol" "is_symbol" LY f fd)(T:Gm mg)(TT:AX K C):dQ P w K mg base ki 1 f fd ["table","kind","number"] (N0 C):=by
 refine F.ok XF (λvs H Q E h=>?_) (λgl A bN s H vs Q E hr h=>?_)
 ·obtain⟨a,g,ls,lm,lw,kd,n,rfl,_⟩:=h;rfl
 ·obtain⟨a,g,ls,lm,lw,kd,n,rfl,⟨dx,lr,lc,lo,as,cs,h1,h2,h3,h4,h5,h6⟩,k⟩:=h;refine⟨_,am (dD (bY g8 (pv 1) (lQ T.nt rfl) (ck _)) (aJ (bG (xb ue (pv 2) (cE (pv 0) rfl) (ck _)))) b5) (aJ (bG (aag (xb g8 (pv 1) (lQ T.rg rfl) (ck _)) (aaf (xb mO (pv 2) (lQ T.lb rfl) (ck _)))))),?_⟩;refine⟨_,rfl,rfl,_,rfl,?_⟩
  match kd,k with
  |0,k=>
   refine cF (dV rfl) ⟨_,rfl,_,rfl,a,C,dx,_,_,rfl,h1,TT.cl,TT.non,FU,_,_,rfl,rfl,?_⟩;have e:(OD g 0 n).isSome=decide ((n:Int)<(g.nons:Int)):=by
    show(if n<g.nons then some ((0:Nat),some n)else none).isSome=_;by_cases h:n<g.nons
    ·rw[if_pos h,decide_eq_true (by omega)];rfl
    ·rw[if_neg h,decide_eq_false (by omega)];rfl
   rw[e]at k;exact k
  |1,k=>
   refine bZ (mh (by decide)) ⟨_,rfl,rfl,_,rfl,cF (dV rfl) ⟨_,rfl,_,_,rfl,rfl,?_⟩⟩;have e:(OD g 1 n).isSome=decide ((n:Int)<=255):=by
    show(if n<256 then some ((1:Nat),cf g n)else none).isSome=_;by_cases h:n<256
    ·rw[if_pos h,decide_eq_true (by omega)];rfl
    ·rw[if_neg h,decide_eq_false (by omega)];rfl
   rw[e]at k;exact k
  |kd+2,k=>refine bZ (mh (by omega)) ⟨_,rfl,rfl,_,rfl,bZ (mh (by omega)) ?_⟩;exact k
abbrev ack:dZ:=mm 67
abbrev am2:List bT:=["table","numbers","symbols","place","kind","number"]
inductive Ze(C:ah)(K:ak)(vs:List V)(H:Hp)(Q:VK)(E_:XK):Prop
 |mk (a na:ah) (g:aL) (ls lm lw:ah) (x:List Nat) (_:vs=[.ref a,.ref na]) (_:jo C H g a ls lm lw) (_:cv K H na (eS x)) (_:x.length<=200) (_:(g5 g x=none->∀H',aE H H'->Q .non H')) (_:∀l,g5 g x=some l->∀(H':Hp)(q:ah)(qs:List ah),aE H H'->H' q=some (.be (qs.map V.ref))->uB H' l qs->Q (.ref q) H')
theorem Zf:bU am2 ["table","numbers"] (a5 ack):=ml
theorem acl(F:lg K "read_symbols" "read_symbols" ack f fd)(T:Gm mg)(TT:AX K C)(GI:jL P w K mg base "is_symbol" 1 ["table","kind","number"] (N0 C)):dQ P w K mg base ki 2 f fd ["table","numbers"] (Ze C K):=by
 refine F.ok Zf (λvs H Q E h=>?_) (λgl A bN s H vs Q E hr h=>?_)
 ·obtain⟨a,na,g,ls,lm,lw,x,rfl,_⟩:=h;rfl
 ·obtain⟨a,na,g,ls,lm,lw,x,rfl,hT,hN,LZ,q0,q1⟩:=h;have nd:=Zf.nd;have hsz:al=16777216:=bR;have hT0:=hT;obtain⟨dx,lr,lc,lo,as,cs,qy,Hd,Jy,Kb,Kc,He⟩:=hT;refine⟨_,am (dD (bY Iu (e7 aap (cg bM rfl T.fD bB (af (pv 1) aD)) aR) aR (ck _)) (aJ (bG gd)) b5) (am (g9 2 nd (cV aD)) (am (fQ bi rfl (Pa rfl T.range (af aR (af (cg bM rfl T.fD bB (af (pv 1) aD)) (af aR aD)))) (nr 3 nd) (am (g9 4 nd (ft b_ (pv 1) (pv 3))) (am (g9 5 nd (ft b_ (pv 1) (e7 i9 (pv 3) aR))) (am (dD (o_ (lN (cO GI hr (aB _) rfl (af (pv 0) (af (pv 4) (af (pv 5) aD)))))) (aJ (bG gd)) b5) (aJ (fz (i_ bf bv bx d_ (pv 2) (af (ii (af (pv 4) (af (BL (bY g8 (pv 4) (lQ T.nt rfl) (ck _)) (pv 5) (ft b_ (cE (pv 0) rfl) (pv 5))) aD))) aD)))))))) (aJ (bG (pv 2))))),?_⟩;refine⟨_,rfl,na,_,rfl,.inl hN,_,_,rfl,rfl,(by show(0:Int)<2;decide),rfl,_,rfl,?_⟩;rw[fO];by_cases am3:x.length%2=1
  ·refine cF ?_ (q0 (By x am3) H aE.Pu);rw[rh];exact mh (by omega)
  ·refine bZ (by show(!decide (V.int ((x.length:Int)%2)=V.int 0))=false;rw[show((x.length:Int)%2)=0 by omega];rfl) ⟨bj _,λt ht=>?_⟩;have s1:aE H (aP H t (.be [])):=aE.aP ht;refine⟨_,rfl,na,_,rfl,.inl (s1.seq hN),0,(x.length:Int),2,(x.length+1)/2,by rw[fO],am1 LZ,?_⟩;refine K' (lo:=0) (c:=2) (n:=(x.length+1)/2) (λi σ H'=>∃(v3 v4 v5:Option V)(done:List (Nat×Option Nat))(qs:List ah),σ=[some (.ref a),some (.ref na),some (.ref t),v3,v4,v5]/\H' t=some (.be (qs.map V.ref))/\uB H' done qs/\done.length=i/\g5 g x=(g5 g (x.drop (2*i))).map (done++ ·)/\aE H H')
    ⟨none,none,none,[],[],rfl,ai,.nil,rfl,by simp,s1⟩ ?_ ?_
   ·rintro i σ H' hi ⟨v3,v4,v5,done,qs,rfl,hL,EK,DD,Zg,s2⟩;have hi2:2*i+1<x.length:=by omega
    have ei:(0:Int)+(i:Nat)*2=((2*i:Nat):Int):=by omega
    rw[ei];obtain⟨kd,hkd⟩:∃kd,x[2*i]? =some kd:=⟨_,ay (by omega)⟩;obtain⟨n,hn⟩:∃n,x[2*i+1]? =some n:=⟨_,ay hi2⟩;have ag6:x.drop (2*i)=kd::n::x.drop (2*(i+1)):=by rw[lH (show 2*i<x.length by omega),lH hi2];rw[ay (by omega)]at hkd hn;rw[ax hkd,ax hn];rfl
    rw[ag6,Bx]at Zg;have hN':=s2.seq hN;have yU:qs.length<=200:=by rw[<-a6 EK,DD];omega
    refine⟨_,rfl,_,rfl,na,_,_,_,rfl,rfl,hN',aN (uT hkd),?_⟩;refine⟨_,rfl,_,rfl,_,_,rfl,rfl,na,_,_,_,rfl,rfl,hN',SD (j:=2*i+1) (by omega) (uT hn),?_⟩;refine⟨_,rfl,_,rfl,_,rfl,a,g,ls,lm,lw,kd,n,rfl,hT0.keeps s2,_,rfl,?_⟩;cases QL:OD g kd n with
    |none=>rw[QL]at Zg;exact cF rfl (q0 Zg H' s2)|some p=>
     rw[QL]at Zg;refine bZ rfl ?_;have oH:∀(v:V),v=oV p.2->p.1=kd->∀D:rX,(∀σ H',(∃(v3 v4 v5:Option V)(done:List (Nat×Option Nat))(qs:List ah),σ=[some (.ref a),some (.ref na),some (.ref t),v3,v4,v5]/\H' t=some (.be (qs.map V.ref))/\uB H' done qs/\done.length=i+1/\g5 g x=(g5 g (x.drop (2*(i+1)))).map (done++ ·)/\aE H H')->D.nx σ H')->
      ∀u,H' u=none->D.nx [some (.ref a),some (.ref na),some (.ref t),some (nV (2*i)),some (nV kd),some (nV n)] (aP (aP H' u (.bV [nV kd,v])) t (.be (qs.map V.ref++[V.ref u]))):=by
      intro v hv hk D hD u hu;refine hD _ _ ⟨_,_,_,done++[p],qs++[u],rfl,by rw[ai,aK];rfl,?_,by rw[aw,bp,DD],?_,λb o e=>?_⟩
      ·have t3:aE H' (aP H' u (.bV [nV kd,v])):=aE.aP hu;have oI:=t3 _ _ hL;have hu3:ag4 (aP H' u (.bV [nV kd,v])) p u:=by show aP H' u _ u=_;rw[ai,hv,hk]
       have sb:aE (d6 [t] (aP H' u (.bV [nV kd,v]))) (aP (aP H' u (.bV [nV kd,v])) t (.be (qs.map V.ref++[V.ref u]))):=cS (ci _ _) (by simp);exact cJ ((uB.nt (d7 oI) (EK.keeps t3)).keeps sb) (sb _ _ (bo.mpr ⟨λm=>d7 oI _ m _ hu3,hu3⟩))
      ·rw[Zg];cases g5 g (x.drop (2*(i+1)))with|none=>rfl|some l=>simp
      ·rw[aF (aH e ht),aF (aH (s2 _ _ e) hu)];exact s2 _ _ e
     have hLu:∀{u:ah}{o:HO},H' u=none->aP H' u o t=some (.be (qs.map V.ref)):= λ{u o} hu=>by rw[aF (aH hL hu)];exact hL
     match kd,QL,oH with
     |0,QL,oH=>
      have hp:p=(0,some n):=by
       have z:(if n<g.nons then some ((0:Nat),some n)else none)=some p:=QL;split at z
       ·exact(ax z).symm
       ·cases z
      refine⟨_,rfl,.inl ⟨rfl,_,cv.of hL⟩,_,rfl,_,rfl,rfl,_,rfl,cF (dV rfl) ⟨_,rfl,(by show 2<=al;omega),λu hu=>⟨t,_,_,rfl,rfl,hLu hu,by rw[a_];omega,?_⟩⟩⟩;exact oH _ (by rw[hp];rfl) (by rw[hp]) _ (λ_ _ z=>z) u hu
     |1,QL,oH=>
      have hp:n<256/\p=(1,cf g n):=by
       have z:(if n<256 then some ((1:Nat),cf g n)else none)=some p:=QL;split at z
       ·rename_i f8;exact⟨f8,(ax z).symm⟩
       ·cases z
      have hcg:(vw g)[n]? =some (oV (cf g n)):=by rw[y0 (by omega)];unfold nP;rw[if_neg (by omega)]
      refine⟨_,rfl,.inl ⟨rfl,_,cv.of hL⟩,_,rfl,_,rfl,rfl,_,rfl,bZ (mh (by decide)) ⟨_,rfl,a,C,dx,_,_,rfl,s2 _ _ qy,TT.cl,TT.col,Lh,_,rfl,lo,_,_,_,rfl,rfl,cv.of (s2 _ _ He),aN hcg,(by show 2<=al;omega),λu hu=>⟨t,_,_,rfl,rfl,hLu hu,by rw[a_];omega,?_⟩⟩⟩;exact oH _ (by rw[hp.2]) (by rw[hp.2]) _ (λ_ _ z=>z) u hu
     |kd+2,QL,oH=>cases QL
   ·rintro σ H' ⟨v3,v4,v5,done,qs,rfl,hL,EK,DD,Zg,s2⟩;have:x.drop (2*((x.length+1)/2))=[]:=jW (by omega);rw[this]at Zg;have ag7:g5 g x=some (done++[]):=Zg;rw[cz]at ag7;exact⟨_,rfl,q1 done ag7 H' t qs s2 hL EK⟩
abbrev UF:dZ:=mm 68
abbrev ag8:List bT:=["table","state","symbols","here","number","symbol"]
inductive UG(C:ah)(vs:List V)(H:Hp)(Q:VK)(E_:XK):Prop
 |mk (a sa:ah) (g:aL) (ks:List (List Nat)) (t:cK) (i:Nat) (l:List (Nat×Option Nat)) (qs:List ah) (_:vs=[.ref a,nV i,.ref sa]) (_:Good g) (_:sY g ks t) (_:TabAt C H g t a) (_:i<t.length) (_:H sa=some (.be (qs.map V.ref))) (_:uB H l qs) (_:∀(H':Hp)(q:ah),aE H H'->H q=none->H' q=some (.be (px (ag5 (mK t 0 i l))))->Q (.ref q) H')
theorem UH:bU ag8 ["table","state","symbols"] (a5 UF):=ml
theorem XG(F:lg K "walk" "walk" UF f fd)(T:Gm mg)(TT:AX K C):dQ P w K mg base ki 1 f fd ["table","state","symbols"] (UG C):=by
 refine F.ok UH (λvs H Q E h=>?_) (λgl A bN s H vs Q E hr h=>?_)
 ·obtain⟨a,sa,g,ks,t,i,l,qs,rfl,_⟩:=h;rfl
 ·obtain⟨a,sa,g,ks,t,i,l,qs,rfl,G,TA,pH,jx,hS,hG,k⟩:=h;have nd:=UH.nd;have hu:=m5 hr;obtain⟨ls,lm,lw,ss,ms,ws,⟨dx,lr,lc,lo,as,QQ,qy,Hd,Jy,Kb,Kc,He⟩,h2,h3,h4,h5,h6,h7⟩:=pH;have hgl:=a6 hG;refine⟨_,am (g9 3 nd (pv 1)) (am (fQ bi rfl (xo rfl T.nu (af (pv 2) aD)) (vR rfl (gT (nr 4 nd) (gT (nr 5 nd) pY))) (am (g9 3 nd (B' hu (ft b_ (cE (pv 0) rfl) (pv 3)) (pv 5) ⟨rfl,rfl,rfl,rfl⟩)) (aJ (dD (bY og (pv 3) gd (ck _)) (aJ (bG (cV (af aR (af (pv 4) aD))))) b5)))) (aJ (bG (cV (af aR (af (pv 3) aD)))))),?_⟩;refine⟨_,rfl,_,rfl,sa,_,rfl,cv.of hS,xM (K:=K) (a:=sa) (xs:=qs.map V.ref) (λj σ H'=>∃(v4 v5:Option V)(pz:Nat),σ=[some (.ref a),some (nV i),some (.ref sa),some (nV pz),v4,v5]/\pz<t.length/\mK t 0 i l=mK t j pz (l.drop j)/\aE H H') ⟨none,none,i,rfl,jx,rfl,aE.Pu⟩ (λj σ H' _ ⟨_,_,_,_,_,_,s2⟩=>cv.of (s2 _ _ hS)) ?_ ?_⟩
  ·rintro j x σ H' T' hj ⟨v4,v5,pz,rfl,Qg,hw,s2⟩ F5;obtain⟨sq,acm,rfl⟩:=dk hj;obtain⟨⟨kd,o⟩,hp,hpq⟩:=b0 hG acm;have t3:aE H' (aP H' T' (.bV [.int (j:Nat),.ref sq])):=aE.aP F5;have s3:=s2.trans t3;refine⟨T',_,rfl,eh.of ai,rfl,_,_,rfl,_,_,rfl,rfl,?_⟩;generalize aP H' T' (.bV [.int (j:Nat),.ref sq])=H3 at t3 s3 ⊢;obtain⟨r,Ax⟩:∃r,t[pz]? =some r:=⟨_,ay Qg⟩;obtain⟨md,LS,hmd⟩:=L2.fV h5 Ax;have hmi:(ms.map V.ref)[pz]? =some (.ref md):=by rw[aM,LS];rfl
   have ag9:H3 md=some (.dT (rj r.moves)):=s3 _ _ hmd;have XH:l.drop j=(kd,o)::l.drop (j+1):=by have f8:=(ao.mp hp).1;rw[lH f8,(ao.mp hp).2]
   rw[XH,mK]at hw;refine⟨_,rfl,a,C,dx,_,_,rfl,s3 _ _ qy,TT.cl,TT.YM,wa,_,rfl,lm,_,_,_,rfl,rfl,cv.of (s3 _ _ h4),aN hmi,md,rfl,.inr ⟨_,.inl ag9⟩,_,rfl,_,JD Ax ag9 (k:=kd) (o:=o) (s3 _ _ hpq),?_⟩;cases hm:o.bind (bK t pz kd)with
   |none=>rw[hm]at hw;refine⟨_,rfl,rfl,_,rfl,cF rfl ⟨_,rfl,(by show 2<=al;decide),λu ma=>?_⟩⟩;refine k _ u (aE.kj s3 ma) (s3.free ma) ?_;rw[ai,hw];rfl|some nx=>
    rw[hm]at hw;refine⟨_,rfl,rfl,_,rfl,bZ rfl ⟨_,_,nx,rfl,?_,hw,s3⟩⟩;cases o with
    |none=>cases hm|some c=>have HP:bK t pz kd c=some nx:=hm;obtain⟨r',m,e1,e2,_,_,rfl⟩:=tY HP;exact(TA.V3 G e1 e2).1
  ·rintro σ H' ⟨v4,v5,pz,rfl,Qg,hw,s2⟩;rw[a_,<-hgl,A6]at hw;refine⟨_,rfl,(by show 2<=al;decide),λu ma=>?_⟩;refine k _ u (aE.kj s2 ma) (s2.free ma) ?_;rw[ai,hw];rfl
theorem N1{xs:List Int}{lo:Int}(h:Y5 xs 0 lo):decide (lo<0)=xs.any λn=>decide (n<0):=by
 obtain⟨h0,h1⟩:=h;by_cases e:xs=[]
 ·subst e;rw[h0 rfl];rfl
 ·obtain⟨h2,h3⟩:=h1 e;rw[eu,n6,decide_eq_true_iff];constructor
  ·intro z;exact⟨lo,h2,decide_eq_true z⟩
  ·rintro⟨n,hn,z⟩;have:=h3 n hn;have:=of_decide_eq_true z;omega
theorem Cs{xs:List Int}(h:(xs.any λn=>decide (n<0))=false):px xs=eS (dW xs):=by
 unfold px eS dW;rw[bS];refine cZ λn hn=>?_;have h':=z_.mp h n hn;have:¬n<0:=by simpa using h'
 show V.int n=V.int ((n.toNat:Nat):Int);rw[jv (by omega)]
theorem sr(xs:List Int):(dW xs).length=xs.length:=aq _
theorem qg(xs:List Int):(px xs).length=xs.length:=aq _
theorem UI(xs:List V)(n:Nat)(h:n<=xs.length):qV xs none (some ((xs.length:Int)-(n:Int)))=xs.take (xs.length-n):=by
 unfold qV;have e1:HT.u6 xs.length 0 (none:Option Int)=0:=rfl;have e2:HT.u6 xs.length xs.length (some ((xs.length:Int)-(n:Int)))=xs.length-n:=by
  simp only[HT.u6]
  first|(split<;>omega)|omega
 rw[e1,e2,qj,pK]
def DH(H:Hp)(Q:VK)(l:List Int):Prop:=∀(H':Hp)(q:ah),aE H H'->H q=none->H' q=some (.be (px l))->Q (.ref q) H'
abbrev sGo:dZ:=mm 69
inductive aha(C:ah)(K:ak)(vs:List V)(H:Hp)(Q:VK)(E_:XK):Prop
 |mk (a na:ah) (g:aL) (ks:List (List Nat)) (t:cK) (i:Int) (xs:List Int) (_:vs=[.ref a,.int i,.ref na]) (_:Good g) (_:sY g ks t) (_:TabAt C H g t a) (_:cv K H na (px xs)) (_:DH H Q (oy {grammar:=g,table:=t} i xs))
theorem ahb:bU ["table","state","numbers","symbols"] ["table","state","numbers"] (a5 sGo):=ml
theorem ahc(F:lg K "go" "go" sGo f fd)(T:Gm mg)(GH:jL P w K mg base "has_state" 1 ["table","state"] (Nr C))(GR:jL P w K mg base "read_symbols" 2 ["table","numbers"] (Ze C K))(GW:jL P w K mg base "walk" 1 ["table","state","symbols"] (UG C)):dQ P w K mg base ki 3 f fd ["table","state","numbers"] (aha C K):=by
 refine F.ok ahb (λvs H Q E h=>?_) (λgl A bN s H vs Q E hr h=>?_)
 ·obtain⟨a,na,g,ks,t,i,xs,rfl,_⟩:=h;rfl
 ·obtain⟨a,na,g,ks,t,i,xs,rfl,G,TA,pH,hN,k⟩:=h;have nd:=ahb.nd;have hsz:al=16777216:=bR;have JC:=pH;obtain⟨ls,lm,lw,ss,ms,ws,qx,h2,h3,h4,h5,h6,h7⟩:=pH;have tG:=a6 h3;rw[aq]at tG;have ret:∀z:Int,oy {grammar:=g,table:=t} i xs=[z]->∀u,H u=none->Q (.ref u) (aP H u (.be [.int z])):= λz ez u hu=>k _ u (aE.aP hu) hu (by rw[ai,ez];rfl);refine⟨_,am (dD (bY ue (Ga rfl rfl T.min (af (pv 2) aD) (AR aR FD)) aR (ck _)) (aJ (bG (cV (af (lQ T.r1 rfl) aD)))) b5) (am (dD (bY Iv (cg bM rfl T.fD bB (af (pv 2) aD)) (lQ T.mnu rfl) (ck _)) (aJ (bG (cV (af (lQ T.r3 rfl) aD)))) b5) (am (dD (o_ (lN (cO GH hr (by decide) rfl (af (pv 0) (af (pv 1) aD))))) (aJ (bG (cV (af (lQ T.r4 rfl) aD)))) b5) (am (g9 3 nd (cO GR hr (aB _) rfl (af (pv 0) (af (pv 2) aD)))) (am (dD (bY og (pv 3) gd (ck _)) (aJ (bG (cV (af (lQ T.r5 rfl) aD)))) b5) (aJ (bG (cO GW hr (by decide) rfl (af (pv 0) (af (pv 1) (af (pv 3) aD)))))))))),?_⟩;refine⟨_,rfl,na,xs,0,rfl,rfl,hN,λlo S0=>⟨_,_,rfl,rfl,_,rfl,?_⟩⟩;rw[N1 S0];unfold oy at ret k;cases Gd:xs.any λn=>decide (n<0)with
  |true=>rw[Gd,if_pos rfl]at ret;exact cF rfl ⟨(by show 1<=al;omega),λu hu=>ret _ rfl u hu⟩|false=>
   rw[Gd,if_neg (by decide)]at ret k;refine bZ rfl ⟨_,rfl,na,_,rfl,.inl hN,_,_,rfl,rfl,_,rfl,?_⟩;rw[qg];by_cases LZ:200<xs.length
   ·rw[if_pos (show AL<xs.length from LZ)]at ret;exact cF (decide_eq_true (by omega)) ⟨(by show 1<=al;omega),λu hu=>ret _ rfl u hu⟩
   ·rw[if_neg (show¬AL<xs.length from LZ)]at ret k;refine bZ (decide_eq_false (by omega)) ⟨_,rfl,_,rfl,a,g,ls,lm,lw,_,i,rfl,qx,h2,_,rfl,?_⟩;rw[a_,<-tG];unfold jg at ret k;by_cases VD:i<0
    ·rw[if_pos VD]at ret;rw[decide_eq_false (by omega)];exact cF rfl ⟨(by show 1<=al;omega),λu hu=>ret _ rfl u hu⟩
    ·rw[if_neg VD]at ret k;by_cases Uf:(t.length:Int)<=i
     ·rw[if_pos Uf]at ret;rw[decide_eq_true (by omega),decide_eq_false (by omega)];exact cF rfl ⟨(by show 1<=al;omega),λu hu=>ret _ rfl u hu⟩
     ·rw[if_neg Uf]at ret k;rw[decide_eq_true (show 0<=i by omega),decide_eq_true (show i<(t.length:Int) by omega)];have Xl:=Cs Gd;rw[Xl]at hN;have ei:V.int i=nV i.toNat:=by unfold nV;rw[jv (by omega)]
      have eg:=wX (g:=g) (t:=t) (xs.length+2) (dW xs) 0 i.toNat (by rw[sr];omega);refine bZ rfl ⟨_,rfl,_,rfl,a,na,g,ls,lm,lw,dW xs,rfl,qx,hN,by rw[sr];omega,λe H1 s1=>?_,λl e H1 q qs s1 hq EK=>?_⟩
      ·refine⟨_,rfl,rfl,_,rfl,cF rfl ⟨(by show 1<=al;omega),λu hu=>?_⟩⟩;refine k _ u (aE.kj s1 hu) (s1.free hu) ?_;rw[ai];show _=some (HO.be (px (match kQ g t (xs.length+2) 0 i.toNat (dW xs)with
        |none=>[-5]|some (_,some k)=>[0,(k:Int)]|some (n,none)=>[1,(n:Int)])))
       rw[eg,e];rfl
      ·refine⟨_,rfl,rfl,_,rfl,bZ rfl ⟨_,rfl,_,rfl,_,rfl,a,q,g,ks,t,i.toNat,l,qs,(by rw[<-ei];rfl),G,TA,JC.keeps s1,by omega,hq,EK,λH2 r s2 Ax WZ=>?_⟩⟩;refine k H2 r (s1.trans s2) (s1.free Ax) ?_;rw[WZ];show _=some (HO.be (px (match kQ g t (xs.length+2) 0 i.toNat (dW xs)with
        |none=>[-5]|some (_,some k)=>[0,(k:Int)]|some (n,none)=>[1,(n:Int)])))
       rw[eg,e];show some (HO.be (px (ag5 (mK t 0 i.toNat l))))=some (HO.be (px (match some (mK t 0 i.toNat l)with
        |none=>[-5]|some (_,some k)=>[0,(k:Int)]|some (n,none)=>[1,(n:Int)])))
       rcases mK t 0 i.toNat l with⟨n,_|k'⟩<;>rfl
abbrev acn:dZ:=mm 73
abbrev am7:List bT:=["table","row","rule","kept","target"]
inductive Zh(C:ah)(vs:List V)(H:Hp)(Q:VK)(E_:XK):Prop
 |mk (a ra:ah) (g:aL) (ks:List (List Nat)) (t:cK) (r:Nat) (pre post:List Nat) (pz:Nat) (_:vs=[.ref a,.ref ra,nV r]) (_:Good g) (_:sY g ks t) (_:TabAt C H g t a) (_:H ra=some (.be (eS (pre++[pz]++post)))) (_:r<g.rules.length) (_:post.length=(aO g r).rhs.length) (_:pz<t.length) (_:pre.length<=5000) (_:(bK t pz 0 (aO g r).lhs=none->∀H',aE H H'->Q .non H')) (_:∀j,bK t pz 0 (aO g r).lhs=some j->∀(H':Hp)(q:ah),aE H H'->H q=none->H' q=some (.be (eS (pre++[pz]++[j])))->Q (.ref q) H')
theorem Zi:bU am7 ["table","row","rule"] (a5 acn):=ml
theorem aco(F:lg K "put_together" "put_together" acn f fd)(T:Gm mg)(TT:AX K C):dQ P w K mg base ki 1 f fd ["table","row","rule"] (Zh C):=by
 refine F.ok Zi (λvs H Q E h=>?_) (λgl A bN s H vs Q E hr h=>?_)
 ·obtain⟨a,ra,g,ks,t,r,pre,post,pz,rfl,_⟩:=h;rfl
 ·obtain⟨a,ra,g,ks,t,r,pre,post,pz,rfl,G,TA,pH,hR,Y1,wx,Qg,aoZ,q0,q1⟩:=h;have nd:=Zi.nd;have hu:=m5 hr;have hsz:al=16777216:=bR;obtain⟨ls,lm,lw,ss,ms,ws,⟨dx,lr,lc,lo,as,QQ,qy,Hd,Jy,Kb,Kc,He⟩,h2,h3,h4,h5,h6,h7⟩:=pH;obtain⟨rq,hra,tt,qs0,XB,htt,am8⟩:=L2.fV Jy (oJ (show r<=g.rules.length by omega));have PV:(as.map V.ref)[r]? =some (.ref rq):=by rw[aM,hra];rfl
  have yU:=a6 am8;have ahd:qs0.length=post.length:=by rw[<-yU,wx];show((aO g r).rhs.map (o1 g)).length=_;rw[aq]
  refine⟨_,am (g9 3 nd (uf xi (pv 1) MU (pZ (e7 yH (cg bM rfl T.fD bB (af (pv 1) aD)) (cg bM rfl T.fD bB (af (ft cw (ft b_ (cE (pv 0) rfl) (pv 2)) aR) aD)))))) (am (g9 4 nd (B' hu (ft b_ (cE (pv 0) rfl) (ft b_ (pv 3) (MN Fz aR))) (ii (af (lQ T.nt rfl) (af (ft cw (ft b_ (cE (pv 0) rfl) (pv 2)) aR) aD))) ⟨rfl,rfl,rfl,rfl⟩)) (am (dD (bY og (pv 4) gd (ck _)) (aJ (bG gd)) b5) (aJ (bG (e7 FH (pv 3) (cV (af (pv 4) aD))))))),?_⟩;refine⟨_,rfl,_,rfl,ra,_,rfl,.inl (cv.of hR),_,rfl,a,C,dx,_,_,rfl,qy,TT.cl,TT.YL,v_,_,rfl,lr,_,_,_,rfl,rfl,cv.of Hd,aN PV,rq,_,_,_,rfl,rfl,eh.of XB,aN (j:=1) rfl,tt,_,rfl,.inr (eh.of htt),_,_,rfl,rfl,_,rfl,ra,_,rfl,cv.of hR,λl hl=>?_⟩;have ahe:(eS (pre++[pz]++post)).length=pre.length+1+post.length:=by rw[fO];simp only[aw,bp]
  show ow 3 (.ref l) _ (aP H l (.be (qV (eS (pre++[pz]++post)) none (some (((eS (pre++[pz]++post)).length:Int)-(((qs0.map V.ref).length:Nat):Int)))))) _;rw[UI _ _ (by rw[ahe,a_,ahd];omega),a_,ahd,ahe];have am9:(eS (pre++[pz]++post)).take (pre.length+1+post.length-post.length)=eS (pre++[pz]):=by rw[zj];unfold eS;rw[<-oq,C8 (by simp)]
  rw[am9];have s1:aE H (aP H l (.be (eS (pre++[pz])))):=aE.aP hl;have sh:aP H l (.be (eS (pre++[pz]))) l=some (.be (eS pre++[nV pz])):=by rw[ai];unfold eS;rw[aK];rfl
  generalize aP H l (.be (eS (pre++[pz])))=H1 at s1 sh ⊢;obtain⟨IC,DI⟩:∃r,t[pz]? =some r:=⟨_,ay Qg⟩;obtain⟨md,LS,hmd⟩:=L2.fV h5 DI;have hmi:(ms.map V.ref)[pz]? =some (.ref md):=by rw[aM,LS];rfl
  have Zj:H1 md=some (.dT (rj IC.moves)):=s1 _ _ hmd;refine⟨_,rfl,a,C,dx,_,_,rfl,s1 _ _ qy,TT.cl,TT.YM,wa,_,rfl,_,rfl,l,_,_,_,rfl,rfl,cv.of sh,IB _ _,lm,_,_,_,rfl,rfl,cv.of (s1 _ _ h4),aN hmi,md,rfl,.inr ⟨_,.inl Zj⟩,?_⟩;refine⟨_,rfl,a,C,dx,_,_,rfl,s1 _ _ qy,TT.cl,TT.YL,v_,_,rfl,lr,_,_,_,rfl,rfl,cv.of (s1 _ _ Hd),aN PV,rq,_,_,_,rfl,rfl,eh.of (s1 _ _ XB),aN (j:=0) rfl,(by show 2<=al;omega),λu ma=>?_⟩;have s2:aE H1 (aP H1 u (.bV [.int 0,nV (iz g (aO g r)).lhs])):=aE.aP ma;have yZ:aP H1 u (.bV [.int 0,nV (iz g (aO g r)).lhs]) u=some (.bV [nV 0,oV (some (aO g r).lhs)]):=ai;generalize aP H1 u (.bV [.int 0,nV (iz g (aO g r)).lhs])=H2 at s2 yZ ⊢;refine⟨_,JD DI (s2 _ _ Zj) yZ,?_⟩;show ow 4 (((bK t pz 0 (aO g r).lhs).map nV).getD .non) _ H2 _;cases hm:bK t pz 0 (aO g r).lhs with|none=>exact⟨_,rfl,rfl,_,rfl,cF rfl (q0 hm H2 (s1.trans s2))⟩|some j=>refine⟨_,rfl,rfl,_,rfl,bZ rfl ⟨_,rfl,_,rfl,(by show 1<=al;omega),λb hb=>?_⟩⟩;have s3:aE H2 (aP H2 b (.be [nV j])):=aE.aP hb;have u7:=s3 _ _ (s2 _ _ sh);refine⟨l,b,_,_,rfl,rfl,u7,ai,by rw[aw,fO];simp;omega,λp hp=>?_⟩;refine q1 j hm _ p (aE.kj ((s1.trans s2).trans s3) hp) (((s1.trans s2).trans s3).free hp) ?_;rw[ai];unfold eS;rw[aK,aK];rfl
def ahf:Vaglrd.Ending->List Int
 | .read l=>0::dA (l.length::l)| .stopped p=>[1,(p:Int)]| .spent=>[-8]
def N2(g:aL)(x:List Nat):List V:=(x.map λb=>oV (cf g b))++[nV (gs g)]
theorem Qh{x:List Nat}(hx:∀b∈x,b<256){p:Nat}(h:p<=x.length):(N2 g x)[p]? =some (oV (tZ g x p)):=by
 unfold N2;by_cases hp:p<x.length
 ·rw[cW (by simpa using hp),aM,ay hp,RA hx (ay hp)];rfl
 ·have:p=x.length:=by omega
  subst this;rw[eW (by simp),aq,lG,Ej];rfl
theorem EL{kk:List Nat}(R:zY H0 H T d kk ad)(o:Option Nat):Ps H d (oV o) (match o with
 |none=>none|some c=>if c∈kk then some (V.ref (ad c))else none):=by
 cases o with|none=>exact .inr (.inl ⟨rfl,rfl,_,.inl R.dict⟩)|some c=>left;have:=lx.k (k:=DG c) R.dict;rw[ux uW]at this;exact this
theorem JE(a:Int)(l:List Int):px (a::l)= .int a::px l:=rfl
abbrev acp:dZ:=mm 74
abbrev ana:List bT:=["table","things","columns","row","place","rules","step","at_place","thing"]
inductive Zk(C:ah)(vs:List V)(H:Hp)(Q:VK)(E_:XK):Prop
 |mk (a tq cq:ah) (g:aL) (ks:List (List Nat)) (t:cK) (cN x:List Nat) (_:vs=[.ref a,.ref tq,.ref cq]) (_:Good g) (_:sY g ks t) (_:TabAt C H g t a) (_:lC g cN) (_:sQ H g cN t tq) (_:(∀b∈x,b<256)) (_:H cq=some (.be (N2 g x))) (_:DH H Q (ahf (oX g t x)))
theorem Zl:bU ana ["table","things","columns"] (a5 acp):=ml
theorem acq(F:lg K "read_columns" "read_columns" acp f fd)(T:Gm mg)(GP:jL P w K mg base "put_together" 1 ["table","row","rule"] (Zh C)):dQ P w K mg base ki 2 f fd ["table","things","columns"] (Zk C):=by
 refine F.ok Zl (λvs H Q E h=>?_) (λgl A bN s H vs Q E hr h=>?_)
 ·obtain⟨a,tq,cq,g,ks,t,cN,x,rfl,_⟩:=h;rfl
 ·obtain⟨a,tq,cq,g,ks,t,cN,x,rfl,G,TA,pH,FO,wg,hx,hC,k⟩:=h;have nd:=Zl.nd;have hu:=m5 hr;have hsz:al=16777216:=bR;obtain⟨ds,htq,DD,Jz⟩:=wg;refine⟨_,am (g9 3 nd (cV (af aR aD))) (am (g9 4 nd aR) (am (g9 5 nd (cV aD)) (am (fQ bi rfl (uO rfl T.range (af (lQ T.mss rfl) aD)) (nr 6 nd) (am (g9 7 nd (B' hu (ft b_ (pv 1) (ft b_ (pv 3) (MN Fz aR))) (ft b_ (pv 2) (pv 4)) ⟨rfl,rfl,rfl,rfl⟩)) (am (dD (bY og (pv 7) gd (ck _)) (aJ (bG (cV (af aR (af (pv 4) aD))))) b5) (am (g9 8 nd (ft b_ (pv 7) aR)) (am (dD (bY g8 (ft cw (pv 8) aR) (lQ T.ac rfl) (ck _)) (aJ (bG (e7 FH (cV (af aR (af (cg bM rfl T.fD bB (af (pv 5) aD)) aD))) (pv 5)))) b5) (aJ (dD (bY g8 (ft cw (pv 8) aR) (lQ T.mo rfl) (ck _)) (am (fz (i_ bf bv bx d_ (pv 3) (af (ft cw (pv 8) aR) aD))) (aJ (g9 4 nd (e7 i9 (pv 4) aR)))) (am (g9 3 nd (cO GP hr (aB _) rfl (af (pv 0) (af (pv 3) (af (ft cw (pv 8) aR) aD))))) (am (dD (bY og (pv 3) gd (ck _)) (aJ (bG (cV (af aR (af (pv 4) aD))))) b5) (aJ (fz (i_ bf bv bx d_ (pv 5) (af (ft cw (pv 8) aR) aD))))))))))))) (aJ (bG (cV (af (lQ T.r8 rfl) aD))))))),?_⟩;refine⟨(by show 1<=al;omega),λrq0 ahg=>⟨bj _,λrl Y1=>?_⟩⟩;have s1:aE H (aP H rq0 (.be [.int 0])):=aE.aP ahg;have anb:H rl=none:=s1.free Y1;have s2:aE H (aP (aP H rq0 (.be [.int 0])) rl (.be [])):=aE.kj s1 Y1;have hrr:rq0≠rl:= λz=>by rw[<-z,ai]at Y1;cases Y1
  refine⟨_,rfl,by omega,by omega,?_⟩;refine uP (lo:=0) (n:=4000) (λi σ H'=>∃(rq:ah)(p:Nat)(st dn:List Nat)(v6 v7 v8:Option V),σ=[some (.ref a),some (.ref tq),some (.ref cq),some (.ref rq),some (nV p),some (.ref rl),v6,v7,v8]/\H' rq=some (.be (eS st.reverse))/\H' rl=some (.be (eS dn.reverse))/\H rq=none/\rq≠rl/\aE H H'/\OA t st/\p<=x.length/\dn.length<=i/\st.length<=i+1/\oX g t x=u5 g t x (4000-i) st p dn)
   ⟨rq0,0,[0],[],none,none,none,rfl,by rw[aF hrr,ai];rfl,by rw[ai];rfl,ahg,hrr,s2,.Yi,bj _,bj _,aB _,rfl⟩ ?_ ?_
  ·rintro i σ H' hi ⟨rq,p,st,dn,v6,v7,v8,rfl,hR,hL,hH0,j8,s3,KI,hp,hdn,qJ,Az⟩;obtain⟨pz,l,rfl,Qg,ao0⟩:=KI.ZY G TA;have ane:eS (pz::l).reverse=eS l.reverse++[nV pz]:=by rw[iZ];unfold eS;rw[aK];rfl
   have hR2:H' rq=some (.be (eS l.reverse++[nV pz])):=by rw[hR,ane]
   have ek:4000-i=(4000-(i+1))+1:=by omega
   rw[ek]at Az;obtain⟨d,hd⟩:∃d,ds[pz]? =some d:=⟨_,ay (by rw[DD];exact Qg)⟩;obtain⟨H0,kk,ad,R⟩:=Jz pz d hd;have R':=R.keeps s3;have hdi:(ds.map V.ref)[pz]? =some (.ref d):=by rw[aM,hd];rfl
   have stop:oX g t x= .stopped p->∀(H4:Hp),aE H H4->∀u,H4 u=none->Q (.ref u) (aP H4 u (.be [.int 1,nV p])):= λe H4 s4 u ma=>k _ u (aE.kj s4 ma) (s4.free ma) (by rw[ai,e];rfl);refine⟨_,rfl,_,rfl,_,rfl,rq,_,_,_,rfl,rfl,cv.of hR2,IB _ _,tq,_,_,_,rfl,rfl,cv.of (s3 _ _ htq),aN hdi,d,rfl,.inl ⟨_,.inl R'.dict⟩,_,rfl,_,rfl,cq,_,_,_,rfl,rfl,cv.of (s3 _ _ hC),aN (Qh hx hp),_,EL R' (tZ g x p),?_⟩;cases vO:tZ g x p with
   |none=>refine⟨_,rfl,rfl,_,rfl,cF rfl ⟨_,rfl,(by show 2<=al;omega),λu ma=>?_⟩⟩;exact stop (Az.trans (RB G hx vO)) H' s3 u ma|some c=>
    show ow 7 ((if c∈kk then some (V.ref (ad c))else none).getD .non) _ H' _;by_cases xT:c∈kk
    ·rw[if_pos xT];obtain⟨qs,hq,P1⟩:=R'.be c xT;have ahh:dc g cN t pz c≠[]:=(R.mem c).mp xT;obtain⟨⟨aa,bb⟩,rr,eth⟩:=lq ahh;rw[eth]at P1;cases P1 with
     |@cons _ th _ VC hth arN=>
      have JF:H' th=some (.bV [nV aa,nV bb]):=hth;refine⟨_,rfl,rfl,_,rfl,bZ rfl ⟨_,rfl,ad c,_,_,_,rfl,rfl,cv.of hq,aN (j:=0) rfl,?_⟩⟩;rcases RE G TA FO (k:=4000-(i+1)) (l:=l) (dn:=dn) vO eth with⟨rfl,er⟩|⟨rfl,er⟩|⟨rfl,er⟩
      ·
       refine⟨_,rfl,th,_,_,_,rfl,rfl,eh.of JF,aN (j:=0) rfl,rfl,_,rfl,cF (dV rfl) ⟨_,rfl,rl,_,rfl,.inl (cv.of hL),(by show 2<=al;omega),λu ma=>?_⟩⟩;have t4:aE H' (aP H' u (.be [.int 0,.int ((eS dn.reverse).length:Nat)])):=aE.aP ma;refine⟨_,rfl,u,rl,_,_,rfl,rfl,ai,t4 _ _ hL,by rw[fO,jm];show 2+_<=_;omega,λq sm=>?_⟩;refine k _ q (aE.kj (s3.trans t4) sm) ((s3.trans t4).free sm) ?_;rw[ai,Az.trans er];refine congrArg (λz=>some (HO.be z)) ?_;show[V.int 0,V.int ((eS dn.reverse).length:Nat)]++eS dn.reverse=px (0::dA (dn.reverse.length::dn.reverse));rw[fO];unfold px dA eS;rw[aS,aS,aS,bS];rfl
      ·
       rcases vP G TA eth with⟨_,hmv,IL⟩|⟨z,_⟩|⟨z,_⟩
       ·have arP:p<x.length:=by
         by_cases z:p<x.length
         ·exact z
         ·have:p=x.length:=by omega
          rw[this,Ej]at vO;have:=ax vO;omega
        refine⟨_,rfl,th,_,_,_,rfl,rfl,eh.of JF,aN (j:=0) rfl,rfl,_,rfl,bZ (mh (by decide)) ⟨_,rfl,th,_,_,_,rfl,rfl,eh.of JF,aN (j:=0) rfl,rfl,_,rfl,cF (dV rfl) ?_⟩⟩;refine⟨_,rfl,.inl ⟨rfl,_,cv.of hR⟩,_,rfl,th,_,_,_,rfl,rfl,eh.of JF,aN (j:=1) rfl,rq,_,_,rfl,rfl,hR,by rw[fO,jm];omega,?_⟩;refine⟨_,rfl,_,_,rfl,rfl,rq,p+1,bb::pz::l,dn,_,_,_,rfl,?_,?_,hH0,j8,λb o e=>?_,.more hmv KI,by omega,by omega,by simp only[aZ]at qJ ⊢;omega,Az.trans er⟩
        ·rw[ai,iZ (a:=bb)];unfold eS;rw[aK];rfl
        ·rw[aF j8.symm];exact hL
        ·rw[aF (aH e hH0)];exact s3 _ _ e
       ·cases z
       ·cases z
      ·
       rcases vP G TA eth with⟨z,_⟩|⟨_,hcm,f8⟩|⟨z,_⟩
       ·cases z
       ·obtain⟨Qi,l',edr,anf,ahi,dX⟩:=KI.put G TA hcm;rw[edr]at er;have er':u5 g t x (4000-(i+1)+1) (pz::l) p dn=match bK t Qi 0 (aO g bb).lhs with|some j=>u5 g t x (4000-(i+1)) (j::Qi::l') p (bb::dn)|none=> .stopped p:=er
        have acr:(pz::l).reverse=l'.reverse++[Qi]++((pz::l).take (aO g bb).rhs.length).reverse:=by
         have:=uZ (aO g bb).rhs.length (pz::l);rw[edr]at this
         conv=>lhs;rw[<-this]
         rw[List.reverse_append,iZ]
        have hR3:H' rq=some (.be (eS (l'.reverse++[Qi]++((pz::l).take (aO g bb).rhs.length).reverse))):=by rw[hR,acr]
        have OH:l'.length<=4001:=by have:=congrArg i0 edr;simp only[eC,aZ]at this qJ;omega
        refine⟨_,rfl,th,_,_,_,rfl,rfl,eh.of JF,aN (j:=0) rfl,rfl,_,rfl,bZ (mh (by decide)) ⟨_,rfl,th,_,_,_,rfl,rfl,eh.of JF,aN (j:=0) rfl,rfl,_,rfl,bZ (mh (by decide)) ?_⟩⟩;refine⟨_,rfl,_,rfl,_,rfl,th,_,_,_,rfl,rfl,eh.of JF,aN (j:=1) rfl,a,rq,g,ks,t,bb,l'.reverse,((pz::l).take (aO g bb).rhs.length).reverse,Qi,rfl,G,TA,pH.keeps s3,hR3,f8,by rw[jm,a4];omega,ahi,by rw[jm];omega,λem H4 s4=>?_,λj em H4 q s4 sm J'=>?_⟩
        ·rw[em]at er';refine⟨_,rfl,rfl,_,rfl,cF rfl ⟨_,rfl,(by show 2<=al;omega),λu ma=>?_⟩⟩;exact stop (Az.trans er') H4 (s3.trans s4) u ma
        ·rw[em]at er';have DC:=s4 _ _ hL;have ahj:q≠rl:= λz=>by rw[z,hL]at sm;cases sm
         refine⟨_,rfl,rfl,_,rfl,bZ rfl ⟨_,rfl,.inl ⟨rfl,_,cv.of DC⟩,_,rfl,th,_,_,_,rfl,rfl,eh.of (s4 _ _ JF),aN (j:=1) rfl,rl,_,_,rfl,rfl,DC,by rw[fO,jm];omega,?_⟩⟩;refine⟨q,p,j::Qi::l',bb::dn,_,_,_,rfl,?_,?_,s3.free sm,ahj,λb o e=>?_,.more em anf,hp,by simp only[aZ];omega,?_,Az.trans er'⟩
         ·rw[aF ahj,J',iZ,iZ]
         ·rw[ai,iZ];unfold eS;rw[aK];rfl
         ·rw[aF (aH e anb)];exact s4 _ _ (s3 _ _ e)
         ·have:=congrArg i0 edr;simp only[eC,aZ]at this qJ ⊢;omega
       ·cases z
    ·rw[if_neg xT];have he:dc g cN t pz c=[]:=kR λz=>xT ((R.mem c).mpr z);refine⟨_,rfl,rfl,_,rfl,cF rfl ⟨_,rfl,(by show 2<=al;omega),λu ma=>?_⟩⟩;exact stop (Az.trans (V4 G TA FO vO he)) H' s3 u ma
  ·rintro σ H' ⟨rq,p,st,dn,v6,v7,v8,rfl,hR,hL,hH0,j8,s3,KI,hp,hdn,qJ,Az⟩;refine⟨(by show 1<=al;omega),λu ma=>k _ u (aE.kj s3 ma) (s3.free ma) ?_⟩;rw[ai,Az];rfl
theorem XI{K:ak}{e:Expr}{f:bT}{ta:TE}(eK:X.K=K)(he:PE X e ta)(hb:lp e f X.bW (fL e X.bW)=fL e X.bW):PE X (.Attribute e f pos) (aau K ta f):=by subst eK;exact cE he hb
theorem Qj(xs:List Int):(xs.map (λb=> !(decide (0<=b)&&decide (b<=255)))).any id= !Hx xs:=by
 unfold Hx;induction xs with
 |nil=>rfl|cons a xs ih=>
  rw[aS,kx,l5,ih];have:decide (a<=255)=decide (a<256):=by by_cases z:a<256<;>simp[z]<;>omega
  rw[this];show(!(decide (0<=a)&&decide (a<256))||_)=_;cases (decide (0<=a)&&decide (a<256))<;>rfl
theorem XJ{xs:List Int}{x:V}(h:(px xs)[i]? =some x):∃b,xs[i]? =some b/\x= .int b:=by
 unfold px at h;rw[aM]at h;cases e:xs[i]? with|none=>rw[e]at h;cases h|some b=>rw[e]at h;exact⟨b,rfl,(ax h).symm⟩
theorem UJ{xs:List Nat}{x:V}(h:(eS xs)[i]? =some x):∃b,xs[i]? =some b/\x=nV b:=by
 unfold eS at h;rw[aM]at h;cases e:xs[i]? with|none=>rw[e]at h;cases h|some b=>rw[e]at h;exact⟨b,rfl,(ax h).symm⟩
theorem JG(g:aL)(h:b<256):nP g b=cf g b:=by unfold nP;rw[if_neg (by omega)]
abbrev UK:dZ:=mm 75
abbrev acs:List bT:=["table","things","text","columns","byte"]
inductive Zm(C:ah)(vs:List V)(H:Hp)(Q:VK)(E_:XK):Prop
 |mk (a tq na:ah) (g:aL) (ks:List (List Nat)) (t:cK) (cN:List Nat) (xs:List Int) (_:vs=[.ref a,.ref tq,.ref na]) (_:Good g) (_:sY g ks t) (_:t.length<=128) (_:TabAt C H g t a) (_:lC g cN) (_:sQ H g cN t tq) (_:H na=some (.be (px xs))) (_:xs.length<=al) (_:DH H Q (l_ {grammar:=g,table:=t} xs))
theorem Zn:bU acs ["table","things","text"] (a5 UK):=ml
theorem act(F:lg K "parse" "parse" UK f fd)(T:Gm mg)(TT:AX K C)(GC:jL P w K mg base "conflicts_among" 1 ["things"] LX)(GE:jL P w K mg base "end_column" 1 ["table"] (Nq C))(GR:jL P w K mg base "read_columns" 2 ["table","things","columns"] (Zk C)):dQ P w K mg base ki 3 f fd ["table","things","text"] (Zm C):=by
 refine F.ok Zn (λvs H Q E h=>?_) (λgl A bN s H vs Q E hr h=>?_)
 ·obtain⟨a,tq,na,g,ks,t,cN,xs,rfl,_⟩:=h;rfl
 ·obtain⟨a,tq,na,g,ks,t,cN,xs,rfl,G,TA,yY,pH,FO,wg,hN,hxl,k⟩:=h;have nd:=Zn.nd;have hsz:al=16777216:=bR;have JC:=pH;obtain⟨ls,lm,lw,ss,ms,ws,qx,h2,h3,h4,h5,h6,h7⟩:=pH;have ahk:=qx;obtain⟨dx,lr,lc,lo,as,QQ,qy,Hd,Jy,Kb,Kc,He⟩:=qx;refine⟨_,am (dD (lN (cg (Sq rfl) rfl T.any (by decide+kernel) (af (qb (own:=[("byte",4)]) rfl nd (fA (pv 2)) (gi (N:=acs) (sc:=a5 UK) (by decide+kernel)) (λ_ _ _ _ _=>nr 4 nd) (λ_ _ _ _ _=>mP) (λ_ _ _ _ _=>aah (Iw mO mO aR (pv 4) (lQ T.lb rfl)))) aD))) (aJ (bG (cV (af (lQ T.r1 rfl) aD)))) b5) (am (dD (bY Iv (cg bM rfl T.fD bB (af (pv 2) aD)) (lQ T.mby rfl) (ck _)) (aJ (bG (cV (af (lQ T.r3 rfl) aD)))) b5) (am (dD (xc (cO GC hr (by decide) rfl (af (pv 1) aD)) (λ_=>rfl)) (aJ (bG (cV (af (lQ T.r7 rfl) aD)))) b5) (am (g9 3 nd (e7 FH (qb (own:=[("byte",4)]) rfl nd (fA (pv 2)) (gi (N:=acs) (sc:=a5 UK) (by decide+kernel)) (λ_ _ _ _ _=>nr 4 nd) (λ_ _ _ _ _=>mP) (λ_ _ _ _ _=>Eu (afQ (K:=K) rfl) (XI (K:=K) rfl (pv 0) rfl) (pv 4) (λ_ _=>rfl))) (cV (af (cO GE hr (by decide) rfl (af (pv 0) aD)) aD)))) (aJ (bG (cO GR hr (aB _) rfl (af (pv 0) (af (pv 1) (af (pv 3) aD))))))))),?_⟩;refine⟨_,rfl,na,rfl,⟨_,cv.of hN⟩,λE1 hE1=>?_⟩;refine nE (K:=K) (a:=na) (xs:=px xs) (λi H7=>aE H H7/\H7 E1=some (.be ((xs.take i).map λb=>V.bl (!(decide (0<=b)&&decide (b<=255)))))) ⟨aE.aP hE1,ai⟩ (λi H7 _ ⟨s7,_⟩=>cv.of (s7 _ _ hN)) ?_ ?_
  ·rintro i x H7 hi ⟨s7,Lr⟩;obtain⟨b,hb,rfl⟩:=XJ hi;have Yl:i<xs.length:=(ao.mp hb).1;have oH:∀y:Bool,y=(!(decide (0<=b)&&decide (b<=255)))->∃acc,H7 E1=some (.be acc)/\acc.length<al/\(aE H (aP H7 E1 (.be (acc++[V.bl y])))/\(aP H7 E1 (.be (acc++[V.bl y]))) E1=some (.be ((xs.take (i+1)).map λb=>V.bl (!(decide (0<=b)&&decide (b<=255)))))):=by
    intro y ey;refine⟨_,Lr,by rw[aq,a4];omega,λc o ec=>?_,?_⟩
    ·rw[aF (aH ec hE1)];exact s7 _ _ ec
    ·rw[ai,bQ,hb,ey];simp only[l9,aK,aS,i3]
   refine⟨rfl,_,rfl,_,_,rfl,rfl,_,rfl,?_⟩;by_cases hb0:0<=b
   ·refine cF (decide_eq_true hb0) ⟨_,_,rfl,rfl,_,rfl,oH _ ?_⟩;rw[decide_eq_true hb0];rfl
   ·refine bZ (decide_eq_false hb0) ⟨_,rfl,oH _ ?_⟩;rw[decide_eq_false hb0];rfl
  ·rintro H7 ⟨s7,Lr⟩;rw[qg,a8]at Lr;refine⟨E1,xs.map (λb=> !(decide (0<=b)&&decide (b<=255))),rfl,cv.of (by rw[Lr,Tw]),_,rfl,?_⟩;rw[Qj];have ret:∀z:Int,l_ {grammar:=g,table:=t} xs=[z]->∀H8,aE H H8->∀u,H8 u=none->Q (.ref u) (aP H8 u (.be [.int z])):= λz ez H8 s8 u hu=>k _ u (aE.kj s8 hu) (s8.free hu) (by rw[ai,ez];rfl);unfold l_ at ret k;cases hby:Hx xs with
   |false=>rw[hby,if_pos (show(!false)=true from rfl)]at ret;exact cF rfl ⟨(by show 1<=al;omega),λu hu=>ret _ rfl _ s7 u hu⟩|true=>
    rw[hby,if_neg (by decide)]at ret k;refine bZ rfl ⟨_,rfl,na,_,rfl,.inl (cv.of (s7 _ _ hN)),_,_,rfl,rfl,_,rfl,?_⟩;rw[qg];by_cases LZ:200<xs.length
    ·rw[if_pos (show AL<xs.length from LZ)]at ret;exact cF (decide_eq_true (by omega)) ⟨(by show 1<=al;omega),λu hu=>ret _ rfl _ s7 u hu⟩
    ·rw[if_neg (show¬AL<xs.length from LZ)]at ret k;refine bZ (decide_eq_false (by omega)) ⟨_,rfl,tq,g,ks,t,cN,rfl,G,TA,yY,FO,wg.keeps s7,λH8 r qs s8 Ax hr8 EK=>?_⟩;have t8:=s7.trans s8;refine⟨_,.inl ⟨_,cv.of hr8,rfl⟩,?_⟩;have anh:(qs.map V.ref).isEmpty=(dH g t).isEmpty:=by have:=a6 EK;cases qs<;>cases e:dH g t<;>rw[e]at this<;>first|rfl|cases this
     rw[anh];cases hcf:(dH g t).isEmpty with
     |false=>have acv:(dH ({grammar:=g,table:=t}:dw).grammar ({grammar:=g,table:=t}:dw).table).isEmpty=false:=hcf;rw[acv,if_pos (show(!false)=true from rfl)]at ret;exact cF rfl ⟨(by show 1<=al;omega),λu hu=>ret _ rfl _ t8 u hu⟩|true=>
      have acv:(dH ({grammar:=g,table:=t}:dw).grammar ({grammar:=g,table:=t}:dw).table).isEmpty=true:=hcf;rw[acv,if_neg (by decide)]at k;have hx:∀b∈dW xs,b<256:=by intro b hb;obtain⟨n,hn,rfl⟩:=aQ.mp hb;have:=ik.mp hby n hn;simp only[bg,decide_eq_true_eq]at this;omega
      have Gd:(xs.any λn=>decide (n<0))=false:=by rw[z_];intro n hn;have:=ik.mp hby n hn;simp only[bg,decide_eq_true_eq]at this ⊢;omega
      have Xl:=Cs Gd;have hN8:=t8 _ _ hN;rw[Xl]at hN8;refine bZ rfl ⟨_,rfl,na,rfl,⟨_,cv.of hN8⟩,λD hD=>?_⟩;refine nE (K:=K) (a:=na) (xs:=eS (dW xs)) (λi H9=>aE H8 H9/\H9 D=some (.be (((dW xs).take i).map λb=>oV (cf g b)))) ⟨aE.aP hD,ai⟩ (λi H9 _ ⟨s9,_⟩=>cv.of (s9 _ _ hN8)) ?_ ?_
      ·rintro i x H9 hi ⟨s9,Xh⟩;obtain⟨b,hb,rfl⟩:=UJ hi;have ahl:=hx b (aG hb);have hcg:(vw g)[b]? =some (oV (cf g b)):=by rw[y0 (by omega),JG g ahl]
       refine⟨rfl,_,rfl,a,C,dx,_,_,rfl,s9 _ _ (t8 _ _ qy),TT.cl,TT.col,Lh,_,rfl,lo,_,_,_,rfl,rfl,cv.of (s9 _ _ (t8 _ _ He)),aN hcg,_,Xh,?_,λc o ec=>?_,?_⟩
       ·rw[aq,a4,sr];omega
       ·rw[aF (aH ec hD)];exact s9 _ _ ec
       ·rw[ai,bQ,hb];simp only[l9,aK,aS,i3]
      ·rintro H9 ⟨s9,Xh⟩;have t9:=t8.trans s9;rw[fO,a8]at Xh;refine⟨_,rfl,a,g,ls,lm,lw,rfl,ahk.keeps t9,(by show 1<=al;omega),λb hb=>?_⟩;have sA:aE H9 (aP H9 b (.be [nV (gs g)])):=aE.aP hb;refine⟨D,b,_,_,rfl,rfl,sA _ _ Xh,ai,by rw[aq,sr];show _+1<=_;omega,λp hp=>?_⟩;have tA:=t9.trans sA;have tB:=tA.trans (aE.aP (o:= .be (N2 g (dW xs))) hp);refine⟨_,rfl,_,rfl,_,rfl,a,tq,p,g,ks,t,cN,dW xs,rfl,G,TA,JC.keeps tB,FO,wg.keeps tB,hx,ai,λYB q J_ sm ab9=>?_⟩;refine k YB q (tB.trans J_) (tB.free sm) ?_;rw[ab9];show some (HO.be (px (ahf (oX g t (dW xs)))))=some (HO.be (px (match oX g t (dW xs)with
        | .read l=>0::dA (l.length::l)| .stopped p=>[1,(p:Int)]| .spent=>[-8])))
       cases oX g t (dW xs)<;>rfl
inductive frm(sp:Sp)(vs:List V)(H:Hp)(Q:VK)(E:XK):Prop
 |mk (q:ah) (xs:List V) (_:H q=some (.be xs)) (_:sp vs (d6 [q] H) (λv H'=>H' q=none->Q v (aP H' q (.be xs))) E)
theorem dQ.frm{P:a7}{w:bP}{K:ak}{mg:bT->Option aj}{base:cX}{k:Nat}{f:ah}{fd:fR}{ps:List bT}{sp:Sp}(F:dQ P w K mg base ki k f fd ps sp):dQ P w K mg base ki k f fd ps (frm sp):=by
 refine⟨λvs H Q E h=>?_,λA bN s H args us vs Q E hr he hb hv hs=>?_⟩
 ·obtain⟨q,xs,_,h⟩:=h;exact F.fD _ _ _ _ h
 ·obtain⟨q,xs,hq,h⟩:=hs;have hob:=he.d5 q _ hq;obtain⟨hz,cc,n,r,hg⟩:=hob;have hbq:d6 [q] H q=none:=by unfold d6;simp
  have Y3:∀b,H b=none->d6 [q] H b=none:= λb e=>by
   unfold d6;split
   ·rfl
   ·exact e
  have hbs:∀{b o},H b=some o->b≠q->d6 [q] H b=some o:= λ{b o} e j8=>bo.mpr ⟨by simpa using j8,e⟩;have WT:rV P w (d6 [q] H) s.heap:= λa o e=>by
   obtain⟨e1,e2⟩:=bo.mp e;refine(he.d5 a o e2).BJ (λ_ _ _ z=>z) (λb z=>hbs z λy=>?_) (λb ys z=>hbs z λy=>?_)
   ·rw[y,hq]at z;cases z
   ·rw[y,hq]at z;cases z
  have V8:Ix P w K mg base A bN s (d6 [q] H):=⟨he.frames,he.Fw,λb o e=>⟨(he.bs b o e).1,Y3 b (he.bs b o e).2⟩,he.RT,he.yE,λb hb=>Y3 b (he.Wf b hb),WT,he.pG⟩;refine wn (F.run A bN s (d6 [q] H) args us vs _ E hr V8 hb hv h) λr s' wu=>?_;cases r with
  |error e=>exact wu|ok fl=>
   cases fl with
   |ret u=>
    obtain⟨v,H',h1,h2,XM,h4,h5,h6⟩:=wu;have hqn:H' q=none:=XM.free q _ hg hbq (by simp);have hqf:q∉QH bN:= λm=>by have:=he.Wf q m;rw[hq]at this;cases this
    have hg':=XM.keep q _ hg hbq hqf (by simp);refine⟨v,aP H' q (.be xs),h1,h2,⟨λb o e1 e2 e3 e4=>XM.keep b o e1 (Y3 b e2) e3 e4,λb o e1 e2 e3 e4=>XM.slot b o e1 (Y3 b e2) e3 e4,λb o e1 e2 e3=>?_,XM.ub,λb ys e=>?_,λb o u' e=>?_,λb ps' e=>?_⟩,λb o e=>?_,h5,h6 hqn⟩
    ·rw[aF (aH hq e2).symm];exact XM.free b o e1 (Y3 b e2) e3
    ·have j8:b≠q:= λy=>by rw[y,hq]at e;cases e
     rw[aF j8];exact XM.Dp b ys (hbs e j8)
    ·have j8:b≠q:= λy=>by rw[y,hq]at e;cases e
     rw[aF j8];exact XM.Ao b o u' (hbs e j8)
    ·have j8:b≠q:= λy=>by rw[y,hq]at e;cases e
     rw[aF j8];exact XM.Dq b ps' (hbs e j8)
    ·by_cases hb:b=q
     ·subst hb;rw[ai]at e;cases e;exact⟨hz,cc,n,r,hg'⟩
     ·rw[aF hb]at e;refine(h4 b o e).BJ (λ_ _ _ z=>z) (λc z=>?_) (λc ys z=>?_)
      ·rw[aF (aH z hqn)];exact z
      ·rw[aF (aH z hqn)];exact z
   |next=>exact wu|brk=>exact wu|cont=>exact wu
theorem jL.frm{P:a7}{w:bP}{K:ak}{mg:bT->Option aj}{base:cX}{ps:List bT}{sp:Sp}(G:jL P w K mg base x k ps sp):jL P w K mg base x k ps (Mv.frm sp):=by obtain⟨f,fd,h1,h2⟩:=G.ex;exact⟨f,fd,Mv.dQ.frm h1,h2⟩
section
variable{X:Cx}{k j:Nat}{ps:List bT}{sp:Sp}{x:bT}{C:ah}{p pos lE:mZ}{o:Expr}{ta:TE}
theorem qz{pl:QV Bool}(G:MeB X.prog X.w X.K X.mg X.base x C k ps sp)(c:KY X.K C)(hr:lO j X.A)(hk:k<=j)(he:PE X o ta)(ht:fL (.Call (.Attribute o x lE) [] [] pos) X.bW=(do
 let ov<-fL o X.bW
 D7 lE.atName
 let(f,first)<-re [ov] (G1 ov x pl)
 Mm pos f first (jd pos (cn [] X.bW)) (sF pos (lW [] X.bW))):=by rfl):PE X (.Call (.Attribute o x lE) [] [] pos) (Yx C x sp [] E0 ta Du):=by
 obtain⟨f,fd,hm,F,hb⟩:=G.ex;exact Sg (pl:=pl) he c hm F (hr.kg hk) hb .nil Nb ht
end
def oK(n p:V):List (bT×V):=[("numbers",n),("place",p)]
theorem L0{n p:V}:(oK n p).lookup ("numbers":bT)=some n:=rfl
theorem y6{n p:V}:(oK n p).lookup ("place":bT)=some p:=rfl
theorem iK{n p:V}:(oK n p).lookup ("take":bT)=none:=rfl
theorem L1{n p:V}:(oK n p).lookup ("take_row":bT)=none:=rfl
theorem acw{n p:V}:(oK n p).lookup ("at_end":bT)=none:=rfl
structure LnT(K:ak)(C:ah):Prop where
 cl:KY K C
 Uh:ff K C "numbers"
 XN:ff K C "place"
def ahn:List V->List (bT×V)
 | [n]=>oK n (.int 0)|_=>[]
def Fr(l:ah)(H H':Hp):Prop:=∀b o,b≠l->H b=some o->H' b=some o
theorem Fr.aP{l:ah}{H:Hp}{o:HO}:Fr l H (aP H l o):= λb u hb e=>by rw[aF hb];exact e
theorem Fr.trans{l:ah}{H1 H2:Hp}(a:Fr l H H1)(b:Fr l H1 H2):Fr l H H2:= λc o hc e=>b c o hc (a c o hc e)
theorem Fr.of{l:ah}(s:aE H H'):Fr l H H':= λb o _ e=>s b o e
theorem Fr.seq{K:ak}{l:ah}(f:Fr l H H'){C dx:ah}{fs:List (bT×V)}(hl:H l=some (.gc C dx fs)){xs:List V}(h:cv K H a xs):cv K H' a xs:=by
 rcases h with(h|⟨o,h⟩)|h
 ·exact .inl (.inl (f _ _ (nQ h hl (λz=>nomatch z)) h))
 ·exact .inl (.inr ⟨o,f _ _ (nQ h hl (λz=>nomatch z)) h⟩)
 ·exact .inr h
abbrev Ge:dZ:=sg (mm 87) 0
theorem UL:bU ["self","numbers"] ["self","numbers"] (a5 Ge):=ml
theorem Qk(F:lg K "__init__" "Line.__init__" Ge f fd)(T:LnT K CL):dQ P w K mg base ki 1 f fd ["self","numbers"] (Jf CL 1 ahn):=by
 refine F.ok UL (λvs H Q E h=>?_) (λgl A bN s H vs Q E hr h=>?_)
 ·obtain⟨p,dx,as,rfl,h2,_⟩:=h;rw[aZ,h2];rfl
 ·obtain⟨p,dx,as,rfl,h2,hp,k⟩:=h
  match as,h2 with
  | [n],_=>
   refine⟨_,am (j0 (pv 0) (pv 1) rfl) (aJ (j0 (pv 0) aR rfl)),?_⟩;refine⟨_,rfl,_,rfl,p,CL,dx,[],rfl,hp,T.cl,T.Uh,(by show 0<1000;decide),?_⟩;refine⟨_,rfl,p,CL,dx,_,rfl,ai,T.cl,T.XN,(by show 1<1000;decide),?_⟩;refine k _ ?_ λb o e hb=>by rw[aF hb,aF hb];exact e
   rw[ai];rfl
abbrev acy:dZ:=sg (mm 87) 1
inductive Zo(K:ak)(CL:ah)(vs:List V)(H:Hp)(Q:VK)(E_:XK):Prop
 |mk (l dx na:ah) (p:Nat) (xs:List Int) (_:vs=[.ref l]) (_:H l=some (.gc CL dx (oK (.ref na) (nV p)))) (_:cv K H na (px xs)) (_:Q (.bl (decide (p=xs.length))) H)
theorem aho:bU ["self"] ["self"] (a5 acy):=ml
theorem acz(F:lg K "at_end" "Line.at_end" acy f fd)(T:Gm mg)(TL:LnT K CL):dQ P w K mg base ki 1 f fd ["self"] (Zo K CL):=by
 refine F.ok aho (λvs H Q E h=>?_) (λgl A bN s H vs Q E hr h=>?_)
 ·obtain⟨l,dx,na,p,xs,rfl,_⟩:=h;rfl
 ·obtain⟨l,dx,na,p,xs,rfl,hl,hN,k⟩:=h;refine⟨_,aJ (bG (xb g8 (cE (pv 0) rfl) (cg bM rfl T.fD bB (af (cE (pv 0) rfl) aD)) (ck _))),?_⟩;refine⟨_,rfl,l,CL,dx,_,_,rfl,hl,TL.cl,TL.XN,y6,_,rfl,l,CL,dx,_,_,rfl,hl,TL.cl,TL.Uh,L0,na,_,rfl,.inl hN,rfl,?_⟩;show Q (.bl (decide (nV p=V.int ((px xs).length:Nat)))) H;rw[qg];have:decide (nV p=V.int (xs.length:Nat))=decide (p=xs.length):=by
   by_cases z:p=xs.length
   ·rw[z,decide_eq_true rfl];exact dV rfl
   ·rw[decide_eq_false z];exact mh (by omega)
  rw[this];exact k
abbrev UM:dZ:=sg (mm 87) 2
inductive L3(K:ak)(CL:ah)(vs:List V)(H:Hp)(Q:VK)(E_:XK):Prop
 |mk (l dx na:ah) (p:Nat) (xs:List Int) (n:Int) (_:vs=[.ref l]) (_:H l=some (.gc CL dx (oK (.ref na) (nV p)))) (_:cv K H na (px xs)) (_:xs[p]? =some n) (_:Q (.int n) (aP H l (.gc CL dx (oK (.ref na) (nV (p+1))))))
theorem UN:bU ["self","number"] ["self"] (a5 UM):=ml
theorem XO(F:lg K "take" "Line.take" UM f fd)(TL:LnT K CL):dQ P w K mg base ki 1 f fd ["self"] (L3 K CL):=by
 refine F.ok UN (λvs H Q E h=>?_) (λgl A bN s H vs Q E hr h=>?_)
 ·obtain⟨l,dx,na,p,xs,n,rfl,_⟩:=h;rfl
 ·obtain⟨l,dx,na,p,xs,n,rfl,hl,hN,hn,k⟩:=h;have nd:=UN.nd;refine⟨_,am (g9 1 nd (ft b_ (cE (pv 0) rfl) (cE (pv 0) rfl))) (am (j0 (pv 0) (e7 i9 (cE (pv 0) rfl) aR) rfl) (aJ (bG (pv 1)))),?_⟩;have hnz:(px xs)[p]? =some (.int n):=by unfold px;rw[aM,hn];rfl
  refine⟨_,rfl,l,CL,dx,_,_,rfl,hl,TL.cl,TL.Uh,L0,_,rfl,l,CL,dx,_,_,rfl,hl,TL.cl,TL.XN,y6,na,_,_,_,rfl,rfl,hN,aN hnz,?_⟩;refine⟨_,rfl,l,CL,dx,_,_,rfl,hl,TL.cl,TL.XN,y6,_,_,rfl,rfl,_,rfl,l,CL,dx,_,rfl,hl,TL.cl,TL.XN,(by show 2<1000;decide),?_⟩;exact⟨_,rfl,k⟩
abbrev acA:dZ:=sg (mm 87) 3
inductive Zp(K:ak)(CL:ah)(vs:List V)(H:Hp)(Q:VK)(E_:XK):Prop
 |mk (l dx na:ah) (p:Nat) (xs:List Int) (n:Nat) (_:vs=[.ref l]) (_:H l=some (.gc CL dx (oK (.ref na) (nV p)))) (_:cv K H na (px xs)) (_:xs[p]? =some (n:Int)) (_:p+1+n<=xs.length) (_:∀(r:ah)(H':Hp),H r=none->H' r=some (.be (px ((xs.drop (p+1)).take n)))->H' l=some (.gc CL dx (oK (.ref na) (nV (p+1+n))))->Fr l H H'->Q (.ref r) H')
theorem Zq:bU ["self","length","row"] ["self"] (a5 acA):=ml
theorem XQ(x:List Int)(p n:Nat)(h:p+n<=x.length):qV (px x) (some (p:Int)) (some ((p:Int)+(n:Int)))=px ((x.drop p).take n):=by
 unfold qV px;have e1:HT.u6 (x.map V.int).length 0 (some (p:Int))=p:=by
  simp only[HT.u6,aq]
  first|(split<;>omega)|omega
 have e2:HT.u6 (x.map V.int).length (x.map V.int).length (some ((p:Int)+(n:Int)))=p+n:=by
  simp only[HT.u6,aq]
  first|(split<;>omega)|omega
 rw[e1,e2,<-Hu,<-oq,Nat.add_sub_cancel_left]
theorem acB(F:lg K "take_row" "Line.take_row" acA f fd)(TL:LnT K CL)(GT:MeB P w K mg base "take" CL 1 ["self"] (L3 K CL)):dQ P w K mg base ki 2 f fd ["self"] (Zp K CL):=by
 refine F.ok Zq (λvs H Q E h=>?_) (λgl A bN s H vs Q E hr h=>?_)
 ·obtain⟨l,dx,na,p,xs,n,rfl,_⟩:=h;rfl
 ·obtain⟨l,dx,na,p,xs,n,rfl,hl,hN,hn,yM,k⟩:=h;have nd:=Zq.nd;refine⟨_,am (g9 1 nd (qz GT TL.cl hr (aB _) (pv 0))) (am (g9 2 nd (uf xi (cE (pv 0) rfl) (pZ (cE (pv 0) rfl)) (pZ (e7 i9 (cE (pv 0) rfl) (pv 1))))) (am (j0 (pv 0) (e7 i9 (cE (pv 0) rfl) (pv 1)) rfl) (aJ (bG (pv 2))))),?_⟩;refine⟨_,rfl,l,dx,_,rfl,hl,iK,l,dx,na,p,xs,_,rfl,hl,hN,hn,?_⟩;have f1:Fr l H (aP H l (.gc CL dx (oK (.ref na) (nV (p+1))))):=Fr.aP;have sh:aP H l (.gc CL dx (oK (.ref na) (nV (p+1)))) l=some (.gc CL dx (oK (.ref na) (nV (p+1)))):=ai;have QR:=f1.seq hl hN;have qS:∀r,aP H l (.gc CL dx (oK (.ref na) (nV (p+1)))) r=none->H r=none/\r≠l:= λr e=>by
   have:r≠l:= λz=>by rw[z,ai]at e;cases e
   rw[aF this]at e;exact⟨e,this⟩
  generalize aP H l (.gc CL dx (oK (.ref na) (nV (p+1))))=H1 at f1 sh QR qS ⊢;refine⟨_,rfl,l,CL,dx,_,_,rfl,sh,TL.cl,TL.Uh,L0,_,rfl,l,CL,dx,_,_,rfl,sh,TL.cl,TL.XN,y6,_,rfl,_,rfl,l,CL,dx,_,_,rfl,sh,TL.cl,TL.XN,y6,_,rfl,_,_,rfl,rfl,_,rfl,na,_,rfl,QR,λr Ax=>?_⟩;show ow 2 (.ref r) _ (aP H1 r (.be (qV (px xs) (some ((p+1:Nat):Int)) (some (((p+1:Nat):Int)+(n:Int)))))) _;rw[XQ xs (p+1) n yM];obtain⟨ank,Y1⟩:=qS r Ax;have s2:aE H1 (aP H1 r (.be (px ((xs.drop (p+1)).take n)))):=aE.aP Ax;have oR:=s2 _ _ sh;refine⟨_,rfl,l,CL,dx,_,_,rfl,oR,TL.cl,TL.XN,y6,_,rfl,_,_,rfl,rfl,_,rfl,l,CL,dx,_,rfl,oR,TL.cl,TL.XN,(by show 2<1000;decide),?_⟩;refine⟨_,rfl,k r _ ank ?_ ?_ ((f1.trans (Fr.of s2)).trans Fr.aP)⟩
  ·rw[aF Y1,ai]
  ·rw[ai];rfl
def Kp(C:ah)(H H':Hp):Prop:=∀b o,H b=some o->(∀D dx fs,o= .gc D dx fs->D=C)->H' b=some o
theorem Kp.of{C:ah}(s:aE H H'):Kp C H H':= λb o e _=>s b o e
theorem Fr.kp{C D l dx:ah}{fs:List (bT×V)}(f:Fr l H H')(hl:H l=some (.gc D dx fs))(hD:D≠C):Kp C H H':= λb o e h=>f b o (λz=>by rw[z,hl]at e;exact hD (h D dx fs (ax e).symm)) e
theorem Kp.bV{C:ah}(k:Kp C H H'){b:ah}{xs:List V}(e:H b=some (.bV xs)):H' b=some (.bV xs):=k b _ e (λ_ _ _ z=>nomatch z)
theorem Kp.be{C:ah}(k:Kp C H H'){b:ah}{xs:List V}(e:H b=some (.be xs)):H' b=some (.be xs):=k b _ e (λ_ _ _ z=>nomatch z)
theorem TabAt.kp{C:ah}(k:Kp C H H')(h:TabAt C H g t a):TabAt C H' g t a:=by obtain⟨ls,lm,lw,ss,ms,ws,⟨dx,lr,lc,lo,as,cs,f1,f2,f3,f4,f5,f6⟩,h2,h3,h4,h5,h6,h7⟩:=h;refine⟨ls,lm,lw,ss,ms,ws,⟨dx,lr,lc,lo,as,cs,k _ _ f1 (λD dx fs z=>by cases z;rfl),k.be f2,Paired.gJ f3 λ_ _ ⟨t,qs,z1,z2,z3⟩=>⟨t,qs,k.bV z1,k.bV z2,Paired.gJ z3 λ_ _ y=>k.bV y⟩,k.be f4,Paired.gJ f5 λ_ _ y=>k.bV y,k.be f6⟩,k.be h2,Paired.gJ h3 λ_ _ ⟨cc,z1,z2⟩=>⟨cc,k.be z1,Paired.gJ z2 λ_ _ y=>k.bV y⟩,k.be h4,Paired.gJ h5 λ_ _ y=>k _ _ y (λ_ _ _ z=>nomatch z),k.be h6,Paired.gJ h7 λ_ _ y=>k.be y⟩
theorem sQ.kp{C:ah}(k:Kp C H H')(h:sQ H g cN t q):sQ H' g cN t q:=by obtain⟨ds,h1,h2,h3⟩:=h;refine⟨ds,k.be h1,h2,λi d hd=>?_⟩;obtain⟨H0,kk,ad,R⟩:=h3 i d hd;exact⟨H0,kk,ad,k _ _ R.dict (λ_ _ _ z=>nomatch z),R.nd,R.mem,R.inj,R.new,λc hc=>let⟨qs,z1,z2⟩:=R.be c hc;⟨qs,k.be z1,Paired.gJ z2 λ_ _ y=>k.bV y⟩⟩
def JH(t th:V):List (bT×V):=[("table",t),("things",th)]
theorem qA{t th:V}:(JH t th).lookup ("table":bT)=some t:=rfl
theorem Gf{t th:V}:(JH t th).lookup ("things":bT)=some th:=rfl
theorem XR{t th u:V}:me "table" u (JH t th)=JH u th:=rfl
theorem N3{t th u:V}:me "things" u (JH t th)=JH t u:=rfl
structure HdT(K:ak)(C CH:ah):Prop where
 cl:KY K CH
 A2:ff K CH "table"
 VE:ff K CH "things"
 ne:CH≠C
structure UO(CH C:ah)(H:Hp)(s:dw)(h dx a:ah)(th:V):Prop where
 xf:H h=some (.gc CH dx (JH (.ref a) th))
 Ql:Good s.grammar
 tb:∃ks,sY s.grammar ks s.table
 tJ:s.table.length<=128
 A2:TabAt C H s.grammar s.table a
 VE:th= .non\/∃tq cN,th= .ref tq/\lC s.grammar cN/\sQ H s.grammar cN s.table tq
theorem UO.kp{CH C:ah}{s:dw}{h dx:ah}{th:V}(R:UO CH C H s h dx a th)(k:Kp C H H')(e:H' h=H h):UO CH C H' s h dx a th:=⟨e.trans R.xf,R.Ql,R.tb,R.tJ,R.A2.kp k,R.VE.imp id λ⟨tq,cN,z1,z2,z3⟩=>⟨tq,cN,z1,z2,z3.kp k⟩⟩
theorem UO.keeps{CH C:ah}{s:dw}{h dx:ah}{th:V}(R:UO CH C H s h dx a th)(e:aE H H'):UO CH C H' s h dx a th:=R.kp (Kp.of e) ((e _ _ R.xf).trans R.xf.symm)
inductive HeldAt(CH C:ah)(H:Hp)(s:dw)(h:ah):Prop
 |mk (dx a th:_) (_:UO CH C H s h dx a th)
theorem Ct:Good oP:=⟨by decide,by decide,by decide,λr hr=>by cases hr⟩
theorem L4:∃t,gL oP=some t:=EV.mp (by decide+kernel)
abbrev Gg:dZ:=sg (mm 86) 0
inductive JI(CH C:ah)(vs:List V)(H:Hp)(Q:VK)(E_:XK):Prop
 |mk (p dx:ah) (_:vs=[.ref p]) (_:H p=some (.gc CH dx [])) (_:∀H':Hp,HeldAt CH C H' jG p->Fr p H H'->Q .non H')
theorem UP:bU ["self"] ["self"] (a5 Gg):=ml
theorem Qm(F:lg K "__init__" "Held.__init__" Gg f fd)(TH:HdT K C CH)(GG:YJ P w K mg base "Grammar" Cg 1 ["self","nonterminals","rules"] (Jf Cg 2 aa9))(GM:jL P w K mg base "make_table" 5 ["grammar"] (LN Cg C)):dQ P w K mg base ki 6 f fd ["self"] (JI CH C):=by
 refine F.ok UP (λvs H Q E h=>?_) (λgl A bN s H vs Q E hr h=>?_)
 ·obtain⟨p,dx,rfl,_⟩:=h;rfl
 ·obtain⟨p,dx,rfl,hp,k⟩:=h;refine⟨_,am (j0 (pv 0) (cO GM hr (aB _) rfl (af (No GG hr (by decide) rfl (af aR (af (cV aD) aD))) aD)) rfl) (aJ (j0 (pv 0) gd rfl)),?_⟩;refine⟨bj _,λl hl=> λx T6 hx ahp j8=>?_⟩;have s1:aE H (aP H l (.be [])):=aE.aP hl;have sh:aP H l (.be []) l=some (.be []):=ai;generalize aP H l (.be [])=H1 at s1 sh hx ahp ⊢;refine⟨x,T6,[.int 1,.ref l],rfl,rfl,ai,λH2 hx2 N4=>⟨rfl,?_⟩⟩;have s2:aE H1 H2:=aE.K1 hx ahp N4;obtain⟨t0,ht0⟩:=L4;refine⟨x,oP,rfl,Ct,⟨T6,l,[],hx2,s2 _ _ sh,.nil⟩,(λe=>by rw[ht0]at e;cases e),λt ks et TA yY H3 q s3 pH=>?_⟩;have s13:=(s1.trans s2).trans s3;have hp3:=s13 _ _ hp;refine⟨_,rfl,p,CH,dx,_,rfl,hp3,TH.cl,TH.A2,(by show 0<1000;decide),?_⟩;refine⟨_,rfl,p,CH,dx,_,rfl,ai,TH.cl,TH.VE,(by show 1<1000;decide),?_⟩;have fr:Fr p H3 (aP (aP H3 p (.gc CH dx (me "table" (.ref q) []))) p (.gc CH dx (me "things" .non (me "table" (.ref q) [])))):=Fr.aP.trans Fr.aP;have Aw:jG={grammar:=oP,table:=t}:=by unfold jG;rw[et];rfl
  refine k _ ⟨dx,q,.non,?_⟩ ((Fr.of s13).trans fr);rw[Aw];refine⟨by rw[ai];rfl,Ct,⟨ks,TA⟩,yY,pH.kp (fr.kp hp3 TH.ne),.inl rfl⟩
abbrev UQ:dZ:=mm 88
inductive UR(CH C:ah)(vs:List V)(H:Hp)(Q:VK)(E_:XK):Prop
 |mk (h ra:ah) (s:dw) (xs:List Int) (_:vs=[.ref h,.ref ra]) (_:HeldAt CH C H s h) (_:H ra=some (.be (px xs))) (_:∀(H':Hp)(q:ah),HeldAt CH C H' (mV s xs).1 h->Fr h H H'->H q=none->H' q=some (.be (px (mV s xs).2))->Q (.ref q) H')
theorem US:bU ["held","row","grammar","table"] ["held","row"] (a5 UQ):=ml
theorem XS(F:lg K "load" "load" UQ f fd)(T:Gm mg)(TT:AX K C)(TH:HdT K C CH)(GR:jL P w K mg base "read_grammar" 3 ["row"] (vt K Cg))(GM:jL P w K mg base "make_table" 5 ["grammar"] (LN Cg C)):dQ P w K mg base ki 6 f fd ["held","row"] (UR CH C):=by
 refine F.ok US (λvs H Q E h=>?_) (λgl A bN s H vs Q E hr h=>?_)
 ·obtain⟨h,ra,s,xs,rfl,_⟩:=h;rfl
 ·obtain⟨h,ra,st,xs,rfl,⟨dx,a,th,R⟩,hN,k⟩:=h;have nd:=US.nd;have hsz:al=16777216:=bR;refine⟨_,am (dD (bY ue (Ga rfl rfl T.min (af (pv 1) aD) (AR aR FD)) aR (ck _)) (aJ (bG (cV (af (lQ T.r1 rfl) aD)))) b5) (am (g9 2 nd (cO GR hr (by decide) rfl (af (pv 1) aD))) (am (dD (bY og (pv 2) gd (ck _)) (aJ (bG (cV (af (lQ T.r2 rfl) aD)))) b5) (am (g9 3 nd (cO GM hr (aB _) rfl (af (pv 2) aD))) (am (dD (bY og (pv 3) gd (ck _)) (aJ (bG (cV (af (lQ T.r6 rfl) aD)))) b5) (am (j0 (pv 0) (pv 3) rfl) (am (j0 (pv 0) gd rfl) (aJ (bG (cV (af aR (af (cg bM rfl T.fD bB (af (cE (pv 3) rfl) aD)) aD))))))))))),?_⟩;have ret:∀z:Int,mV st xs=(st,[z])->∀H1,aE H H1->∀u,H1 u=none->Q (.ref u) (aP H1 u (.be [.int z])):= λz ez H1 s1 u hu=>by refine k _ u ?_ (Fr.of (aE.kj s1 hu)) (s1.free hu) (by rw[ai,ez];rfl);rw[ez];exact⟨dx,a,th,R.keeps (aE.kj s1 hu)⟩
  refine⟨_,rfl,ra,xs,0,rfl,rfl,cv.of hN,λlo S0=>⟨_,_,rfl,rfl,_,rfl,?_⟩⟩;rw[N1 S0];unfold mV at ret k;cases Gd:xs.any λn=>decide (n<0)with
  |true=>rw[Gd,if_pos rfl]at ret;exact cF rfl ⟨(by show 1<=al;omega),λu hu=>ret _ rfl _ aE.Pu u hu⟩|false=>
   rw[Gd,if_neg (by decide)]at ret k;have Xl:=Cs Gd;rw[Xl]at hN;refine bZ rfl ⟨_,rfl,ra,dW xs,rfl,cv.of hN,λe H1 s1=>?_,λg e H1 q s1 hG=>?_⟩
   ·rw[e]at ret;exact⟨_,rfl,rfl,_,rfl,cF rfl ⟨(by show 1<=al;omega),λu hu=>ret _ rfl _ s1 u hu⟩⟩
   ·rw[e]at ret k;refine⟨_,rfl,rfl,_,rfl,bZ rfl ⟨_,rfl,q,g,rfl,qM e,hG,λet H2 s2=>?_,λt ks et TA yY H2 q2 s2 pH=>?_⟩⟩
    ·have ahq:∀z:Int,(match gL g with
      |none=>(st,[-6])|some t=>(({grammar:=g,table:=t}:dw),[0,(t.length:Int)]))=(st,[z])->∀H1,aE H H1->∀u,H1 u=none->Q (.ref u) (aP H1 u (.be [.int z])):=ret
     rw[et]at ahq;exact⟨_,rfl,rfl,_,rfl,cF rfl ⟨(by show 1<=al;omega),λu hu=>ahq _ rfl _ (s1.trans s2) u hu⟩⟩
    ·have k':∀(H':Hp)(q:ah),HeldAt CH C H' (match gL g with
      |none=>(st,[-6])|some t=>(({grammar:=g,table:=t}:dw),[0,(t.length:Int)])).1 h->Fr h H H'->H q=none->H' q=some (.be (px (match gL g with
      |none=>(st,[-6])|some t=>(({grammar:=g,table:=t}:dw),[0,(t.length:Int)])).2))->Q (.ref q) H':=k
     rw[et]at k';have Vy:=s1.trans s2;have RP:=Vy _ _ R.xf;refine⟨_,rfl,rfl,_,rfl,bZ rfl ⟨_,rfl,_,rfl,h,CH,dx,_,rfl,RP,TH.cl,TH.A2,(by show 2<1000;decide),?_⟩⟩;refine⟨_,rfl,h,CH,dx,_,rfl,ai,TH.cl,TH.VE,(by show 2<1000;decide),?_⟩;rw[XR,N3];have fr:Fr h H2 (aP (aP H2 h (.gc CH dx (JH (.ref q2) th))) h (.gc CH dx (JH (.ref q2) .non))):=Fr.aP.trans Fr.aP;have hh3:(aP (aP H2 h (.gc CH dx (JH (.ref q2) th))) h (.gc CH dx (JH (.ref q2) .non))) h=some (.gc CH dx (JH (.ref q2) .non)):=ai;have bk:∀u,(aP (aP H2 h (.gc CH dx (JH (.ref q2) th))) h (.gc CH dx (JH (.ref q2) .non))) u=none->H2 u=none:= λu e=>by
      have:u≠h:= λz=>by rw[z,ai]at e;cases e
      rw[aF this,aF this]at e;exact e
     generalize (aP (aP H2 h (.gc CH dx (JH (.ref q2) th))) h (.gc CH dx (JH (.ref q2) .non)))=H3 at fr hh3 bk ⊢;have QN:=pH.kp (fr.kp RP TH.ne);have anl:=QN;obtain⟨ls,lm,lw,ss,ms,ws,⟨dx2,lr,lc,lo,as,QQ,qy,Hd,Jy,Kb,Kc,He⟩,h2,h3,h4,h5,h6,h7⟩:=QN;have tG:=a6 h3;rw[aq]at tG;refine⟨_,rfl,q2,C,dx2,_,_,rfl,qy,TT.cl,TT.QM,pd,ls,_,rfl,.inl (cv.of h2),(by show 2<=al;omega),λu hu=>?_⟩;have s4:aE H3 (aP H3 u (.be [.int 0,.int ((ss.map V.ref).length:Nat)])):=aE.aP hu;refine k' _ u ⟨dx,q2,.non,s4 _ _ hh3,qM e,⟨ks,TA⟩,yY,anl.keeps s4,.inl rfl⟩ (((Fr.of Vy).trans fr).trans (Fr.of s4)) (Vy.free (bk u hu)) ?_;rw[ai,a_,<-tG];rfl
abbrev acC:dZ:=mm 89
inductive UT(CH C:ah)(vs:List V)(H:Hp)(Q:VK)(E_:XK):Prop
 |mk (h dx a:ah) (th:V) (s:dw) (_:vs=[.ref h]) (_:UO CH C H s h dx a th) (_:∀(H':Hp)(q:ah)(cN:List Nat),UO CH C H' s h dx a (.ref q)->Fr h H H'->lC s.grammar cN->sQ H' s.grammar cN s.table q->Q (.ref q) H')
theorem ahs:bU ["held"] ["held"] (a5 acC):=ml
theorem acD(F:lg K "things_of" "things_of" acC f fd)(TH:HdT K C CH)(GA:jL P w K mg base "all_things" 6 ["table"] (Zc C)):dQ P w K mg base ki 7 f fd ["held"] (UT CH C):=by
 refine F.ok ahs (λvs H Q E h=>?_) (λgl A bN s H vs Q E hr h=>?_)
 ·obtain⟨h,dx,a,th,s,rfl,_⟩:=h;rfl
 ·obtain⟨h,dx,a,th,st,rfl,R,k⟩:=h;refine⟨_,am (dD (bY og (cE (pv 0) rfl) gd (ck _)) (aJ (j0 (pv 0) (cO GA hr (aB _) rfl (af (cE (pv 0) rfl) aD)) rfl)) b5) (aJ (bG (cE (pv 0) rfl))),?_⟩;have hh:=R.xf;rcases R.VE with rfl|⟨tq,cN,rfl,FO,wg⟩
  ·obtain⟨ks,TA⟩:=R.tb;refine⟨_,rfl,h,CH,dx,_,_,rfl,hh,TH.cl,TH.VE,Gf,rfl,_,rfl,cF rfl ⟨_,rfl,h,CH,dx,_,_,rfl,hh,TH.cl,TH.A2,qA,a,st.grammar,ks,st.table,rfl,R.Ql,TA,R.tJ,R.A2,λH1 q cN s1 sm FO wg=>?_⟩⟩;have hh1:=s1 _ _ hh;refine⟨_,rfl,h,CH,dx,_,rfl,hh1,TH.cl,TH.VE,(by show 2<1000;decide),?_⟩;rw[N3];have fr:Fr h H1 (aP H1 h (.gc CH dx (JH (.ref a) (.ref q)))):=Fr.aP;have kp:=fr.kp hh1 TH.ne;refine⟨_,rfl,h,CH,dx,_,_,rfl,ai,TH.cl,TH.VE,Gf,?_⟩;refine k _ q cN ⟨ai,R.Ql,R.tb,R.tJ,(R.A2.keeps s1).kp kp,.inr ⟨q,cN,rfl,FO,wg.kp kp⟩⟩ ((Fr.of s1).trans fr) FO (wg.kp kp)
  ·refine⟨_,rfl,h,CH,dx,_,_,rfl,hh,TH.cl,TH.VE,Gf,rfl,_,rfl,bZ rfl ⟨_,rfl,h,CH,dx,_,_,rfl,hh,TH.cl,TH.VE,Gf,?_⟩⟩;exact k H tq cN R (Fr.of aE.Pu) FO wg
def Cu(H:Hp)(l:List Nat)(q:ah):Prop:=H q=some (.bV (eS l))
theorem Cv(l:List Nat):px (dA l)=eS l:=by unfold px eS dA;rw[bS];rfl
abbrev acE:dZ:=mm 90
inductive z5(vs:List V)(H:Hp)(Q:VK)(E_:XK):Prop
 |mk (q:ah) (qs:List ah) (ls:List (List Nat)) (_:vs=[.ref q]) (_:H q=some (.be (qs.map V.ref))) (_:Paired (Cu H) ls qs) (_:ls.flatten.length<=150000) (_:DH H Q (0::dA (ls.length::ls.flatten)))
theorem Zr:bU ["tuples","answer","one"] ["tuples"] (a5 acE):=ml
theorem acF(F:lg K "told" "told" acE f fd)(T:Gm mg):dQ P w K mg base ki 1 f fd ["tuples"] z5:=by
 refine F.ok Zr (λvs H Q E h=>?_) (λgl A bN s H vs Q E hr h=>?_)
 ·obtain⟨q,qs,ls,rfl,_⟩:=h;rfl
 ·obtain⟨q,qs,ls,rfl,hq,EK,dX,k⟩:=h;have nd:=Zr.nd;have hsz:al=16777216:=bR;have yU:=a6 EK;refine⟨_,am (g9 1 nd (cV (af aR (af (cg bM rfl T.fD bB (af (pv 0) aD)) aD)))) (am (fQ bi rfl (fA (pv 0)) (nr 2 nd) (aJ (fz (i_ bf j7 qI Ld (pv 1) (af (pv 2) aD))))) (aJ (bG (pv 1)))),?_⟩;refine⟨_,rfl,q,_,rfl,.inl (cv.of hq),(by show 2<=al;omega),λu hu=>?_⟩;have s1:aE H (aP H u (.be [.int 0,.int ((qs.map V.ref).length:Nat)])):=aE.aP hu;have hu1:aP H u (.be [.int 0,.int ((qs.map V.ref).length:Nat)]) u=some (.be (V.int 0::eS (ls.length::(ls.take 0).flatten))):=by rw[ai,a_,<-yU];rfl
  generalize aP H u (.be [.int 0,.int ((qs.map V.ref).length:Nat)])=H1 at s1 hu1 ⊢;refine⟨_,rfl,q,rfl,⟨_,cv.of (s1 _ _ hq)⟩,ig (K:=K) (a:=q) (xs:=qs.map V.ref) (λi σ H'=>∃v2:Option V,σ=[some (.ref q),some (.ref u),v2]/\H' u=some (.be (V.int 0::eS (ls.length::(ls.take i).flatten)))/\aE H H') ⟨none,rfl,hu1,s1⟩ (λi σ H' _ ⟨_,_,_,s2⟩=>cv.of (s2 _ _ hq)) ?_ ?_⟩
  ·rintro i x σ H' hi ⟨v2,rfl,ma,s2⟩;obtain⟨ra,e,rfl⟩:=dk hi;obtain⟨l,hy,mW⟩:=b0 EK e;have Lg:H ra=some (.bV (eS l)):=mW;have Qc:(ls.take (i+1)).flatten=(ls.take i).flatten++l:=by rw[bQ,hy];simp
   have yM:(ls.take i).flatten.length+l.length<=150000:=by
    have e1:(ls.take (i+1)).flatten.length<=ls.flatten.length:=by
     conv=>rhs;rw[<-uZ (i+1) ls,List.flatten_append,aw]
     omega
    rw[Qc,aw]at e1;omega
   refine⟨_,rfl,.inl ⟨rfl,_,cv.of ma⟩,_,rfl,u,ra,_,_,rfl,rfl,ma,s2 _ _ Lg,?_,_,rfl,?_,λb o eb=>?_⟩
   ·simp only[aZ,fO];omega
   ·rw[ai,Qc];refine congrArg (λz=>some (HO.be z)) ?_;unfold eS;rw[VR,<-aK,VR]
   ·rw[aF (aH eb hu)];exact s2 _ _ eb
  ·rintro σ H' ⟨v2,rfl,ma,s2⟩;rw[a_,<-yU,a8]at ma;refine⟨_,rfl,k H' u s2 hu ?_⟩;rw[ma,JE,Cv]
abbrev N5:dZ:=mm 91
abbrev Zs:List bT:=["moves","symbol","target"]
inductive UU(vs:List V)(H:Hp)(Q:VK)(E_:XK):Prop
 |mk (d:ah) (mv:List gf) (_:vs=[.ref d]) (_:H d=some (.dT (rj mv))) (_:mv.length<=276) (_:DH H Q (0::dA (mv.length::mv.flatMap dC)))
theorem UV:bU Zs ["moves"] (a5 N5):=ml
theorem XT(F:lg K "told_moves" "told_moves" N5 f fd)(T:Gm mg)(GT:jL P w K mg base "told" 1 ["tuples"] z5):dQ P w K mg base ki 2 f fd ["moves"] UU:=by
 refine F.ok UV (λvs H Q E h=>?_) (λgl A bN s H vs Q E hr h=>?_)
 ·obtain⟨d,mv,rfl,_⟩:=h;rfl
 ·obtain⟨d,mv,rfl,hd,arX,k⟩:=h;have nd:=UV.nd;have hsz:al=16777216:=bR;refine⟨_,aJ (bG (cO GT hr (aB _) rfl (af (WI (qb (own:=[("symbol",1),("target",2)]) rfl nd (yP (pv 0)) (gi (N:=Zs) (sc:=a5 N5) (by decide+kernel)) (λ_ _ _ _ _=>NG (K:=K) (n:=2) rfl rfl (gT (nr 1 nd) (gT (nr 2 nd) pY))) (λ_ _ _ _ _=>mP) (λ_ _ _ _ _=>ii (af (ft (xH (K:=K) rfl) (pv 1) aR) (af (ft (xH (K:=K) rfl) (pv 1) aR) (af (pv 2) aD)))))) aD))),?_⟩;refine⟨d,.dT (rj mv),hd,trivial,λod=>?_⟩;have tf:aP H d (.nB od (.dT (rj mv))) d=some (.nB od (.dT (rj mv))):=ai;have Vz:Fr d H (aP H d (.nB od (.dT (rj mv)))):=Fr.aP;have Ka:∀b,aP H d (.nB od (.dT (rj mv))) b=none->H b=none:= λb e=>by
   have:b≠d:= λz=>by rw[z,ai]at e;cases e
   rw[aF this]at e;exact e
  generalize aP H d (.nB od (.dT (rj mv)))=H1 at tf Vz Ka ⊢;refine⟨_,rfl,d,od,rj mv,rfl,tf,λD hD=>?_⟩;refine YI (J:=SJ d od (rj mv)) (n:=(rj mv).length) (λi H3=>aE H1 H3/\∃ps:List ah,H3 D=some (.be (ps.map V.ref))/\Paired (Cu H3) ((mv.take i).map dC) ps) ⟨aE.aP hD,[],ai,by rw[qm];exact .nil⟩
   (λi H3 hi ⟨s3,_⟩=>⟨s3 _ _ tf,hi⟩) (λH3 ⟨s3,_⟩=>⟨s3 _ _ tf,aB _⟩) ?_ ?_
  ·rintro i x H3 H4 hi ⟨s3,ps,li,wy⟩ ⟨T',sq,kq,v,CW,rfl,F5,NK,rfl⟩;obtain⟨m,hm,em⟩:∃m,mv[i]? =some m/\(vz m,nV m.to)=(kq,v):=by
    unfold rj at CW;rw[aM]at CW;cases e:mv[i]? with|none=>rw[e]at CW;cases CW|some m=>rw[e]at CW;exact⟨m,rfl,ax CW⟩
   obtain⟨rfl,rfl⟩:=hJ em;have t4:aE H3 (aP H3 T' (.bV [.ref sq,nV m.to])):=aE.aP F5;have vx:=t4 _ _ li;have XU:Paired (Cu (aP H3 T' (.bV [.ref sq,nV m.to]))) ((mv.take i).map dC) ps:=Paired.gJ wy λ_ _ z=>t4 _ _ z;have acG:aP H3 T' (.bV [.ref sq,nV m.to]) sq=some (.bV [nV m.kind,nV m.over]):=t4 _ _ NK;have s4:=s3.trans t4;refine⟨T',_,rfl,eh.of ai,rfl,_,_,rfl,_,_,rfl,rfl,rfl,?_⟩;generalize aP H3 T' (.bV [.ref sq,nV m.to])=H4 at t4 vx XU acG s4 ⊢;refine⟨_,rfl,sq,_,_,_,rfl,rfl,eh.of acG,aN (j:=0) rfl,_,rfl,sq,_,_,_,rfl,rfl,eh.of acG,aN (j:=1) rfl,_,rfl,(by show 3<=al;omega),λu hu=>?_⟩;have t5:aE H4 (aP H4 u (.bV [nV m.kind,nV m.over,nV m.to])):=aE.aP hu;have Js:=t5 _ _ vx;have hu5:aP H4 u (.bV [nV m.kind,nV m.over,nV m.to]) u=some (.bV (eS (dC m))):=ai;have wx:ps.length<=276:=by rw[<-a6 wy,aq,a4];omega
   generalize aP H4 u (.bV [nV m.kind,nV m.over,nV m.to])=H5 at t5 Js hu5 ⊢;refine⟨_,Js,by rw[a_];omega,λc o ec=>?_,ps++[u],by rw[ai,aK];rfl,?_⟩
   ·rw[aF (aH ec hD)];exact t5 _ _ (s4 _ _ ec)
   ·have sb:aE (d6 [D] H5) (aP H5 D (.be (ps.map V.ref++[V.ref u]))):=cS (ci _ _) (by simp);have key:∀{b:ah}{ys:List V},H5 b=some (.bV ys)->aP H5 D (.be (ps.map V.ref++[V.ref u])) b=some (.bV ys):= λ{b ys} z=>sb _ _ (bo.mpr ⟨λm=>d7 Js _ m _ z,z⟩);have e2:(mv.take (i+1)).map dC=(mv.take i).map dC++[dC m]:=by rw[bQ,hm];simp
    rw[e2];exact cJ (Paired.gJ XU λ_ _ z=>key (t5 _ _ z)) (key hu5)
  ·rintro H3 ⟨s3,ps,li,wy⟩;have Y':(rj mv).length=mv.length:=aq _;rw[Y',a8]at wy;have Y8:=s3 _ _ tf;refine⟨Y8,?_⟩;have s4:aE H (aP H3 d (.dT (rj mv))):= λb o e=>by
    by_cases hb:b=d
    ·rw[hb,ai];rw[hb,hd]at e;exact e
    ·rw[aF hb];exact s3 _ _ (Vz _ _ hb e)
   have key:∀{b:ah}{o:HO},H3 b=some o->b≠d->aP H3 d (.dT (rj mv)) b=some o:= λ{b o} e hb=>by rw[aF hb];exact e
   have hDd:D≠d:= λz=>by rw[z,tf]at hD;cases hD
   have XU:Paired (Cu (aP H3 d (.dT (rj mv)))) (mv.map dC) ps:=Paired.gJ wy λ_ b z=>key z λy=>by have z':H3 b=some (.bV _):=z;rw[y,Y8]at z';cases z'
   have efl:(mv.map dC).flatten=mv.flatMap dC:=by rw[n8]
   have hfl:∀l:List gf,(l.map dC).flatten.length=3*l.length:= λl=>by
    induction l with|nil=>rfl|cons a l ih=>rw[aS,ga,aw,ih];show 3+_=3*(l.length+1);omega
   refine⟨D,ps,mv.map dC,rfl,key li hDd,XU,by rw[hfl];omega,λH5 q s5 sm P9=>?_⟩;refine k H5 q (s4.trans s5) (s4.free sm) ?_;rw[P9,aq,efl]
abbrev acH:dZ:=mm 92
def aht(s:dw)(c i:Int):List Int:=jg s i λj=>if c=3 then 0::dA ((cD s.table j).length::(cD s.table j).flatMap jX)else if c=4 then 0::dA ((fY s.table j).length::(fY s.table j).flatMap dC)else 0::dA ((cA s.grammar s.table j).length::cA s.grammar s.table j)
inductive Zt(C:ah)(vs:List V)(H:Hp)(Q:VK)(E_:XK):Prop
 |mk (a:ah) (s:dw) (ks:List (List Nat)) (c i:Int) (_:vs=[.ref a,.int c,.int i]) (_:Good s.grammar) (_:sY s.grammar ks s.table) (_:TabAt C H s.grammar s.table a) (_:DH H Q (aht s c i))
theorem ahu:bU ["table","call","state"] ["table","call","state"] (a5 acH):=ml
theorem acI(F:lg K "answer_of_state" "answer_of_state" acH f fd)(T:Gm mg)(TT:AX K C)(GH:jL P w K mg base "has_state" 1 ["table","state"] (Nr C))(GT:jL P w K mg base "told" 1 ["tuples"] z5)(GM:jL P w K mg base "told_moves" 2 ["moves"] UU):dQ P w K mg base ki 3 f fd ["table","call","state"] (Zt C):=by
 refine F.ok ahu (λvs H Q E h=>?_) (λgl A bN s H vs Q E hr h=>?_)
 ·obtain⟨a,s,ks,c,i,rfl,_⟩:=h;rfl
 ·obtain⟨a,⟨g,t⟩,ks,c,i,rfl,G,TA,pH,k⟩:=h;have hsz:al=16777216:=bR;obtain⟨ls,lm,lw,ss,ms,ws,qx,h2,h3,h4,h5,h6,h7⟩:=pH;have tG:=a6 h3;rw[aq]at tG;have tG:t.length=ss.length:=tG;have ahv:=qx;obtain⟨dx,lr,lc,lo,as,QQ,qy,Hd,Jy,Kb,Kc,He⟩:=qx;refine⟨_,am (dD (o_ (lN (cO GH hr (by decide) rfl (af (pv 0) (af (pv 2) aD))))) (aJ (bG (cV (af (lQ T.r4 rfl) aD)))) b5) (am (dD (bY g8 (pv 1) (lQ T.c3 rfl) (ck _)) (aJ (bG (cO GT hr (by decide) rfl (af (ft b_ (cE (pv 0) rfl) (pv 2)) aD)))) b5) (am (dD (bY g8 (pv 1) (lQ T.c4 rfl) (ck _)) (aJ (bG (cO GM hr (aB _) rfl (af (ft b_ (cE (pv 0) rfl) (pv 2)) aD)))) b5) (aJ (bG (e7 FH (cV (af aR (af (cg bM rfl T.fD bB (af (ft b_ (cE (pv 0) rfl) (pv 2)) aD)) aD))) (ft b_ (cE (pv 0) rfl) (pv 2))))))),?_⟩;refine⟨_,rfl,_,rfl,a,g,ls,lm,lw,_,i,rfl,ahv,h2,_,rfl,?_⟩;rw[a_,<-tG];unfold aht jg at k;by_cases VD:i<0
  ·rw[if_pos VD]at k;rw[decide_eq_false (by omega)];exact cF rfl ⟨(by show 1<=al;omega),λu hu=>k _ u (aE.aP hu) hu ai⟩
  ·rw[if_neg VD]at k;by_cases Uf:(t.length:Int)<=i
   ·rw[if_pos Uf]at k;rw[decide_eq_true (by omega),decide_eq_false (by omega)];exact cF rfl ⟨(by show 1<=al;omega),λu hu=>k _ u (aE.aP hu) hu ai⟩
   ·rw[if_neg Uf]at k;rw[decide_eq_true (show 0<=i by omega),decide_eq_true (show i<(t.length:Int) by omega)];obtain⟨n,rfl⟩:∃n:Nat,i=(n:Int):=⟨i.toNat,(jv (by omega)).symm⟩;have hnt:n<t.length:=by omega
    rw[i5]at k;dsimp only at k;obtain⟨r,DI⟩:∃r,t[n]? =some r:=⟨_,ay hnt⟩;obtain⟨kr,QP,Vq,hk3,MO⟩:=TA.row n r DI;have d5:sX g r.items:=by rw[hk3];exact Vq.ok.close
    have af8:r.items.length<=976:=jz d5.J9 λc hc=>oF G (d5.ok c hc);have Y':r.moves.length<=276:=by rw[MO.fD];exact pX G _
    have eI:cD t n=r.items:=by unfold cD;rw[DI]
    have eM:fY t n=r.moves:=by unfold fY;rw[DI]
    refine bZ rfl ⟨_,rfl,rfl,_,rfl,?_⟩;by_cases c3:c=3
    ·subst c3;rw[if_pos rfl]at k;have k':DH H Q (0::dA ((cD t n).length::(cD t n).flatMap jX)):=k;rw[eI]at k';obtain⟨sq,acm,cc,ahw,LF⟩:=L2.fV h3 (show(t.map (·.items))[n]? =some r.items by rw[aM,DI];rfl);have hsi:(ss.map V.ref)[n]? =some (.ref sq):=by rw[aM,acm];rfl
     have hp:Paired (Cu H) (r.items.map jX) cc:=by
      have:∀{l:List Nat}{qs:List ah},dY H l qs->Paired (Cu H) (l.map jX) qs:=by
       intro l qs z;induction z with|nil=>exact .nil|cons a _ ih=>exact .cons a ih
      exact this LF
     have hfl:∀l:List Nat,(l.map jX).flatten.length=2*l.length:= λl=>by
      induction l with|nil=>rfl|cons a l ih=>rw[aS,ga,aw,ih];show 2+_=2*(l.length+1);omega
     refine cF (dV rfl) ⟨_,rfl,a,C,dx,_,_,rfl,qy,TT.cl,TT.QM,pd,_,rfl,ls,_,_,_,rfl,rfl,cv.of h2,aN hsi,sq,cc,r.items.map jX,rfl,ahw,hp,by rw[hfl];omega,λH5 q s5 sm P9=>?_⟩;refine k' H5 q s5 sm ?_;rw[P9,aq,n8]
    ·rw[if_neg c3]at k;refine bZ (mh c3) ⟨_,rfl,rfl,_,rfl,?_⟩;by_cases c4:c=4
     ·subst c4;rw[if_pos rfl]at k;have k':DH H Q (0::dA ((fY t n).length::(fY t n).flatMap dC)):=k;rw[eM]at k';obtain⟨md,LS,hmd⟩:=L2.fV h5 DI;have hmi:(ms.map V.ref)[n]? =some (.ref md):=by rw[aM,LS];rfl
      exact cF (dV rfl) ⟨_,rfl,a,C,dx,_,_,rfl,qy,TT.cl,TT.YM,wa,_,rfl,lm,_,_,_,rfl,rfl,cv.of h4,aN hmi,md,r.moves,rfl,hmd,Y',k'⟩
     ·rw[if_neg c4]at k;have k':DH H Q (0::dA ((cA g t n).length::cA g t n)):=k;rw[o6 DI]at k';obtain⟨wd,acf,hwd⟩:=L2.fV h7 DI;have S1:(ws.map V.ref)[n]? =some (.ref wd):=by rw[aM,acf];rfl
      have UB:H wd=some (.be (eS (eL g r.items))):=hwd;have QK:=uA g r.items;refine bZ (mh c4) ⟨_,rfl,a,C,dx,_,_,rfl,qy,TT.cl,TT.who,FV,_,rfl,lw,_,_,_,rfl,rfl,cv.of h6,aN S1,wd,_,rfl,.inl (cv.of UB),(by show 2<=al;omega),λu hu=>?_⟩;have s1:aE H (aP H u (.be [.int 0,.int ((eS (eL g r.items)).length:Nat)])):=aE.aP hu;refine⟨_,rfl,a,C,dx,_,_,rfl,s1 _ _ qy,TT.cl,TT.who,FV,_,rfl,lw,_,_,_,rfl,rfl,cv.of (s1 _ _ h6),aN S1,u,wd,_,_,rfl,rfl,ai,s1 _ _ UB,by rw[fO];show 2+_<=_;omega,λp hp=>?_⟩;refine k' _ p (aE.kj s1 hp) (s1.free hp) ?_;rw[ai,JE,Cv,fO];rfl
def L5(p:Nat×Nat):List Nat:=[p.1,p.2]
theorem Gh(a:aem):pC a=L5 (Eh a):=by cases a<;>rfl
theorem Qn(l:List aem):l.flatMap pC=((l.map Eh).map L5).flatten:=by rw[n8,bS];congr 1;exact cZ λa _=>Gh a
theorem L6(G:Good g){ks:List (List Nat)}(TA:sY g ks t)(cN:List Nat)(i c:Nat):(dc g cN t i c).length<=980:=by
 unfold dc;rw[aw];have h1:(kZ t i c).length<=1:=by unfold kZ;cases bK t i 1 c<;>simp
 have h2:((cA g t i).filterMap (iD g cN c)).length<=976:=by
  refine aW (bL _ _) ?_;cases e:t[i]? with
  |none=>unfold cA cD;rw[e];simp|some r=>
   rw[o6 e];obtain⟨kr,QP,Vq,hk3,MO⟩:=TA.row i r e;have d5:sX g r.items:=by rw[hk3];exact Vq.ok.close
   exact aW (uA g r.items) (jz d5.J9 λc hc=>oF G (d5.ok c hc))
 omega
theorem N6(l:List (Nat×Nat)):(l.map L5).flatten.length=2*l.length:=by
 induction l with|nil=>rfl|cons a l ih=>rw[aS,ga,aw,ih];show 2+_=2*(l.length+1);omega
abbrev UW:dZ:=mm 93
inductive UX(CH C:ah)(vs:List V)(H:Hp)(Q:VK)(E_:XK):Prop
 |mk (h:ah) (s:dw) (i b:Int) (_:vs=[.ref h,.int i,.int b]) (_:HeldAt CH C H s h) (_:∀(H':Hp)(q:ah),HeldAt CH C H' s h->Fr h H H'->H q=none->H' q=some (.be (px (fb s (.acts i b)).2))->Q (.ref q) H')
theorem acJ:bU ["held","state","byte"] ["held","state","byte"] (a5 UW):=ml
theorem XV(F:lg K "acts" "acts" UW f fd)(T:Gm mg)(TT:AX K C)(TH:HdT K C CH)(GH:jL P w K mg base "has_state" 1 ["table","state"] (Nr C))(GO:jL P w K mg base "things_of" 7 ["held"] (UT CH C))(GT:jL P w K mg base "told" 1 ["tuples"] z5):dQ P w K mg base ki 8 f fd ["held","state","byte"] (UX CH C):=by
 refine F.ok acJ (λvs H Q E h=>?_) (λgl A bN s H vs Q E hr h=>?_)
 ·obtain⟨h,s,i,b,rfl,_⟩:=h;rfl
 ·obtain⟨h,⟨g,t⟩,i,b,rfl,⟨dx,a,th,R⟩,k⟩:=h;have hu:=m5 hr;have hsz:al=16777216:=bR;have G:Good g:=R.Ql;obtain⟨ks,TA⟩:=R.tb;have TA:sY g ks t:=TA;have hh:=R.xf;obtain⟨ls,lm,lw,ss,ms,ws,qx,h2,h3,h4,h5,h6,h7⟩:=R.A2;have tG:=a6 h3;rw[aq]at tG;have tG:t.length=ss.length:=tG;refine⟨_,am (dD (o_ (lN (cO GH hr (by decide) rfl (af (cE (pv 0) rfl) (af (pv 1) aD))))) (aJ (bG (cV (af (lQ T.r4 rfl) aD)))) b5) (am (dD (o_ (pb mO mO aR (pv 2) (lQ T.te rfl))) (aJ (bG (cV (af (lQ T.r5 rfl) aD)))) b5) (aJ (bG (cO GT hr (by decide) rfl (af (S7 hu (ft b_ (cO GO hr (aB _) rfl (af (pv 0) aD)) (pv 1)) (ft b_ (cE (cE (pv 0) rfl) rfl) (pv 2)) (cV aD) ⟨rfl,rfl,rfl,rfl⟩) aD))))),?_⟩;have ret:∀z:Int,(fb ⟨g,t⟩ (.acts i b)).2=[z]->∀u,H u=none->Q (.ref u) (aP H u (.be [.int z])):= λz ez u hu=>by exact k _ u ⟨dx,a,th,R.keeps (aE.aP hu)⟩ (Fr.of (aE.aP hu)) hu (by rw[ai,ez];rfl)
  have xV:(fb ⟨g,t⟩ (.acts i b)).2=jg ⟨g,t⟩ i (λj=>if b<0 then[-5]else if 256<b then[-5]else 0::dA ((cH g (bO g) t j b.toNat).length::(cH g (bO g) t j b.toNat).flatMap pC)):=rfl;rw[xV]at ret;unfold jg at ret xV;refine⟨_,rfl,h,CH,dx,_,_,rfl,hh,TH.cl,TH.A2,qA,_,rfl,a,g,ls,lm,lw,_,i,rfl,qx,h2,_,rfl,?_⟩;rw[a_,<-tG];by_cases VD:i<0
  ·rw[if_pos VD]at ret;rw[decide_eq_false (by omega)];exact cF rfl ⟨(by show 1<=al;omega),λu hu=>ret _ rfl u hu⟩
  ·rw[if_neg VD]at ret xV;by_cases Uf:(t.length:Int)<=i
   ·rw[if_pos Uf]at ret;rw[decide_eq_true (by omega),decide_eq_false (by omega)];exact cF rfl ⟨(by show 1<=al;omega),λu hu=>ret _ rfl u hu⟩
   ·rw[if_neg Uf]at ret xV;dsimp only at ret xV;rw[decide_eq_true (show 0<=i by omega),decide_eq_true (show i<(t.length:Int) by omega)];refine bZ rfl ⟨_,rfl,_,_,rfl,rfl,_,rfl,?_⟩;by_cases hb0:b<0
    ·rw[if_pos hb0]at ret;refine bZ (decide_eq_false (by omega)) ⟨_,rfl,?_⟩;exact cF rfl ⟨(by show 1<=al;omega),λu hu=>ret _ rfl u hu⟩
    ·rw[if_neg hb0]at ret xV;refine cF (decide_eq_true (by omega)) ⟨_,_,rfl,rfl,_,rfl,?_⟩;by_cases hb1:256<b
     ·rw[if_pos hb1]at ret;rw[decide_eq_false (by omega)];exact cF rfl ⟨(by show 1<=al;omega),λu hu=>ret _ rfl u hu⟩
     ·rw[if_neg hb1]at xV;rw[decide_eq_true (show b<=256 by omega)];obtain⟨n,rfl⟩:∃n:Nat,i=(n:Int):=⟨i.toNat,(jv (by omega)).symm⟩;obtain⟨m,rfl⟩:∃m:Nat,b=(m:Int):=⟨b.toNat,(jv (by omega)).symm⟩;have hnt:n<t.length:=by omega
      have hm:m<=256:=by omega
      rw[i5,i5]at xV;refine bZ rfl ⟨_,rfl,h,dx,a,th,⟨g,t⟩,rfl,R,λH1 tq cN R1 Vz FO wg=>?_⟩;obtain⟨ds,htq,DD,Jz⟩:=wg;have DD:ds.length=t.length:=DD;obtain⟨d,hd⟩:∃d,ds[n]? =some d:=⟨_,ay (by rw[DD];exact hnt)⟩;obtain⟨H0,kk,ad,RD⟩:=Jz n d hd;have RD:zY H0 H1 (dc g cN t n) d kk ad:=RD;have FO:lC g cN:=FO;have hdi:(ds.map V.ref)[n]? =some (.ref d):=by rw[aM,hd];rfl
      obtain⟨ls1,lm1,lw1,ss1,ms1,ws1,⟨dx1,lr,lc,lo,as,QQ,qy,Hd,Jy,Kb,Kc,He⟩,_⟩:=R1.A2;refine⟨_,rfl,tq,_,_,_,rfl,rfl,cv.of htq,aN hdi,d,rfl,.inl ⟨_,.inl RD.dict⟩,?_⟩;refine⟨_,rfl,h,CH,dx,_,_,rfl,R1.xf,TH.cl,TH.A2,qA,a,C,dx1,_,_,rfl,qy,TT.cl,TT.col,Lh,_,rfl,lo,_,_,_,rfl,rfl,cv.of He,aN (y0 hm),bj _,λe he=>?_⟩;have s2:aE H1 (aP H1 e (.be [])):=aE.aP he;have Yk:aP H1 e (.be []) e=some (.be []):=ai;have hn1:∀b,H1 b=none->H b=none:= λb e1=>by
       by_cases hbh:b=h
       ·rw[hbh,R1.xf]at e1;cases e1
       ·cases e2:H b with|none=>rfl|some o=>rw[Vz _ _ hbh e2]at e1;cases e1
      generalize aP H1 e (.be [])=H2 at s2 Yk ⊢;have R2:=R1.keeps s2;have RD2:=RD.keeps s2;have oH:∀(c:Option Nat)(l:List (Nat×Nat))(q:ah)(qs:List ah),(cH g (bO g) t n m).map Eh=l->l.length<=980->H2 q=some (.be (qs.map V.ref))->Paired (Cu H2) (l.map L5) qs->z5 [.ref q] H2 (λv H'=>Q v H') E0:= λc l q qs el hl hq EK=>by refine⟨q,qs,l.map L5,rfl,hq,EK,by rw[N6];omega,λH3 r s3 Ax hr3=>?_⟩;refine k H3 r ⟨dx,a,_,R2.keeps s3⟩ ((Vz.trans (Fr.of s2)).trans (Fr.of s3)) (hn1 _ (s2.free Ax)) ?_;rw[hr3,xV,Qn,el,aq,<-el,aq]
      refine⟨_,EL RD2 (nP g m),?_⟩;have EM:(cH g (bO g) t n m).map Eh=[]->z5 [.ref e] H2 (λv H'=>Q v H') E0:= λel=>oH none [] e [] el (by decide) Yk .nil;cases vO:nP g m with
      |none=>
       refine EM ?_;have Zu:m<256:=by
        by_cases z:m<256
        ·exact z
        ·have:m=256:=by omega
         rw[this]at vO;unfold nP at vO;rw[if_pos rfl]at vO;cases vO
       rw[JG g Zu]at vO;rw[Ei G n Zu vO];rfl
      |some c=>
       have ea:=wV G TA FO n vO;show z5 [(if c∈kk then some (V.ref (ad c))else none).getD (.ref e)] H2 (λv H'=>Q v H') E0;by_cases xT:c∈kk
       ·rw[if_pos xT];obtain⟨qs,hq,P1⟩:=RD2.be c xT;have hp:Paired (Cu H2) ((dc g cN t n c).map L5) qs:=by
         have:∀{l:List (Nat×Nat)}{qs:List ah},uy H2 l qs->Paired (Cu H2) (l.map L5) qs:=by
          intro l qs z;induction z with|nil=>exact .nil|cons a _ ih=>exact .cons a ih
         exact this P1
        exact oH (some c) _ _ qs ea (L6 G TA cN n c) hq hp
       ·rw[if_neg xT];refine EM ?_;rw[ea];exact kR λz=>xT ((RD.mem c).mpr z)
inductive Qo:List Int->kS->List Int->Prop
 |load (row dB:List Int):Qo (0::(row.length:Int)::(row++dB)) (.load row) dB
 |classes (dB:List Int):Qo (1::dB) .classes dB
 |states (dB:List Int):Qo (2::dB) .states dB
 |items (i:Int) (dB:List Int):Qo (3::i::dB) (.items i) dB
 |moves (i:Int) (dB:List Int):Qo (4::i::dB) (.moves i) dB
 |complete (i:Int) (dB:List Int):Qo (5::i::dB) (.complete i) dB
 |acts (i b:Int) (dB:List Int):Qo (6::i::b::dB) (.acts i b) dB
 |go (i:Int) (row dB:List Int):Qo (7::i::(row.length:Int)::(row++dB)) (.go i row) dB
 |conflicts (dB:List Int):Qo (8::dB) .conflicts dB
 |parse (row dB:List Int):Qo (9::(row.length:Int)::(row++dB)) (.parse row) dB
theorem fK{xs:List Int}{p:Nat}{a:Int}{r:List Int}(h:xs.drop p=a::r):xs[p]? =some a/\xs.drop (p+1)=r:=by
 have h1:(xs.drop p)[0]? =some a:=by rw[h];rfl
 rw[List.getElem?_drop,Mg]at h1;refine⟨h1,?_⟩;have h2:(xs.drop p).drop 1=r:=by rw[h];rfl
 rw[js]at h2;exact h2
theorem Cw{xs:List Int}{p:Nat}{row dB:List Int}(h:xs.drop p=(row.length:Int)::(row++dB)):xs[p]? =some (row.length:Int)/\p+1+row.length<=xs.length/\(xs.drop (p+1)).take row.length=row/\xs.drop (p+1+row.length)=dB:=by
 obtain⟨h1,h2⟩:=fK h;refine⟨h1,?_,?_,?_⟩
 ·have:=congrArg i0 h2;rw[eC,aw]at this;have h3:=(ao.mp h1).1;omega
 ·rw[h2,C8];rfl
 ·rw[<-js,h2,List.drop_left'];rfl
def UY(h l:ah)(H H':Hp):Prop:=∀b o,b≠h->b≠l->H b=some o->H' b=some o
theorem Fr.AA{l:ah}(f:Fr l H H')(hl:H' l=some o)(hq:H' q=none):H q=none:=by
 cases e:H q with
 |none=>rfl|some u=>
  by_cases z:q=l
  ·rw[z,hl]at hq;cases hq
  ·rw[f _ _ z e]at hq;cases hq
theorem Qp:∀{l:List (Nat×Nat)}{qs:List ah},pf H l qs->Paired (Cu H) (l.map λp=>[p.1,p.2]) qs:=by
 intro l qs z;induction z with|nil=>exact .nil|cons a _ ih=>exact .cons a ih
theorem Qq:∀{l:List (Nat×Nat×Nat)}{qs:List ah},qZ H l qs->Paired (Cu H) (l.map λc=>[c.1,c.2.1,c.2.2]) qs:=by
 intro l qs z;induction z with|nil=>exact .nil|cons a _ ih=>exact .cons a ih
theorem UZ(G:Good g){ks:List (List Nat)}(TA:sY g ks t)(FO:lC g cN)(h:t.length<=128):(dH g t).length<=33000:=by
 rw[wW G TA FO];have De:=(eO G).2;have key:∀n:Nat,((bE n).flatMap λi=>(bE (gs g+1)).filterMap (kH g cN t i)).length<=n*(gs g+1):=by
  intro n;induction n with
  |zero=>simp|succ n ih=>
   rw[gY (n:=n),pp,aw];have e:((bE (gs g+1)).filterMap (kH g cN t n)).length<=gs g+1:=aW (bL _ _) (by rw[fh];exact aB _);have e2:(aen (λi=>(bE (gs g+1)).filterMap (kH g cN t i)) [n]).length=((bE (gs g+1)).filterMap (kH g cN t n)).length:=by simp
   rw[e2,Mp];omega
 have h1:=key t.length;have h2:t.length*(gs g+1)<=128*(gs g+1):=Nat.mul_le_mul_right _ h;have h3:gs g<=256:=De;omega
theorem fl2(l:List (Nat×Nat)):(l.map λp=>[p.1,p.2]).flatten.length=2*l.length:=N6 l
theorem fl3(l:List (Nat×Nat×Nat)):(l.map λc=>[c.1,c.2.1,c.2.2]).flatten.length=3*l.length:=by
 induction l with|nil=>rfl|cons a l ih=>rw[aS,ga,aw,ih];show 3+_=3*(l.length+1);omega
abbrev acK:dZ:=mm 94
inductive Zv(K:ak)(CH C CL:ah)(vs:List V)(H:Hp)(Q:VK)(E_:XK):Prop
 |mk (h l dl na:ah) (s:dw) (p:Nat) (xs dB:List Int) (c:kS) (_:vs=[.ref h,.ref l]) (_:HeldAt CH C H s h) (_:H l=some (.gc CL dl (oK (.ref na) (nV p)))) (_:cv K H na (px xs)) (_:xs.length<=al) (_:Qo (xs.drop p) c dB) (_:∀(H':Hp)(q:ah)(p':Nat),HeldAt CH C H' (fb s c).1 h->H' l=some (.gc CL dl (oK (.ref na) (nV p')))->xs.drop p'=dB->p'<=xs.length->UY h l H H'->H q=none->H' q=some (.be (px (fb s c).2))->Q (.ref q) H')
theorem Zw:bU ["held","line","call","state"] ["held","line"] (a5 acK):=ml
theorem acL(F:lg K "answer_of_call" "answer_of_call" acK f fd)(T:Gm mg)(TT:AX K C)(TH:HdT K C CH)(TL:LnT K CL)(nLC:CL≠C)(nLH:CL≠CH)(GTk:MeB P w K mg base "take" CL 1 ["self"] (L3 K CL))(GTr:MeB P w K mg base "take_row" CL 2 ["self"] (Zp K CL))(GL:jL P w K mg base "load" 6 ["held","row"] (UR CH C))(GT:jL P w K mg base "told" 1 ["tuples"] z5)(GS:jL P w K mg base "answer_of_state" 3 ["table","call","state"] (Zt C))(GA:jL P w K mg base "acts" 8 ["held","state","byte"] (UX CH C))(GG:jL P w K mg base "go" 3 ["table","state","numbers"] (aha C K))(GC:jL P w K mg base "conflicts_among" 1 ["things"] LX)(GO:jL P w K mg base "things_of" 7 ["held"] (UT CH C))(GP:jL P w K mg base "parse" 3 ["table","things","text"] (Zm C)):dQ P w K mg base ki 9 f fd ["held","line"] (Zv K CH C CL):=by
 refine F.ok Zw (λvs H Q E h=>?_) (λgl A bN s H vs Q E hr h=>?_)
 ·obtain⟨h,l,dl,na,s,p,xs,dB,c,rfl,_⟩:=h;rfl
 ·obtain⟨h,l,dl,na,st,p,xs,dB,c,rfl,⟨dx,a,th,R⟩,hl,hN,hxl,yA,k⟩:=h;have nd:=Zw.nd;have hu:=m5 hr;have hsz:al=16777216:=bR;have Vw:h≠l:= λz=>by have:=R.xf;rw[z,hl]at this;cases this
  refine⟨_,am (g9 2 nd (qz GTk TL.cl hr (by decide) (pv 1))) (am (dD (bY g8 (pv 2) (lQ T.c0 rfl) (ck _)) (aJ (bG (cO GL hr (by decide) rfl (af (pv 0) (af (qz GTr TL.cl hr (by decide) (pv 1)) aD))))) b5) (am (dD (bY g8 (pv 2) (lQ T.c1 rfl) (ck _)) (aJ (bG (cO GT hr (by decide) rfl (af (cE (cE (pv 0) rfl) rfl) aD)))) b5) (am (dD (bY g8 (pv 2) (lQ T.c2 rfl) (ck _)) (aJ (bG (cV (af aR (af (cg bM rfl T.fD bB (af (cE (cE (pv 0) rfl) rfl) aD)) aD))))) b5) (am (dD (bY O5 (pv 2) (ii (af (lQ T.c3 rfl) (af (lQ T.c4 rfl) (af (lQ T.c5 rfl) aD)))) (by rfl)) (aJ (bG (cO GS hr (by decide) rfl (af (cE (pv 0) rfl) (af (pv 2) (af (qz GTk TL.cl hr (by decide) (pv 1)) aD)))))) b5) (am (dD (bY g8 (pv 2) (lQ T.c6 rfl) (ck _)) (am (g9 3 nd (qz GTk TL.cl hr (by decide) (pv 1))) (aJ (bG (cO GA hr (aB _) rfl (af (pv 0) (af (pv 3) (af (qz GTk TL.cl hr (by decide) (pv 1)) aD))))))) b5) (am (dD (bY g8 (pv 2) (lQ T.c7 rfl) (ck _)) (am (g9 3 nd (qz GTk TL.cl hr (by decide) (pv 1))) (aJ (bG (cO GG hr (by decide) rfl (af (cE (pv 0) rfl) (af (pv 3) (af (qz GTr TL.cl hr (by decide) (pv 1)) aD))))))) b5) (am (dD (bY g8 (pv 2) (lQ T.c8 rfl) (ck _)) (aJ (bG (cO GT hr (by decide) rfl (af (cO GC hr (by decide) rfl (af (cO GO hr (by decide) rfl (af (pv 0) aD)) aD)) aD)))) b5) (aJ (bG (cO GP hr (by decide) rfl (af (cE (pv 0) rfl) (af (cO GO hr (by decide) rfl (af (pv 0) aD)) (af (qz GTr TL.cl hr (by decide) (pv 1)) aD))))))))))))),?_⟩;obtain⟨g,t⟩:=st;obtain⟨ks,TA⟩:=R.tb;have G:Good g:=R.Ql;have TA:sY g ks t:=TA;have yY:t.length<=128:=R.tJ;have f1:Fr l H (aP H l (.gc CL dl (oK (.ref na) (nV (p+1))))):=Fr.aP;have sh:aP H l (.gc CL dl (oK (.ref na) (nV (p+1)))) l=some (.gc CL dl (oK (.ref na) (nV (p+1)))):=ai;have VF:∀{Ha Hb:Hp}{th':V}{pa:Nat},Ha l=some (.gc CL dl (oK (.ref na) (nV pa)))->Fr l Ha Hb->UO CH C Ha ⟨g,t⟩ h dx a th'->UO CH C Hb ⟨g,t⟩ h dx a th':= λe f R=>R.kp (f.kp e nLC) ((f _ _ Vw R.xf).trans R.xf.symm);have R1:=VF hl f1 R;have QR:=f1.seq hl hN;generalize xE:aP H l (.gc CL dl (oK (.ref na) (nV (p+1))))=H1 at f1 sh R1 QR;generalize L7:xs.drop p=ys at yA;have ple:∀{n:Nat}{a:Int},xs[n]? =some a->n+1<=xs.length:= λe=>(ao.mp e).1;have N4:∀{H':Hp},UY h l H1 H'->UY h l H H':= λf b o e1 e2 e=>f b o e1 e2 (f1 b o e2 e);have XW:∀{Ha Hb:Hp},Fr l Ha Hb->UY h l Ha Hb:= λf b o _ e2 e=>f b o e2 e;have frH:∀{Ha Hb:Hp},Fr h Ha Hb->UY h l Ha Hb:= λf b o e1 _ e=>f b o e1 e;have Kd:∀{Ha Hb:Hp},aE Ha Hb->UY h l Ha Hb:= λf b o _ _ e=>f b o e;have Gi:∀{Ha Hb Hc:Hp},UY h l Ha Hb->UY h l Hb Hc->UY h l Ha Hc:= λf f' b o e1 e2 e=>f' b o e1 e2 (f b o e1 e2 e);have Ka:∀{q:ah},H1 q=none->H q=none:= λe=>f1.AA sh e;have ahy:=R1.A2;have at1:=R1.xf;cases yA with
  |load row=>obtain⟨hg,tf⟩:=fK L7;refine⟨_,rfl,l,dl,_,rfl,hl,iK,l,dl,na,p,xs,_,rfl,hl,hN,hg,?_⟩;rw[xE];obtain⟨Ke,yM,Qc,XH⟩:=Cw tf;refine⟨_,rfl,rfl,_,rfl,cF (dV rfl) ⟨_,rfl,_,rfl,l,dl,_,rfl,sh,L1,l,dl,na,p+1,xs,row.length,rfl,sh,QR,Ke,yM,λr H2 Ax WZ oR f2=>?_⟩⟩;rw[Qc]at WZ;refine⟨h,r,⟨g,t⟩,row,rfl,⟨dx,a,th,VF sh f2 R1⟩,WZ,λH3 q R3 f3 sm zR=>?_⟩;exact k H3 q (p+1+1+row.length) R3 (f3 _ _ Vw.symm oR) XH yM (N4 (Gi (XW f2) (frH f3))) (Ka (f2.AA oR sm)) zR
  |classes=>obtain⟨hg,tf⟩:=fK L7;refine⟨_,rfl,l,dl,_,rfl,hl,iK,l,dl,na,p,xs,_,rfl,hl,hN,hg,?_⟩;rw[xE];obtain⟨ls,lm,lw,ss,ms,ws,⟨dx2,lr,lc,lo,as,QQ,qy,Hd,Jy,Kb,Kc,He⟩,h2,h3,h4,h5,h6,h7⟩:=ahy;have De:=(eO G).2;refine⟨_,rfl,rfl,_,rfl,bZ (mh (by decide)) ⟨_,rfl,rfl,_,rfl,cF (dV rfl) ⟨_,rfl,h,CH,dx,_,_,rfl,at1,TH.cl,TH.A2,qA,a,C,dx2,_,_,rfl,qy,TT.cl,TT.cls,Tf,lc,QQ,_,rfl,Kb,Qp Kc,by rw[fl2];show 2*(ag g).length<=150000;omega,λH2 q s2 sm Y2=>?_⟩⟩⟩;refine k H2 q (p+1) ⟨dx,a,th,R1.keeps s2⟩ (s2 _ _ sh) tf (ple hg) (N4 (Kd s2)) (Ka sm) ?_;rw[Y2,aq,<-n8];rfl
  |states=>obtain⟨hg,tf⟩:=fK L7;refine⟨_,rfl,l,dl,_,rfl,hl,iK,l,dl,na,p,xs,_,rfl,hl,hN,hg,?_⟩;rw[xE];obtain⟨ls,lm,lw,ss,ms,ws,⟨dx2,lr,lc,lo,as,QQ,qy,Hd,Jy,Kb,Kc,He⟩,h2,h3,h4,h5,h6,h7⟩:=ahy;have tG:=a6 h3;rw[aq]at tG;refine⟨_,rfl,rfl,_,rfl,bZ (mh (by decide)) ⟨_,rfl,rfl,_,rfl,bZ (mh (by decide)) ⟨_,rfl,rfl,_,rfl,cF (dV rfl) ⟨_,rfl,h,CH,dx,_,_,rfl,at1,TH.cl,TH.A2,qA,a,C,dx2,_,_,rfl,qy,TT.cl,TT.QM,pd,ls,_,rfl,.inl (cv.of h2),(by show 2<=al;omega),λu ma=>?_⟩⟩⟩⟩;have s2:aE H1 (aP H1 u (.be [.int 0,.int ((ss.map V.ref).length:Nat)])):=aE.aP ma;refine k _ u (p+1) ⟨dx,a,th,R1.keeps s2⟩ (s2 _ _ sh) tf (ple hg) (N4 (Kd s2)) (Ka ma) ?_;rw[ai,a_,<-tG];rfl
  |items i=>obtain⟨hg,tf⟩:=fK L7;refine⟨_,rfl,l,dl,_,rfl,hl,iK,l,dl,na,p,xs,_,rfl,hl,hN,hg,?_⟩;rw[xE];obtain⟨Ke,Dz⟩:=fK tf;refine⟨_,rfl,rfl,_,rfl,bZ (mh (by decide)) ⟨_,rfl,rfl,_,rfl,bZ (mh (by decide)) ⟨_,rfl,rfl,_,rfl,bZ (mh (by decide)) ⟨_,rfl,(by show 3<=al;omega),λu ma=>?_⟩⟩⟩⟩;have u2:aE H1 (aP H1 u (.bV [.int 3,.int 4,.int 5])):=aE.aP ma;have yZ:aP H1 u (.bV [.int 3,.int 4,.int 5]) u=some (.bV [.int 3,.int 4,.int 5]):=ai;have EN:∀{q:ah},aP H1 u (.bV [.int 3,.int 4,.int 5]) q=none->H1 q=none:= λe=>u2.free e;generalize aP H1 u (.bV [.int 3,.int 4,.int 5])=H2 at u2 yZ EN ⊢;have R2:=R1.keeps u2;have oR:=u2 _ _ sh;have N7:=u2.seq QR;refine⟨u,_,rfl,.inr (eh.of yZ),rfl,rfl,_,rfl,cF (by decide+kernel) ⟨_,rfl,h,CH,dx,_,_,rfl,R2.xf,TH.cl,TH.A2,qA,_,rfl,_,rfl,l,dl,_,rfl,oR,iK,l,dl,na,p+1,xs,_,rfl,oR,N7,Ke,?_⟩⟩;have f3:Fr l H2 (aP H2 l (.gc CL dl (oK (.ref na) (nV (p+1+1))))):=Fr.aP;have u7:aP H2 l (.gc CL dl (oK (.ref na) (nV (p+1+1)))) l=some (.gc CL dl (oK (.ref na) (nV (p+1+1)))):=ai;have R3:=VF oR f3 R2;generalize aP H2 l (.gc CL dl (oK (.ref na) (nV (p+1+1))))=H3 at f3 u7 R3 ⊢;refine⟨a,⟨g,t⟩,ks,3,i,rfl,G,TA,R3.A2,λH4 q s4 sm J'=>?_⟩;exact k H4 q (p+1+1) ⟨dx,a,th,R3.keeps s4⟩ (s4 _ _ u7) Dz (ple Ke) (N4 (Gi (Kd u2) (Gi (XW f3) (Kd s4)))) (Ka (EN (f3.AA u7 sm))) J'
  |moves i=>obtain⟨hg,tf⟩:=fK L7;refine⟨_,rfl,l,dl,_,rfl,hl,iK,l,dl,na,p,xs,_,rfl,hl,hN,hg,?_⟩;rw[xE];obtain⟨Ke,Dz⟩:=fK tf;refine⟨_,rfl,rfl,_,rfl,bZ (mh (by decide)) ⟨_,rfl,rfl,_,rfl,bZ (mh (by decide)) ⟨_,rfl,rfl,_,rfl,bZ (mh (by decide)) ⟨_,rfl,(by show 3<=al;omega),λu ma=>?_⟩⟩⟩⟩;have u2:aE H1 (aP H1 u (.bV [.int 3,.int 4,.int 5])):=aE.aP ma;have yZ:aP H1 u (.bV [.int 3,.int 4,.int 5]) u=some (.bV [.int 3,.int 4,.int 5]):=ai;have EN:∀{q:ah},aP H1 u (.bV [.int 3,.int 4,.int 5]) q=none->H1 q=none:= λe=>u2.free e;generalize aP H1 u (.bV [.int 3,.int 4,.int 5])=H2 at u2 yZ EN ⊢;have R2:=R1.keeps u2;have oR:=u2 _ _ sh;have N7:=u2.seq QR;refine⟨u,_,rfl,.inr (eh.of yZ),rfl,rfl,_,rfl,cF (by decide+kernel) ⟨_,rfl,h,CH,dx,_,_,rfl,R2.xf,TH.cl,TH.A2,qA,_,rfl,_,rfl,l,dl,_,rfl,oR,iK,l,dl,na,p+1,xs,_,rfl,oR,N7,Ke,?_⟩⟩;have f3:Fr l H2 (aP H2 l (.gc CL dl (oK (.ref na) (nV (p+1+1))))):=Fr.aP;have u7:aP H2 l (.gc CL dl (oK (.ref na) (nV (p+1+1)))) l=some (.gc CL dl (oK (.ref na) (nV (p+1+1)))):=ai;have R3:=VF oR f3 R2;generalize aP H2 l (.gc CL dl (oK (.ref na) (nV (p+1+1))))=H3 at f3 u7 R3 ⊢;refine⟨a,⟨g,t⟩,ks,4,i,rfl,G,TA,R3.A2,λH4 q s4 sm J'=>?_⟩;exact k H4 q (p+1+1) ⟨dx,a,th,R3.keeps s4⟩ (s4 _ _ u7) Dz (ple Ke) (N4 (Gi (Kd u2) (Gi (XW f3) (Kd s4)))) (Ka (EN (f3.AA u7 sm))) J'
  |complete i=>obtain⟨hg,tf⟩:=fK L7;refine⟨_,rfl,l,dl,_,rfl,hl,iK,l,dl,na,p,xs,_,rfl,hl,hN,hg,?_⟩;rw[xE];obtain⟨Ke,Dz⟩:=fK tf;refine⟨_,rfl,rfl,_,rfl,bZ (mh (by decide)) ⟨_,rfl,rfl,_,rfl,bZ (mh (by decide)) ⟨_,rfl,rfl,_,rfl,bZ (mh (by decide)) ⟨_,rfl,(by show 3<=al;omega),λu ma=>?_⟩⟩⟩⟩;have u2:aE H1 (aP H1 u (.bV [.int 3,.int 4,.int 5])):=aE.aP ma;have yZ:aP H1 u (.bV [.int 3,.int 4,.int 5]) u=some (.bV [.int 3,.int 4,.int 5]):=ai;have EN:∀{q:ah},aP H1 u (.bV [.int 3,.int 4,.int 5]) q=none->H1 q=none:= λe=>u2.free e;generalize aP H1 u (.bV [.int 3,.int 4,.int 5])=H2 at u2 yZ EN ⊢;have R2:=R1.keeps u2;have oR:=u2 _ _ sh;have N7:=u2.seq QR;refine⟨u,_,rfl,.inr (eh.of yZ),rfl,rfl,_,rfl,cF (by decide+kernel) ⟨_,rfl,h,CH,dx,_,_,rfl,R2.xf,TH.cl,TH.A2,qA,_,rfl,_,rfl,l,dl,_,rfl,oR,iK,l,dl,na,p+1,xs,_,rfl,oR,N7,Ke,?_⟩⟩;have f3:Fr l H2 (aP H2 l (.gc CL dl (oK (.ref na) (nV (p+1+1))))):=Fr.aP;have u7:aP H2 l (.gc CL dl (oK (.ref na) (nV (p+1+1)))) l=some (.gc CL dl (oK (.ref na) (nV (p+1+1)))):=ai;have R3:=VF oR f3 R2;generalize aP H2 l (.gc CL dl (oK (.ref na) (nV (p+1+1))))=H3 at f3 u7 R3 ⊢;refine⟨a,⟨g,t⟩,ks,5,i,rfl,G,TA,R3.A2,λH4 q s4 sm J'=>?_⟩;exact k H4 q (p+1+1) ⟨dx,a,th,R3.keeps s4⟩ (s4 _ _ u7) Dz (ple Ke) (N4 (Gi (Kd u2) (Gi (XW f3) (Kd s4)))) (Ka (EN (f3.AA u7 sm))) J'
  |acts i b=>obtain⟨hg,tf⟩:=fK L7;refine⟨_,rfl,l,dl,_,rfl,hl,iK,l,dl,na,p,xs,_,rfl,hl,hN,hg,?_⟩;rw[xE];obtain⟨Ke,Dz⟩:=fK tf;obtain⟨hg2,Y8⟩:=fK Dz;refine⟨_,rfl,rfl,_,rfl,bZ (mh (by decide)) ⟨_,rfl,rfl,_,rfl,bZ (mh (by decide)) ⟨_,rfl,rfl,_,rfl,bZ (mh (by decide)) ⟨_,rfl,(by show 3<=al;omega),λu ma=>?_⟩⟩⟩⟩;have u2:aE H1 (aP H1 u (.bV [.int 3,.int 4,.int 5])):=aE.aP ma;have yZ:aP H1 u (.bV [.int 3,.int 4,.int 5]) u=some (.bV [.int 3,.int 4,.int 5]):=ai;have EN:∀{q:ah},aP H1 u (.bV [.int 3,.int 4,.int 5]) q=none->H1 q=none:= λe=>u2.free e;generalize aP H1 u (.bV [.int 3,.int 4,.int 5])=H2 at u2 yZ EN ⊢;have R2:=R1.keeps u2;have oR:=u2 _ _ sh;have N7:=u2.seq QR;refine⟨u,_,rfl,.inr (eh.of yZ),rfl,rfl,_,rfl,bZ (by decide+kernel) ?_⟩;have f3:Fr l H2 (aP H2 l (.gc CL dl (oK (.ref na) (nV (p+1+1))))):=Fr.aP;have u7:aP H2 l (.gc CL dl (oK (.ref na) (nV (p+1+1)))) l=some (.gc CL dl (oK (.ref na) (nV (p+1+1)))):=ai;have R3:=VF oR f3 R2;have hN3:=f3.seq oR N7;refine⟨_,rfl,rfl,_,rfl,cF (dV rfl) ⟨_,rfl,l,dl,_,rfl,oR,iK,l,dl,na,p+1,xs,_,rfl,oR,N7,Ke,?_⟩⟩;generalize aP H2 l (.gc CL dl (oK (.ref na) (nV (p+1+1))))=H3 at f3 u7 R3 hN3 ⊢;refine⟨_,rfl,_,rfl,_,rfl,l,dl,_,rfl,u7,iK,l,dl,na,p+1+1,xs,_,rfl,u7,hN3,hg2,?_⟩;have f4:Fr l H3 (aP H3 l (.gc CL dl (oK (.ref na) (nV (p+1+1+1))))):=Fr.aP;have NY:aP H3 l (.gc CL dl (oK (.ref na) (nV (p+1+1+1)))) l=some (.gc CL dl (oK (.ref na) (nV (p+1+1+1)))):=ai;have R4:=VF u7 f4 R3;generalize aP H3 l (.gc CL dl (oK (.ref na) (nV (p+1+1+1))))=H4 at f4 NY R4 ⊢;refine⟨h,⟨g,t⟩,i,b,rfl,⟨dx,a,th,R4⟩,λH5 q R5 f5 sm P9=>?_⟩;exact k H5 q (p+1+1+1) R5 (f5 _ _ Vw.symm NY) Y8 (ple hg2) (N4 (Gi (Kd u2) (Gi (XW f3) (Gi (XW f4) (frH f5))))) (Ka (EN (f3.AA u7 (f4.AA NY sm)))) P9
  |go i row=>obtain⟨hg,tf⟩:=fK L7;refine⟨_,rfl,l,dl,_,rfl,hl,iK,l,dl,na,p,xs,_,rfl,hl,hN,hg,?_⟩;rw[xE];obtain⟨Ke,Dz⟩:=fK tf;obtain⟨hg2,yM,Qc,XH⟩:=Cw Dz;refine⟨_,rfl,rfl,_,rfl,bZ (mh (by decide)) ⟨_,rfl,rfl,_,rfl,bZ (mh (by decide)) ⟨_,rfl,rfl,_,rfl,bZ (mh (by decide)) ⟨_,rfl,(by show 3<=al;omega),λu ma=>?_⟩⟩⟩⟩;have u2:aE H1 (aP H1 u (.bV [.int 3,.int 4,.int 5])):=aE.aP ma;have yZ:aP H1 u (.bV [.int 3,.int 4,.int 5]) u=some (.bV [.int 3,.int 4,.int 5]):=ai;have EN:∀{q:ah},aP H1 u (.bV [.int 3,.int 4,.int 5]) q=none->H1 q=none:= λe=>u2.free e;generalize aP H1 u (.bV [.int 3,.int 4,.int 5])=H2 at u2 yZ EN ⊢;have R2:=R1.keeps u2;have oR:=u2 _ _ sh;have N7:=u2.seq QR;refine⟨u,_,rfl,.inr (eh.of yZ),rfl,rfl,_,rfl,bZ (by decide+kernel) ?_⟩;have f3:Fr l H2 (aP H2 l (.gc CL dl (oK (.ref na) (nV (p+1+1))))):=Fr.aP;have u7:aP H2 l (.gc CL dl (oK (.ref na) (nV (p+1+1)))) l=some (.gc CL dl (oK (.ref na) (nV (p+1+1)))):=ai;have R3:=VF oR f3 R2;have hN3:=f3.seq oR N7;refine⟨_,rfl,rfl,_,rfl,bZ (mh (by decide)) ⟨_,rfl,rfl,_,rfl,cF (dV rfl) ⟨_,rfl,l,dl,_,rfl,oR,iK,l,dl,na,p+1,xs,_,rfl,oR,N7,Ke,?_⟩⟩⟩;generalize aP H2 l (.gc CL dl (oK (.ref na) (nV (p+1+1))))=H3 at f3 u7 R3 hN3 ⊢;refine⟨_,rfl,h,CH,dx,_,_,rfl,R3.xf,TH.cl,TH.A2,qA,_,rfl,_,rfl,l,dl,_,rfl,u7,L1,l,dl,na,p+1+1,xs,row.length,rfl,u7,hN3,hg2,yM,λr H4 Ax hr4 NY f4=>?_⟩;rw[Qc]at hr4;have R4:=VF u7 f4 R3;refine⟨a,r,g,ks,t,i,row,rfl,G,TA,R4.A2,cv.of hr4,λH5 q s5 sm P9=>?_⟩;exact k H5 q (p+1+1+1+row.length) ⟨dx,a,th,R4.keeps s5⟩ (s5 _ _ NY) XH yM (N4 (Gi (Kd u2) (Gi (XW f3) (Gi (XW f4) (Kd s5))))) (Ka (EN (f3.AA u7 (f4.AA NY sm)))) P9
  |conflicts=>obtain⟨hg,tf⟩:=fK L7;refine⟨_,rfl,l,dl,_,rfl,hl,iK,l,dl,na,p,xs,_,rfl,hl,hN,hg,?_⟩;rw[xE];refine⟨_,rfl,rfl,_,rfl,bZ (mh (by decide)) ⟨_,rfl,rfl,_,rfl,bZ (mh (by decide)) ⟨_,rfl,rfl,_,rfl,bZ (mh (by decide)) ⟨_,rfl,(by show 3<=al;omega),λu ma=>?_⟩⟩⟩⟩;have u2:aE H1 (aP H1 u (.bV [.int 3,.int 4,.int 5])):=aE.aP ma;have yZ:aP H1 u (.bV [.int 3,.int 4,.int 5]) u=some (.bV [.int 3,.int 4,.int 5]):=ai;have EN:∀{q:ah},aP H1 u (.bV [.int 3,.int 4,.int 5]) q=none->H1 q=none:= λe=>u2.free e;generalize aP H1 u (.bV [.int 3,.int 4,.int 5])=H2 at u2 yZ EN ⊢;have R2:=R1.keeps u2;have oR:=u2 _ _ sh;have N7:=u2.seq QR;refine⟨u,_,rfl,.inr (eh.of yZ),rfl,rfl,_,rfl,bZ (by decide+kernel) ?_⟩;refine⟨_,rfl,rfl,_,rfl,bZ (mh (by decide)) ⟨_,rfl,rfl,_,rfl,bZ (mh (by decide)) ⟨_,rfl,rfl,_,rfl,cF (dV rfl) ⟨_,rfl,h,dx,a,th,⟨g,t⟩,rfl,R2,λH3 tq cN R3 f3 FO wg=>?_⟩⟩⟩⟩;have FO:lC g cN:=FO;refine⟨tq,g,ks,t,cN,rfl,G,TA,yY,FO,wg,λH4 r qs s4 Ax hr4 EK=>?_⟩;have De:=UZ G TA FO yY;refine⟨r,qs,_,rfl,hr4,Qq EK,by rw[fl3];omega,λH5 q s5 sm P9=>?_⟩;refine k H5 q (p+1) ⟨dx,a,_,(R3.keeps s4).keeps s5⟩ (s5 _ _ (s4 _ _ (f3 _ _ Vw.symm oR))) tf (ple hg) (N4 (Gi (Kd u2) (Gi (frH f3) (Gi (Kd s4) (Kd s5))))) (Ka (EN (f3.AA R3.xf (s4.free sm)))) ?_;rw[P9,aq,<-n8];rfl
  |parse row=>obtain⟨hg,tf⟩:=fK L7;refine⟨_,rfl,l,dl,_,rfl,hl,iK,l,dl,na,p,xs,_,rfl,hl,hN,hg,?_⟩;rw[xE];obtain⟨Ke,yM,Qc,XH⟩:=Cw tf;refine⟨_,rfl,rfl,_,rfl,bZ (mh (by decide)) ⟨_,rfl,rfl,_,rfl,bZ (mh (by decide)) ⟨_,rfl,rfl,_,rfl,bZ (mh (by decide)) ⟨_,rfl,(by show 3<=al;omega),λu ma=>?_⟩⟩⟩⟩;have u2:aE H1 (aP H1 u (.bV [.int 3,.int 4,.int 5])):=aE.aP ma;have yZ:aP H1 u (.bV [.int 3,.int 4,.int 5]) u=some (.bV [.int 3,.int 4,.int 5]):=ai;have EN:∀{q:ah},aP H1 u (.bV [.int 3,.int 4,.int 5]) q=none->H1 q=none:= λe=>u2.free e;generalize aP H1 u (.bV [.int 3,.int 4,.int 5])=H2 at u2 yZ EN ⊢;have R2:=R1.keeps u2;have oR:=u2 _ _ sh;have N7:=u2.seq QR;refine⟨u,_,rfl,.inr (eh.of yZ),rfl,rfl,_,rfl,bZ (by decide+kernel) ?_⟩;refine⟨_,rfl,rfl,_,rfl,bZ (mh (by decide)) ⟨_,rfl,rfl,_,rfl,bZ (mh (by decide)) ⟨_,rfl,rfl,_,rfl,bZ (mh (by decide)) ⟨_,rfl,h,CH,dx,_,_,rfl,R2.xf,TH.cl,TH.A2,qA,_,rfl,h,dx,a,th,⟨g,t⟩,rfl,R2,λH3 tq cN R3 f3 FO wg=>?_⟩⟩⟩⟩;have FO:lC g cN:=FO;have u7:=f3 _ _ Vw.symm oR;have hN3:=f3.seq R2.xf N7;refine⟨_,rfl,l,dl,_,rfl,u7,L1,l,dl,na,p+1,xs,row.length,rfl,u7,hN3,Ke,yM,λr H4 Ax hr4 NY f4=>?_⟩;rw[Qc]at hr4;have R4:=VF u7 f4 R3;refine⟨a,tq,r,g,ks,t,cN,row,rfl,G,TA,yY,R4.A2,FO,wg.kp (f4.kp u7 nLC),hr4,by omega,λH5 q s5 sm P9=>?_⟩;exact k H5 q (p+1+1+row.length) ⟨dx,a,_,R4.keeps s5⟩ (s5 _ _ NY) XH yM (N4 (Gi (Kd u2) (Gi (frH f3) (Gi (XW f4) (Kd s5))))) (Ka (EN (f3.AA R3.xf (f4.AA NY sm)))) P9
theorem L8(l:List Nat):(dA l).length=l.length:=aq _
theorem q_{α:Type}{f:α->List Nat}{n:Nat}(h:∀a,(f a).length<=n):∀l:List α,(l.flatMap f).length<=n*l.length
 | []=>bj _|a::l=>by rw[Ad,aw,aZ,Nat.mul_succ];have:=q_ h l;have:=h a;omega
theorem su{n:Nat}(h:l.length<=k):(0::dA (n::l)).length<=k+2:=by rw[aZ,L8,aZ];omega
theorem nY{s:dw}{i:Int}{f:Nat->List Int}{n:Nat}(h1:1<=n)(h:∀j,(f j).length<=n):(jg s i f).length<=n:=by
 unfold jg;split
 ·exact h1
 ·split
  ·exact h1
  ·exact h _
theorem Gj{g:aL}{fo:kO}{t:cK}{x:List Nat}:∀(k:Nat)(st:List Nat)(p:Nat)(dn l:List Nat),nH g fo t x k st p dn= .read l->l.length<=dn.length+k
 |0,_,_,_,_,h=>by cases h|k+1,st,p,dn,l,h=>by
  have h':(match cH g fo t (st.headD 0) (x.getD p gR)with
   | []=>ah3 p| .accept::_=> .read dn.reverse| .shift j::_=>nH g fo t x k (j::st) (p+1) dn| .reduce r::_=>match bK t ((st.drop (aO g r).rhs.length).headD 0) 0 (aO g r).lhs with
    |some j=>nH g fo t x k (j::st.drop (aO g r).rhs.length) p (r::dn)|none=> .stopped p)= .read l:=h
  cases e:cH g fo t (st.headD 0) (x.getD p gR)with
  |nil=>rw[e]at h';cases h'|cons a r=>
   rw[e]at h';cases a with
   |accept=>have:=VS h';rw[<-this,jm];omega|shift j=>have:=Gj k _ _ _ _ h';omega|reduce q=>
    have h2:(match bK t ((st.drop (aO g q).rhs.length).headD 0) 0 (aO g q).lhs with
     |some j=>nH g fo t x k (j::st.drop (aO g q).rhs.length) p (q::dn)|none=> .stopped p)= .read l:=h'
    cases e2:bK t ((st.drop (aO g q).rhs.length).headD 0) 0 (aO g q).lhs with|none=>rw[e2]at h2;cases h2|some j=>rw[e2]at h2;have:=Gj k _ _ _ _ h2;rw[aZ]at this;omega
section
variable{g:aL}{ks:List (List Nat)}{t:cK}
theorem EO(G:Good g)(TA:sY g ks t)(j:Nat):(cD t j).length<=976:=by
 unfold cD;cases e:t[j]? with
 |none=>exact bj _|some r=>
  obtain⟨kr,QP,Vq,hk3,MO⟩:=TA.row j r e;have d5:sX g r.items:=by rw[hk3];exact Vq.ok.close
  exact jz d5.J9 λc hc=>oF G (d5.ok c hc)
theorem Qr(G:Good g)(TA:sY g ks t)(j:Nat):(fY t j).length<=276:=by
 unfold fY;cases e:t[j]? with
 |none=>exact bj _|some r=>obtain⟨kr,QP,Vq,hk3,MO⟩:=TA.row j r e;show r.moves.length<=276;rw[MO.fD];exact pX G _
theorem xW(G:Good g)(TA:sY g ks t)(j:Nat):(cA g t j).length<=976:=by unfold cA;rw[aq];exact aW (cp _ _) (EO G TA j)
theorem U0(G:Good g)(TA:sY g ks t)(fo:kO)(j b:Nat):(cH g fo t j b).length<=977:=by
 unfold cH;rw[aw];have h2:=aW (bL (λr=>if r==fF g then(if b==gR then some aem.accept else none)else if rp fo (aO g r).lhs b then some (aem.reduce r)else none) (cA g t j)) (xW G TA j);have h1:∀o:Option Nat,(match o with
  |some k=>match bK t j 1 k with|some j=>[Km j]|none=>[]
  |none=>[]).length<=1:= λo=>by
  cases o with
  |none=>exact bj _|some k=>
   show(match bK t j 1 k with
    |some j=>[Km j]|none=>[]).length<=1
   cases bK t j 1 k<;>simp
 have h3:=h1 (cf g b);exact aW (Nat.add_le_add h3 h2) (by decide)
theorem Qs(G:Good g)(h:t.length<=128):(dH g t).length<=33000:=by
 unfold dH;have De:=(eO G).2;have key:∀(f:Nat->List (Nat×Nat×Nat))(m:Nat),(∀i,(f i).length<=m)->∀n:Nat,((bE n).flatMap f).length<=n*m:=by
  intro f m hf n;induction n with
  |zero=>simp|succ n ih=>
   rw[gY (n:=n),pp,aw,Mp];have e2:(aen f [n]).length=(f n).length:=by simp
   have:=hf n;omega
 have h1:=key (λi=>((bE ((ag g).map (λp=>p.1)++[gR]).length).zip ((ag g).map (λp=>p.1)++[gR])).filterMap (λp=>if 1<(cH g (bO g) t i p.2).length then some (i,p.1,(cH g (bO g) t i p.2).length)else none)) 257 (λi=>by refine aW (bL _ _) ?_;rw[CZ,fh,Nat.min_self,aw,aq];simp only[aZ,g0];omega) t.length
 refine aW h1 ?_;omega
theorem U1(G:Good g)(TA:sY g ks t)(h:t.length<=128)(c:kS):(fb ⟨g,t⟩ c).2.length<=150000:=by
 cases c with
 |load x=>
  show(mV ⟨g,t⟩ x).2.length<=150000;unfold mV;split
  ·show 1<=150000;decide
  ·split
   ·show 1<=150000;decide
   ·split
    ·show 1<=150000;decide
    ·show 2<=150000;decide
 |classes=>have De:=(eO G).2;refine aW (su (q_ (f:= λp:Nat×Nat=>[p.1,p.2]) (n:=2) (λa=>aB _) _)) ?_;show 2*(ag g).length+2<=150000;omega|states=>show 2<=150000;decide|items i=>refine nY (by decide) λj=>aW (su (q_ (f:=jX) (n:=2) (λa=>aB _) _)) ?_;have:=EO G TA j;show 2*(cD t j).length+2<=150000;omega
 |moves i=>refine nY (by decide) λj=>aW (su (q_ (f:=dC) (n:=3) (λa=>aB _) _)) ?_;have:=Qr G TA j;show 3*(fY t j).length+2<=150000;omega
 |complete i=>exact nY (n:=150000) (by decide) λj=>aW (su (xW G TA j)) (by decide)
 |acts i b=>
  show(jg ⟨g,t⟩ i (λj=>if b<0 then[-5]else if 256<b then[-5]else 0::dA ((cH g (bO g) t j b.toNat).length::(cH g (bO g) t j b.toNat).flatMap pC))).length<=150000;refine nY (n:=150000) (by decide) λj=>?_;split
  ·decide
  ·split
   ·decide
   ·refine aW (su (q_ (f:=pC) (n:=2) (λa=>by cases a<;>exact aB _) _)) ?_;have:=U0 G TA (bO g) j b.toNat;show 2*(cH g (bO g) t j b.toNat).length+2<=150000;omega
 |go i x=>
  show(oy ⟨g,t⟩ i x).length<=150000;unfold oy;split
  ·decide
  ·split
   ·decide
   ·refine nY (by decide) λj=>?_;split
    ·decide
    ·show 2<=150000;decide
    ·show 2<=150000;decide
 |conflicts=>refine aW (su (q_ (f:= λc:Nat×Nat×Nat=>[c.1,c.2.1,c.2.2]) (n:=3) (λa=>aB _) _)) ?_;have:=Qs (t:=t) G h;show 3*(dH g t).length+2<=150000;omega|parse x=>
  show(l_ ⟨g,t⟩ x).length<=150000;unfold l_;split
  ·decide
  ·split
   ·decide
   ·split
    ·decide
    ·split
     ·rename_i l e;have:=Gj 4000 [0] 0 [] l e;refine aW (su this) (by decide)
     ·show 2<=150000;decide
     ·decide
end
inductive Qt:List Int->List kS->Prop
 |nil:Qt [] []
 |cons {ys dB:List Int} {c:kS} {cs:List kS}:Qo ys c dB->Qt dB cs->Qt ys (c::cs)
def L9:dw->List kS->List Int
 |_,[]=>[]|s,c::cs=>((fb s c).2.length:Int)::(fb s c).2++L9 (fb s c).1 cs
theorem XX{r x s:List Int}(h:Of r=some (x,s)):r=(x.length:Int)::(x++s):=by
 cases r with
 |nil=>cases h|cons n r=>
  have h':(if 0<=n/\n.toNat<=r.length then some (r.take n.toNat,r.drop n.toNat)else none)=some (x,s):=h;by_cases hc:0<=n/\n.toNat<=r.length
  ·rw[if_pos hc]at h';obtain⟨e1,e2⟩:=hJ (ax h');rw[<-e1,<-e2,uZ,a4,Nat.min_eq_left hc.2,jv hc.1]
  ·rw[if_neg hc]at h';cases h'
theorem U2{ys dB:List Int}{c:List (List Int)}(h:Kn eN ys=some (c,dB)):∃k,Qo ys k dB/\ah4 (ib c)=some k:=by
 cases ys with
 |nil=>cases h|cons p r=>
  have Cy:∀{r:List Int}{y:List (List Int)×List Int},mj 0 r=some y->y=([],r):= λh=>(ax h).symm;have U3:∀{r:List Int}{y:List (List Int)×List Int},mj 1 r=some y->∃x s,y=([x],s)/\r=(x.length:Int)::(x++s):= λ{r y} h=>by
   have h':(match Of r with
    |none=>none|some (x,s)=>match mj 0 s with
     |none=>none|some (xs,t)=>some (x::xs,t))=some y:=h
   cases e:Of r with
   |none=>rw[e]at h';cases h'|some z=>rw[e]at h';obtain⟨x,s⟩:=z;exact⟨x,s,(ax h').symm,XX e⟩
  have main:∀(n k:Nat),eN p=some (n,k)->n<=r.length/\∃y,mj k (r.drop n)=some y/\c=(p::r.take n)::y.1/\dB=y.2:= λn k e=>by
   have h':(match eN p with
    |none=>none|some (n,k)=>if r.length<n then none else match mj k (r.drop n)with
     |none=>none|some (xs,t)=>some ((p::r.take n)::xs,t))=some (c,dB):=h
   rw[e]at h';have h2:(if r.length<n then none else match mj k (r.drop n)with
    |none=>none|some (xs,t)=>some ((p::r.take n)::xs,t))=some (c,dB):=h'
   by_cases hn:r.length<n
   ·rw[if_pos hn]at h2;cases h2
   ·rw[if_neg hn]at h2;refine⟨by omega,?_⟩;cases e2:mj k (r.drop n)with
    |none=>rw[e2]at h2;cases h2|some y=>rw[e2]at h2;obtain⟨a,b⟩:=y;obtain⟨e3,e4⟩:=hJ (ax h2);exact⟨(a,b),rfl,e3.symm,e4.symm⟩
  by_cases p0:p=0
  ·subst p0;obtain⟨_,y,e1,rfl,rfl⟩:=main 0 1 (by decide);obtain⟨x,s,rfl,e⟩:=U3 e1;have e:r=_:=e;subst e;exact⟨_,.load x s,rfl⟩
  by_cases p1:p=1
  ·subst p1;obtain⟨_,y,e1,rfl,rfl⟩:=main 0 0 (by decide);obtain rfl:=Cy e1;exact⟨_,.classes _,rfl⟩
  by_cases p2:p=2
  ·subst p2;obtain⟨_,y,e1,rfl,rfl⟩:=main 0 0 (by decide);obtain rfl:=Cy e1;exact⟨_,.states _,rfl⟩
  by_cases p3:p=3
  ·subst p3;obtain⟨hn,y,e1,rfl,rfl⟩:=main 1 0 (by decide);obtain rfl:=Cy e1
   match r,hn with|i::r,_=>exact⟨_,.items i r,rfl⟩
  by_cases p4:p=4
  ·subst p4;obtain⟨hn,y,e1,rfl,rfl⟩:=main 1 0 (by decide);obtain rfl:=Cy e1
   match r,hn with|i::r,_=>exact⟨_,.moves i r,rfl⟩
  by_cases p5:p=5
  ·subst p5;obtain⟨hn,y,e1,rfl,rfl⟩:=main 1 0 (by decide);obtain rfl:=Cy e1
   match r,hn with|i::r,_=>exact⟨_,.complete i r,rfl⟩
  by_cases p6:p=6
  ·subst p6;obtain⟨hn,y,e1,rfl,rfl⟩:=main 2 0 (by decide);obtain rfl:=Cy e1
   match r,hn with|i::b::r,_=>exact⟨_,.acts i b r,rfl⟩| [_],hn=>exact absurd hn (by show¬2<=1;decide)
  by_cases p7:p=7
  ·subst p7;obtain⟨hn,y,e1,rfl,rfl⟩:=main 1 1 (by decide);obtain⟨x,s,rfl,e⟩:=U3 e1
   match r,hn,e with|i::r,_,e=>have e:r=_:=e;subst e;exact⟨_,.go i x s,rfl⟩
  by_cases p8:p=8
  ·subst p8;obtain⟨_,y,e1,rfl,rfl⟩:=main 0 0 (by decide);obtain rfl:=Cy e1;exact⟨_,.conflicts _,rfl⟩
  by_cases p9:p=9
  ·subst p9;obtain⟨_,y,e1,rfl,rfl⟩:=main 0 1 (by decide);obtain⟨x,s,rfl,e⟩:=U3 e1;have e:r=_:=e;subst e;exact⟨_,.parse x s,rfl⟩
  ·exfalso;have e:eN p=none:=by unfold eN;rw[if_neg p0,if_neg p1,if_neg p2,if_neg p3,if_neg p4,if_neg p5,if_neg p6,if_neg p7,if_neg p8,if_neg p9]
   have h':(match eN p with
    |none=>none|some (n,k)=>if r.length<n then none else match mj k (r.drop n)with
     |none=>none|some (xs,t)=>some ((p::r.take n)::xs,t))=some (c,dB):=h
   rw[e]at h';cases h'
theorem EQ:∀(f:Nat)(ys:List Int)(cs:List (List (List Int))),sW eN f ys=some cs->∃ds,Qt ys ds/\ds.length=cs.length/\∀s,AM (Yd i6 s (cs.map ib))=L9 s ds
 |f,[],cs,h=>by
  have:cs=[]:=by cases f<;>exact(ax h).symm
  subst this;exact⟨[],.nil,rfl,λs=>rfl⟩
 |0,_::_,cs,h=>by cases h|f+1,p::r,cs,h=>by
  have h':(match Kn eN (p::r)with
   |none=>none|some (c,t)=>match sW eN f t with
    |none=>none|some cs=>some (c::cs))=some cs:=h
  cases e:Kn eN (p::r)with
  |none=>rw[e]at h';cases h'|some z=>
   rw[e]at h';obtain⟨c,t⟩:=z;have h2:(match sW eN f t with
    |none=>none|some cs=>some (c::cs))=some cs:=h'
   cases e2:sW eN f t with
   |none=>rw[e2]at h2;cases h2|some cs'=>
    rw[e2]at h2;have h3:=ax h2;subst h3;obtain⟨ds,D,hl,hp⟩:=EQ f t cs' e2;obtain⟨k,hk,hc⟩:=U2 e;refine⟨k::ds,.cons hk D,by rw[aZ,aZ,hl],λs=>?_⟩;have es:i6 s (ib c)=((fb s k).1,(fb s k).2):=by unfold i6;rw[hc];rfl
    show AM ((i6 s (ib c)).2::Yd i6 (i6 s (ib c)).1 (cs'.map ib))=_;rw[es];unfold AM;rw[Ad];have:=hp (fb s k).1;unfold AM at this;rw[this];rfl
theorem JJ(h:H q=none):d6 [q] H=H:=by
 funext b;unfold d6;by_cases hb:b∈[q]
 ·rw[if_pos hb];have:b=q:=by simpa using hb
  rw[this,h]
 ·rw[if_neg hb]
theorem UY.seq{K:ak}{h l:ah}(f:UY h l H H'){C dx C' T6:ah}{fs fs':List (bT×V)}(hh:H h=some (.gc C dx fs))(hl:H l=some (.gc C' T6 fs')){xs:List V}(s:cv K H a xs):cv K H' a xs:=by
 rcases s with(s|⟨o,s⟩)|s
 ·exact .inl (.inl (f _ _ (nQ s hh (λz=>nomatch z)) (nQ s hl (λz=>nomatch z)) s))
 ·exact .inl (.inr ⟨o,f _ _ (nQ s hh (λz=>nomatch z)) (nQ s hl (λz=>nomatch z)) s⟩)
 ·exact .inr s
section
variable{X:Cx}{k j:Nat}{ps:List bT}{sp:Sp}{x:bT}{C:ah}{p pos:mZ}
theorem acP(G:YJ X.prog X.w X.K X.mg X.base x C k ps sp)(hr:lO j X.A)(hk:k+1<=j)(hg:Gl X x)(H_:(x==("__debug__":bT))=false:=by decide):PE X (.Call (.Name x p) [] [] pos) (MT C sp [] E0 Du):=by obtain⟨f,fd,M,F,h1,h3⟩:=G.ex;exact Sh M F (hr.kg hk) hg h1 h3 .nil Nb H_
end
abbrev Gk:dZ:=mm 95
inductive N8(K:ak)(vs:List V)(H:Hp)(Q:VK)(E_:XK):Prop
 |mk (na:ah) (xs:List Int) (ds:List kS) (_:vs=[.ref na]) (_:cv K H na (px xs)) (_:xs.length<=al) (_:Qt xs ds) (_:ds.length<=100) (_:DH H Q (L9 jG ds))
theorem Zx:bU ["calls","held","line","given","answer"] ["calls"] (a5 Gk):=ml
theorem acQ(F:lg K "answers" "answers" Gk f fd)(T:Gm mg)(TL:LnT K CL)(GH:YJ P w K mg base "Held" CH 6 ["self"] (JI CH C))(GL:YJ P w K mg base "Line" CL 1 ["self","numbers"] (Jf CL 1 ahn))(GE:MeB P w K mg base "at_end" CL 1 ["self"] (Zo K CL))(GA:jL P w K mg base "answer_of_call" 9 ["held","line"] (Zv K CH C CL)):dQ P w K mg base ki 10 f fd ["calls"] (N8 K):=by
 refine F.ok Zx (λvs H Q E h=>?_) (λgl A bN s H vs Q E hr h=>?_)
 ·obtain⟨na,xs,ds,rfl,_⟩:=h;rfl
 ·obtain⟨na,xs,ds,rfl,hN,hxl,Jz,acR,k⟩:=h;have nd:=Zx.nd;have hsz:al=16777216:=bR;refine⟨_,am (g9 1 nd (acP GH hr (by decide) rfl)) (am (g9 2 nd (No GL hr (by decide) rfl (af (pv 0) aD))) (am (g9 3 nd (cV aD)) (am (mN bi (o_ (lN (qz GE TL.cl hr (by decide) (pv 2)))) (am (g9 4 nd (cO GA.frm hr (aB _) rfl (af (pv 1) (af (pv 2) aD)))) (am (fz (i_ bf bv bx d_ (pv 3) (af (cg bM rfl T.fD bB (af (pv 4) aD)) aD))) (aJ (fz (i_ bf j7 qI Ev (pv 3) (af (pv 4) aD))))))) (aJ (bG (pv 3)))))),?_⟩;refine λh dh hh0 ano j8=>⟨h,dh,rfl,ai,λH1 R1 f1=>⟨rfl,?_⟩⟩;have s1:aE H H1:=aE.K1 hh0 ano (λb o e hb=>f1 b o hb e);refine⟨_,rfl,λl dl Av anp ahh=>⟨l,dl,[.ref na],rfl,rfl,ai,λH2 oR N4=>⟨rfl,?_⟩⟩⟩;have s2:aE H1 H2:=aE.K1 Av anp N4;have oR:H2 l=some (.gc CL dl (oK (.ref na) (nV 0))):=oR;have FX:H l=none:=s1.free Av;have R2:HeldAt CH C H2 jG h:=by obtain⟨dx,a,th,R⟩:=R1;exact⟨dx,a,th,R.keeps s2⟩
  have Vy:=s1.trans s2;refine⟨bj _,λgv ahA=>?_⟩;have hHg:H gv=none:=Vy.free ahA;have eb:d6 [gv] (aP H2 gv (.be []))=H2:=(mQ (by simp)).trans (JJ ahA);have hgv:aP H2 gv (.be []) gv=some (.be (px [])):=ai;generalize aP H2 gv (.be [])=H3 at eb hgv ⊢;refine⟨λn σ H'=>∃(st:dw)(cs:List kS)(p:Nat)(acc:List Int)(v4:Option V),n=cs.length/\σ=[some (.ref na),some (.ref h),some (.ref l),some (.ref gv),v4]/\H' gv=some (.be (px acc))/\HeldAt CH C (d6 [gv] H') st h/\d6 [gv] H' l=some (.gc CL dl (oK (.ref na) (nV p)))/\p<=xs.length/\Qt (xs.drop p) cs/\cs.length<=100/\acc.length<=150001*(100-cs.length)/\L9 jG ds=acc++L9 st cs/\cv K (d6 [gv] H') na (px xs)/\aE H (d6 [gv] H'),⟨ds.length,jG,ds,0,[],none,rfl,rfl,hgv,by rw[eb];exact R2,by rw[eb];exact oR,bj _,Jz,acR,bj _,rfl,by rw[eb];exact Vy.seq hN,by rw[eb];exact Vy⟩,?_⟩;rintro n σ H' ⟨st,cs,p,acc,v4,rfl,rfl,ahB,R',OH,VT,yA,ahC,Ph,Az,hN',sH⟩;have bs:=ci [gv] H';refine⟨_,rfl,l,dl,_,rfl,bs _ _ OH,acw,l,dl,na,p,xs,rfl,bs _ _ OH,bs.seq hN',_,rfl,?_⟩;by_cases hpe:p=xs.length
  ·rw[decide_eq_true hpe];refine bZ rfl ⟨_,rfl,k H' gv (sH.trans bs) hHg ?_⟩;rw[ahB,Az];rw[hpe,A6]at yA;generalize L7:([]:List Int)=ys at yA;cases yA with|nil=>rw[show L9 st []=[]from rfl,cz]|cons d _=>subst L7;cases d
  ·rw[decide_eq_false hpe];refine cF rfl ⟨_,λ_ _ z=>z,?_⟩;generalize L7:xs.drop p=ys at yA;cases yA with
   |nil=>exfalso;have:=congrArg i0 L7;rw[eC,g0]at this;omega|@cons _ dB c cs' hd anq=>
    rw[<-L7]at hd;refine⟨_,rfl,_,rfl,gv,px acc,ahB,h,l,dl,na,st,p,xs,dB,c,rfl,R',OH,hN',hxl,hd,λH4 q p' R4 NY XH anr f4 sm J'=> λhn4=>?_⟩;have dX:(fb st c).2.length<=150000:=by obtain⟨dx,a,th,R⟩:=R';obtain⟨ks,TA⟩:=R.tb;exact U1 (g:=st.grammar) (t:=st.table) R.Ql TA R.tJ c
    rw[aZ]at ahC Ph;have hqg:q≠gv:= λz=>by rw[z,hn4]at J';cases J'
    have e4:d6 [gv] H4=H4:=JJ hn4;refine⟨_,rfl,.inl ⟨rfl,_,cv.of ai⟩,_,rfl,q,_,rfl,.inl (cv.of (by rw[aF hqg];exact J')),gv,_,_,rfl,rfl,ai,by rw[qg];omega,?_⟩;refine⟨_,rfl,.inl ⟨rfl,_,cv.of ai⟩,_,rfl,gv,q,_,_,rfl,rfl,ai,by rw[aF hqg,aF hqg];exact J',by rw[aw,qg,qg];simp only[aZ,g0];omega,?_⟩;have XY:∀o o' o'':HO,d6 [gv] (aP (aP (aP H4 gv o) gv o') gv o'')=H4:= λo o' o''=>by rw[mQ (by simp),mQ (by simp),mQ (by simp),e4]
    refine⟨cs'.length,by rw[aZ];omega,(fb st c).1,cs',p',acc++(((fb st c).2.length:Int)::(fb st c).2),some (.ref q),rfl,rfl,?_,by rw[XY];exact R4,by rw[XY];exact NY,anr,by rw[XH];exact anq,by omega,?_,?_,?_,?_⟩
    ·rw[ai,qg];refine congrArg (λz=>some (HO.be z)) ?_;unfold px;rw[aK,aS,fg];rfl
    ·rw[aw,aZ];omega
    ·rw[Az,fg];rfl
    ·rw[XY];obtain⟨dx,a,th,R⟩:=R';exact f4.seq R.xf OH hN'
    ·rw[XY];exact λb o e=>f4 b o (aH e hh0) (aH e FX) (sH b o e)
inductive gm(K:ak)(x:bT)(st:dZ):Prop
 |mk (f:ah) (oc:aj) (od an:Option ah) (BU:Array (Option aj)) (kV doc pm gl ct:aj) (_:dM K cb x=some (some (.ref f))) (_:K.lookup f=some ⟨oc,od,.func (eZ x x (k6 st) (j_ st) (a5 st) .none kV doc pm an gl ct),BU⟩) (_:je K gl x=true) (_:fk K (.ref f)=true)
theorem ant{K:ak}{st:dZ}{oc:aj}{od an:Option ah}{BU:Array (Option aj)}{kV doc pm gl ct:aj}(a:dM K cb x=some (some (.ref f)))(l:K.lookup f=some ⟨oc,od,.func (eZ x x (k6 st) (j_ st) (a5 st) .none kV doc pm an gl ct),BU⟩)(c:je K gl x=true)(k:fk K (.ref f)=true):gm K x st:=⟨f,oc,od,an,BU,kV,doc,pm,gl,ct,a,l,c,k⟩
inductive AB(K:ak)(C:ah)(x qual:bT)(st:dZ):Prop
 |mk (f:ah) (oc:aj) (od an:Option ah) (BU:Array (Option aj)) (kV doc pm gl ct:aj) (_:eQ K (.ref C) x=some (some (.ref f))) (_:sE K (.ref f)=true) (_:K.lookup f=some ⟨oc,od,.func (eZ x qual (k6 st) (j_ st) (a5 st) .none kV doc pm an gl ct),BU⟩) (_:je K gl qual=true) (_:fk K (.ref f)=true)
theorem anu{K:ak}{C:ah}{qual:bT}{st:dZ}{oc:aj}{od an:Option ah}{BU:Array (Option aj)}{kV doc pm gl ct:aj}(a:eQ K (.ref C) x=some (some (.ref f)))(i:sE K (.ref f)=true)(l:K.lookup f=some ⟨oc,od,.func (eZ x qual (k6 st) (j_ st) (a5 st) .none kV doc pm an gl ct),BU⟩)(c:je K gl qual=true)(k:fk K (.ref f)=true):AB K C x qual st:=⟨f,oc,od,an,BU,kV,doc,pm,gl,ct,a,i,l,c,k⟩
structure L_(K:ak)(x:bT)(C:ah):Prop where
 xf:dM K cb x=some (some (.ref C))
 pg:nz K C bT.empty=true
 hd:qk K C=true
 po:ye K C=true
 sa:eQ K (.ref C) "__setattr__"=some (some (.builtin "object.__setattr__"))
 mks:AI K C=true
 kc:fk K (.ref C)=true
theorem L_.cls{K:ak}{C:ah}(h:L_ K x C):KY K C:=⟨h.pg,h.hd,h.po,h.sa⟩
section
variable{P:a7}{w:bP}{K:ak}{mg:bT->Option aj}{base h:cX}{C:ah}{x qual:bT}{st:dZ}{k:Nat}{ps:List bT}{sp:Sp}
theorem lnc{p:bT}{ps:List bT}{C:List aj->Prop}(h:∀a r,r.length=ps.length->C (a::r)):∀us,us.length=(p::ps).length->C us
 | [],e=>by cases e|a::r,e=>h a r (Nat.succ.inj e)
theorem ln0{C:List aj->Prop}(h:C []):∀us,us.length=([]:List bT).length->C us
 | [],_=>h|_::_,e=>by cases e
theorem gm.n4(D:gm K x st)(P:a7)(w:bP)(base:cX)(X:K.In h)(G:h.Ns cb mg)(ok:∀(f:ah)(fd:fR),lg K x x st f fd->dQ P w K mg base ki k f fd ps sp)(hb:∀(kV doc pm:aj)(an:Option ah)(gl ct:aj)(us:List aj),us.length=ps.length->Mn (eZ x x (k6 st) (j_ st) (a5 st) .none kV doc pm an gl ct) ⟨us,[]⟩=i4 (ps.zip us):=by intro _ _ _ _ _ _;(repeat refine lnc λ_=>?_);exact ln0 rfl):jL P w K mg base x k ps sp:=by obtain⟨f,oc,od,an,BU,kV,doc,pm,gl,ct,a,l,c,kp⟩:=D;have F:=FP (st:=st) l c kp;exact⟨f,_,ok _ _ F,vF X G a,kp,F.xh hb⟩
theorem AB.meB(D:AB K C x qual st)(P:a7)(w:bP)(base:cX)(mg:bT->Option aj)(ok:∀(f:ah)(fd:fR),lg K x qual st f fd->dQ P w K mg base ki k f fd ps sp)(hb:∀(kV doc pm:aj)(an:Option ah)(gl ct:aj)(us:List aj),us.length=ps.length->Mn (eZ x qual (k6 st) (j_ st) (a5 st) .none kV doc pm an gl ct) ⟨us,[]⟩=i4 (ps.zip us):=by intro _ _ _ _ _ _;(repeat refine lnc λ_=>?_);exact ln0 rfl):MeB P w K mg base x C k ps sp:=by obtain⟨f,oc,od,an,BU,kV,doc,pm,gl,ct,a,i,l,c,kp⟩:=D;have F:=FP (st:=st) l c kp;exact⟨f,_,⟨a,i,kp⟩,ok _ _ F,F.xh hb⟩
theorem AB.mkB{cx:bT}(D:AB K C "__init__" qual st)(P:a7)(w:bP)(base:cX)(HC:L_ K cx C)(X:K.In h)(G:h.Ns cb mg)(ok:∀(f:ah)(fd:fR),lg K "__init__" qual st f fd->dQ P w K mg base ki k f fd ps sp)(hb:∀(kV doc pm:aj)(an:Option ah)(gl ct:aj)(us:List aj),us.length=ps.length->Mn (eZ "__init__" qual (k6 st) (j_ st) (a5 st) .none kV doc pm an gl ct) ⟨us,[]⟩=i4 (ps.zip us):=by intro _ _ _ _ _ _;(repeat refine lnc λ_=>?_);exact ln0 rfl):YJ P w K mg base cx C k ps sp:=by obtain⟨f,oc,od,an,BU,kV,doc,pm,gl,ct,a,i,l,c,kp⟩:=D;have F:=FP (st:=st) l c kp;exact⟨f,_,⟨HC.mks,a,i,HC.kc⟩,ok _ _ F,vF X G HC.xf,F.xh hb⟩
end
inductive k8(K:ak)(x:bT)(i:Int):Prop
 |mk (u:_) (_:dM K cb x=some (some u)) (_:RelV (.int i) u)
theorem anz{K:ak}{i:Int}{t:Nat}(a:dM K cb x=some (some (vD i t))):k8 K x i:=⟨_,a,⟨t,rfl⟩⟩
theorem k8.lR{K:ak}{h:cX}{mg:bT->Option aj}{i:Int}(D:k8 K x i)(X:K.In h)(G:h.Ns cb mg):ly mg x i:=by obtain⟨u,a,r⟩:=D;exact⟨u,vF X G a,r⟩
structure ahD(K:ak):Prop where
 nt:k8 K "NONTERMINAL" (0)
 rg:k8 K "RANGE" (1)
 mn:k8 K "MOST_NONTERMINALS" (20)
 mr:k8 K "MOST_RULES" (60)
 ms:k8 K "MOST_SYMBOLS" (8)
 lb:k8 K "LAST_BYTE" (255)
 te:k8 K "THE_END" (256)
 mst:k8 K "MOST_STATES" (128)
 mo:k8 K "MOVE_ON" (0)
 pt:k8 K "PUT_TOGETHER" (1)
 ac:k8 K "ACCEPT" (2)
 r1:k8 K "WRONG_NUMBER" (-1)
 r2:k8 K "NO_GRAMMAR_ROW" (-2)
 r3:k8 K "TOO_LONG" (-3)
 r4:k8 K "NO_SUCH_STATE" (-4)
 r5:k8 K "NO_SYMBOL" (-5)
 r6:k8 K "TOO_MANY_STATES" (-6)
 r7:k8 K "HAS_CONFLICTS" (-7)
 r8:k8 K "TOO_MANY_STEPS" (-8)
 mnu:k8 K "MOST_NUMBERS" (200)
 mby:k8 K "MOST_BYTES" (200)
 mss:k8 K "MOST_STEPS" (4000)
 c0:k8 K "LOAD" (0)
 c1:k8 K "CLASSES" (1)
 c2:k8 K "STATES" (2)
 c3:k8 K "ITEMS" (3)
 c4:k8 K "MOVES" (4)
 c5:k8 K "COMPLETE" (5)
 c6:k8 K "ACTS" (6)
 c7:k8 K "GO" (7)
 c8:k8 K "CONFLICTS" (8)
structure Zy(K:ak):Prop where
 fD:dM K cb "len"=some none
 tuple:dM K cb "tuple"=some none
 list:dM K cb "list"=some none
 sum:dM K cb "sum"=some none
 all:dM K cb "all"=some none
 any:dM K cb "any"=some none
 xB:dM K cb "reversed"=some none
 range:dM K cb "range"=some none
 sorted:dM K cb "sorted"=some none
 min:dM K cb "min"=some none
 max:dM K cb "max"=some none
 nu:dM K cb "enumerate"=some none
theorem ahE{K:ak}{h:cX}{mg:bT->Option aj}(I:ahD K)(N:Zy K)(X:K.In h)(G:h.Ns cb mg):Gm mg:=⟨I.nt.lR X G,I.rg.lR X G,I.mn.lR X G,I.mr.lR X G,I.ms.lR X G,I.lb.lR X G,I.te.lR X G,I.mst.lR X G,I.mo.lR X G,I.pt.lR X G,I.ac.lR X G,I.r1.lR X G,I.r2.lR X G,I.r3.lR X G,I.r4.lR X G,I.r5.lR X G,I.r6.lR X G,I.r7.lR X G,I.r8.lR X G,I.mnu.lR X G,I.mby.lR X G,I.mss.lR X G,I.c0.lR X G,I.c1.lR X G,I.c2.lR X G,I.c3.lR X G,I.c4.lR X G,I.c5.lR X G,I.c6.lR X G,I.c7.lR X G,I.c8.lR X G,dG X G N.fD,dG X G N.tuple,dG X G N.list,dG X G N.sum,dG X G N.all,dG X G N.any,dG X G N.xB,dG X G N.range,dG X G N.sorted,dG X G N.min,dG X G N.max,dG X G N.nu⟩
structure anA(K:ak):Prop where
 DJ:gm K "read_symbol" ur
 DK:gm K "told_length" Np
 JK:gm K "read_rule" yT
 Cz:gm K "read_grammar" sj
 JL:gm K "own_rules" abb
 Gn:gm K "end_column" abd
 JM:gm K "span_bits" Ti
 Go:gm K "start_rule" Li
 JN:gm K "has_state" abg
 DL:gm K "all_covered" W2
 rb:gm K "nonterminals_covering" yW
 wj:gm K "productive_rules" Nu
 qB:gm K "reachable_nonterminals" Lm
 L':gm K "ahead_of" Lo
 Gp:gm K "first_sets" Lq
 y8:gm K "follow_in_rule" abn
 DM:gm K "follow_sets" Tv
 JO:gm K "ranges_of" AY
 xX:gm K "changes_at_cuts" abu
 Gq:gm K "classes_of" Ck
 Gr:gm K "columns_of" TN
 tm:gm K "symbol_over_classes" TW
 uC:gm K "rules_over_classes" NE
 sv:gm K "table_without_states" abE
 DO:gm K "next_symbol" T7
 DP:gm K "one_further" abH
 DQ:gm K "whole_rules" F7
 DR:gm K "first_items" A0
 U4:gm K "closed" F9
 oM:gm K "kernels_over_nonterminals" sKN
 sw:gm K "kernels_over_classes" sKC
 Gs:gm K "moves_from" LL
 Gu:gm K "make_table" Ut
 Gv:gm K "columns_in" Gc
 tu:gm K "columns_that_follow" NU
 xY:gm K "things_in_state" LR
 Gw:gm K "all_things" XC
 xZ:gm K "conflicts_among" UC
 JP:gm K "is_symbol" LY
 CA:gm K "read_symbols" ack
 acS:gm K "walk" UF
 anB:gm K "go" sGo
 CB:gm K "put_together" acn
 CC:gm K "read_columns" acp
 XZ:gm K "parse" UK
 acT:gm K "load" UQ
 JQ:gm K "things_of" acC
 acU:gm K "told" acE
 Gx:gm K "told_moves" N5
 x0:gm K "answer_of_state" acH
 acV:gm K "acts" UW
 y9:gm K "answer_of_call" acK
structure ahF(K:ak)(Cg C CH CL:ah):Prop where
 CD:AB K Cg "__init__" "Grammar.__init__" FT
 Gy:AB K C "__init__" "Table.__init__" F6
 JR:AB K CL "__init__" "Line.__init__" Ge
 U5:AB K CL "at_end" "Line.at_end" acy
 acW:AB K CL "take" "Line.take" UM
 Ma:AB K CL "take_row" "Line.take_row" acA
 JS:AB K CH "__init__" "Held.__init__" Gg
structure ahG(K:ak)(Cg C CH CL:ah):Prop where
 x6:ff K Cg "nonterminals"
 Mb:ff K Cg "rules"
 y_:ff K C "nonterminals"
 Qu:ff K C "rules"
 JT:ff K C "classes"
 JU:ff K C "columns"
 Mc:ff K C "states"
 Qv:ff K C "moves"
 Qw:ff K C "whole"
 Md:ff K CH "table"
 JV:ff K CH "things"
 Gz:ff K CL "numbers"
 Me:ff K CL "place"
theorem acX{P:a7}{w:bP}{K:ak}{h:cX}{mg:bT->Option aj}{fa Cg C CH CL:ah}(X:K.In h)(G:h.Ns cb mg)(hfa:mg "answers"=some (.ref fa)){oc:aj}{od an:Option ah}{BU:Array (Option aj)}{kV doc pm gl ct:aj}(HCg:L_ K "Grammar" Cg)(HC:L_ K "Table" C)(HCH:L_ K "Held" CH)(HCL:L_ K "Line" CL)(I:ahD K)(N:Zy K)(A:ahG K Cg C CH CL)(M:ahF K Cg C CH CL)(D:anA K)(n1:CH≠C)(nLC:CL≠C)(nLH:CL≠CH)(aa:dM K cb "answers"=some (some (.ref f)))(la:K.lookup f=some ⟨oc,od,.func (eZ "answers" "answers" (k6 Gk) (j_ Gk) (a5 Gk) .none kV doc pm an gl ct),BU⟩)(ca:je K gl "answers"=true)(ka:fk K (.ref f)=true):∃fd:fR,(∀(s:aA)(us:List aj),us.length=(["calls"]:List bT).length->Kg s fd ⟨us,[]⟩ ((["calls"]:List bT).zip us))/\∀base:cX,K.In base->base.Ns cb mg->dQ P w K mg base ki 10 fa fd ["calls"] (N8 K):=by
 have e:=hfa.symm.trans (vF X G aa);cases e;have F:=FP (st:=Gk) la ca ka;refine⟨eZ "answers" "answers" (k6 Gk) (j_ Gk) (a5 Gk) .none kV doc pm an gl ct,λs us hu=>match us,hu with| [_],_=> .of_eq rfl,λbase _ _=>?_⟩
 ·have T:Gm mg:=ahE I N X G;have TG:GrT K Cg:=⟨HCg.cls,A.x6,A.Mb⟩;have TT:AX K C:=⟨HC.cls,A.y_,A.Qu,A.JT,A.JU,A.Mc,A.Qv,A.Qw⟩;have TH:HdT K C CH:=⟨HCH.cls,A.Md,A.JV,n1⟩;have TL:LnT K CL:=⟨HCL.cls,A.Gz,A.Me⟩;have DS:=D.DJ.n4 P w base X G λ_ _ F=>Ca F T;have DT:=D.DK.n4 P w base X G λ_ _ F=>WX F T;have JW:=D.JK.n4 P w base X G λ_ _ F=>FS F T DS;have CF:=M.CD.mkB P w base HCg X G λ_ _ F=>Px F TG;have CG:=D.Cz.n4 P w base X G λ_ _ F=>Au F T JW DT CF;have z6:=D.JL.n4 P w base X G λ_ _ F=>abc F TT;have sx:=D.Gn.n4 P w base X G λ_ _ F=>abe F T TT;have JX:=D.JM.n4 P w base X G λ_ _ F=>W0 F;have x8:=D.Go.n4 P w base X G λ_ _ F=>Tk F T TT;have uD:=D.JN.n4 P w base X G λ_ _ F=>abh F T TT;have vA:=D.DL.n4 P w base X G λ_ _ F=>abi F T;have l4:=D.rb.n4 P w base X G λ_ _ F=>Jg F T TT z6 vA;have wk:=D.wj.n4 P w base X G λ_ _ F=>W3 F l4 z6 vA;have qC:=D.qB.n4 P w base X G λ_ _ F=>Tp F T;have CI:=D.L'.n4 P w base X G λ_ _ F=>Ts F T JX;have GB:=D.Gp.n4 P w base X G λ_ _ F=>Tt F T TT CI;have zb:=D.y8.n4 P w base X G λ_ _ F=>abo F T CI;have DU:=D.DM.n4 P w base X G λ_ _ F=>abq F T TT wk qC l4 GB sx zb;have JY:=D.JO.n4 P w base X G λ_ _ F=>PJ F T;have x9:=D.xX.n4 P w base X G λ_ _ F=>abw F T;have GD:=D.Gq.n4 P w base X G λ_ _ F=>Lv F T JY x9;have GJ:=D.Gr.n4 P w base X G λ_ _ F=>W_ F T;have tw:=D.tm.n4 P w base X G λ_ _ F=>W' F T;have uE:=D.uC.n4 P w base X G λ_ _ F=>Xb F T tw;have U6:=M.Gy.mkB P w base HC X G λ_ _ F=>PQ F TT GJ;have sB:=D.sv.n4 P w base X G λ_ _ F=>abF F T TG GD uE U6;have nG:=D.DO.n4 P w base X G λ_ _ F=>Xd F T TT;have vB:=D.DP.n4 P w base X G λ_ _ F=>abI F;have DV:=D.DQ.n4 P w base X G λ_ _ F=>Ua F nG;have DW:=D.DR.n4 P w base X G λ_ _ F=>PY F T TT;have JZ:=D.U4.n4 P w base X G λ_ _ F=>PZ F T nG DW;have oN:=D.oM.n4 P w base X G λ_ _ F=>agd F T nG vB;have sC:=D.sw.n4 P w base X G λ_ _ F=>agl F T nG vB;have GK:=D.Gs.n4 P w base X G λ_ _ F=>Ul F T TT oN sC JZ;have x_:=D.Gu.n4 P w base X G λ_ _ F=>Xt F T TT sB x8 JZ GK DV;have GQ:=D.Gv.n4 P w base X G λ_ _ F=>Uv F T;have tz:=D.tu.n4 P w base X G λ_ _ F=>Xz F sx DU GQ;have ya:=D.xY.n4 P w base X G λ_ _ F=>Uz F T TT x8;have GU:=D.Gw.n4 P w base X G λ_ _ F=>acj F T TT tz ya;have qh:=D.xZ.n4 P w base X G λ_ _ F=>XD F T;have J0:=D.JP.n4 P w base X G λ_ _ F=>UE F T TT;have CJ:=D.CA.n4 P w base X G λ_ _ F=>acl F T TT J0;have acY:=D.acS.n4 P w base X G λ_ _ F=>XG F T TT;have anC:=D.anB.n4 P w base X G λ_ _ F=>ahc F T uD CJ acY;have CK:=D.CB.n4 P w base X G λ_ _ F=>aco F T TT;have CM:=D.CC.n4 P w base X G λ_ _ F=>acq F T CK;have X0:=D.XZ.n4 P w base X G λ_ _ F=>act F T TT qh sx CM;have X1:=M.JR.mkB P w base HCL X G λ_ _ F=>Qk F TL;have Qx:=M.U5.meB P w base mg λ_ _ F=>acz F T TL;have N9:=M.acW.meB P w base mg λ_ _ F=>XO F TL;have J1:=M.Ma.meB P w base mg λ_ _ F=>acB F TL N9;have X2:=M.JS.mkB P w base HCH X G λ_ _ F=>Qm F TH CF x_;have acZ:=D.acT.n4 P w base X G λ_ _ F=>XS F T TT TH CG x_;have z7:=D.JQ.n4 P w base X G λ_ _ F=>acD F TH GU;have GX:=D.acU.n4 P w base X G λ_ _ F=>acF F T;have GY:=D.Gx.n4 P w base X G λ_ _ F=>XT F T GX;have yb:=D.x0.n4 P w base X G λ_ _ F=>acI F T TT uD GX GY;have ac0:=D.acV.n4 P w base X G λ_ _ F=>XV F T TT TH uD z7 GX;have zc:=D.y9.n4 P w base X G λ_ _ F=>acL F T TT TH TL nLC nLH N9 J1 acZ GX yb ac0 anC qh z7 X0;exact acQ F T TL X2 X1 Qx zc
end Mv
namespace Mv
open PySem PySem.Spec PyProof.Rows L2 Mt
open PySem.W (Codec)
variable{P:a7}{X:Cx}{pos:mZ}{x:bT}{a f C q d:ah}{b i k c:Nat}{r:eA}{H H' H0:Hp}{o:HO}{l cN ks s:List Nat}{qs S:List ah}{rs:List (Nat×Nat)}{α β:Type}{fd:fR}{K:ak}{g:aL}{t:cK}{w:bP}{T:Nat->List (Nat×Nat)}{ad:Nat->ah}
theorem U7{p:ah}{a:Codec.denoteAll bD.args}(hs:cv K H p (a.1.map V.int))(S1:Codec.withinAll bD.args a=true)(AC:Codec.app bD.args bD.asked a=true):N8 K [.ref p] H (λv H'=>Dw K H' v (bD.ret.enc (Codec.app bD.args bD.f a))) λ_ _ _=>False:=by
 have q:((Codec.inLen 0 17000 a.1&&a.1.all (Codec.inInt (-1000000000000000000) 1000000000000000000))&&true)=true:=S1;rw[bg,bg]at q;have dX:=(Codec.inNat_iff.mp q.1.1).2;have hsz:al=16777216:=bR;have AC:EZ a.1=true:=AC;unfold EZ Q8 at AC;cases e:sW eN (i0 a.1) a.1 with
 |none=>rw[e]at AC;cases AC|some cs=>
  rw[e]at AC;have AC:(PyFlat.atMost 100 (cs.map ib)&&ah5 (cs.map ib))=true:=AC;rw[bg]at AC;have acR:(cs.map ib).length<=100:=of_decide_eq_true AC.1;rw[aq]at acR;obtain⟨ds,D,hl,hp⟩:=EQ _ _ _ e;refine⟨p,a.1,ds,rfl,hs,by have:i0 a.1<=17000:=dX;omega,D,by omega,λH' r s Ax hr=>?_⟩;have ea:Codec.app bD.args bD.f a=L9 jG ds:=by show Og a.1=_;unfold Og Q8;rw[e];exact hp jG
  rw[ea];exact .be (L2.cv.of hr) (L2.Ni _)
end Mv
structure PySem.W.Fast:Prop where
 (tw13474648854236734782 tw16644987812760542893 tw14545294623715155421 tw6245276348209885071 tw457848782527274451 tw5802304175411246703 tw17212343730742589033 tw9402363535960815822 tw3444983412832371016 tw17475384833539577606 tw14186918418606876673 tw10846106570450226991 tw1794349572173283539 tw6473439450801189707 tw2667233799342653744 tw13598155368670323625 tw15877207255315138645 tw2415613504388131294 tw8500167659988954362 tw13405095259124338956 tw14025861120437870596 tw160938978153860831 tw10732291810385400791 tw10113104280401169216 tw9308419373018455876 tw17267261841090769767 tw949886924583722994 tw964978265211878792 tw473410086086796591 tw8445752922601004924 tw15829888381573989954 tw14458651060912461009 tw15691660039213208992 tw327537473760422852 tw4371377778547067177 tw18350717146365465963 tw12380475564715691351 tw7904699477114818480 tw9617645261706313594 tw5825226885418524072 tw274735072318205617 tw9203015144282262350 tw8813755035565300200 tw4365715234954296419 tw336501847892124506 tw18112899435226975467 tw2342084872069411381 tw62422122432310346 tw5331138629996064502 tw4925127104931418089 tw11458691360405573646 tw11859730054280559360 tw2243363576127946548 tw3990836394081746187 tw12065947422947795080 tw16266463484260655579 tw16224551860513836134 tw8304204065173390894 tw16272280694707664073 tw17708602483174324469 tw8239164964964676790 tw9399215528826451825 tw2207262548988220586 tw18086408548286990193 tw18067341733154748401 tw8485168787801610726 tw8010150647204908124 tw7455956494755997814 tw17331284668824087758 tw3165500406384601785 tw14773784572373762884 tw11415805757774443756 tw7627682723291490636 tw2332079725586205560 tw4854380217046618957 tw10427269097526913331 tw12903119487602052669 tw6830390733590119670 tw13307600873332864748 tw4496948506754528500 tw17471862110335639353 tw68244840477783215 tw309360411533789436 tw1493645382907072953 tw5895834213524387694 tw6753715456980693970 tw12842770867003305654 tw7415370666368911311 tw9432957170248947958 tw5744113910632310298 tw14407144791506933032 tw6148881864355837153 tw5987499876329330737 tw8392204491575244594 tw17277556192321518259 tw14478081757978642991 tw8098363201783119334 tw3119055931651182174 tw10474927470106998291 tw9927929625276531812 tw7574002110473996451 tw13781316928318181756 tw781491372843360106 tw4173232475654101792 tw7756454525689469322 tw14165255888447291223 tw7038385771612256833 tw5423472477814893891 tw480750712606999270 tw7773774071660417739 tw3045927004786076646 tw16962482512034978376 tw16505418499138899242 tw7291550048655510635 tw14420081763649315267 tw16449621430319108240 tw2323261695379631966 tw1437394002137170905 tw5185427011559966194 tw7415892296127107027 tw5431427457378310602 tw9635999429411462901 tw715701533890216354 tw3307144486344605815 tw1397653309006372385 tw315860750835241562 tw15923019695375909503 tw10773714877369985014 tw1160069899935180117 tw1730705839604005510 tw15016456994028353907 tw11989354384999878283 tw1184648766447601808 tw15618170979495445273 tw1485337910639477389 tw12416711633165880816 tw15712238511495427133 tw10982702044565676161 tw10825579770612488294 tw6228817444814105216 tw3581575734726668339 tw15674647587847084600 tw3194037964374555695 tw17414820667306230997 tw16152419803117514794 tw13356805268428470639 tw6068926862181406134 tw883871082081069344 tw8954151190317156399 tw3441421145137416612 tw7494328731185785327 tw13130282533172931205 tw10421343108070735337 tw3820429549173457227 tw1926602240988141119 tw17318852771360675442 tw14145324617084683758 tw8890233950024676309 tw13534346065851370039 tw2121437016134248073 tw16432911772463622933 tw12690488499445932223 tw10340626822727761286 tw4083951647719649151 tw15456214816366417064 tw10030909664546431527 tw12852351195200403288 tw8508286542473695532 tw16897161216156782928 tw5261500744795733593 tw4172882454253739525 tw6783319216848645000 tw1954664648009836004 tw4968473398212427873 tw5707019161017677596 tw146034030862581987 tw8501211758573332052 tw4595707985054199340 tw8468038533936794986 tw1525103046381857525 tw11174033144530202062 tw11944621644469912157 tw10300759259056447820 tw2503601757487253001 tw4026282353747634621 tw14956589656054548237 tw12461755091066489161 tw1764615142816140207 tw18074139529459996703 tw15560098139274207435 tw17801373165848404234 tw17255165993127945055 tw10551941457005884659 tw16082000647660715119 tw2465390874372740202 tw13643964526871366564 tw7146950806565976410 tw5938604532875367600 tw1129231725482789240 tw7374821254688032977 tw785511779437588758 tw15371077977342397469 tw5671092604814938989 tw3949221149776046470 tw13418128316546855488 tw2048036862018460352 tw11012497961743349877 tw10558688993343339039 tw438237588212407989 tw317965498849628505 tw2424144180617303946 tw4399551954141593388 tw5556810833575885473 tw8733840837684712481 tw3283922189836025724 tw12893191698007879286 tw17171888202451247939 tw9950549124702396950 tw5857915271634706503 tw1000058119719270145 tw2933531326496703467 tw1910739160553210744 tw7049371717533858029 tw12809714353891456423 tw15397854685343805051 tw7924202401341929013 tw12343025161858572400 tw614235901950921362 tw8104447047004196881 tw7965054419943810552 tw8470467113535814080 tw15446775443548587799 tw9043226477111500727 tw18043633102435721588 tw12598728406157932751 tw6720129650253185323 tw9629536349974699780 tw5876533406877845140 tw7246767762443823889 tw15111754676522887266 tw10722674964049103888 tw18346356528341270592 tw11684422052913932695 tw13626127613595590571 tw6540686734027445723 tw1598046342519386623 tw5867258657910242753 tw13973160411795547681 tw9391526614787879606 tw15016278928936671621 tw17997192534214926348 tw8314205081223343754 tw3712359856635646492 tw5404900606926279881 tw13501150500869974264 tw16418241429270474925 tw3457937296368046959 tw16626513562035038217 tw14893457449127269001 tw2187256411206972973 tw3161280326404131017 tw4443185660644268846 tw1509099592838510105 tw1013490026689542630 tw7195818127270746422 tw15309571925114297666 tw14958040202893850428 tw4760637348319844225 tw17784915909153658193 tw6169681870449219850 tw5052088860764044801 tw7952770064281481693 tw13791537924145495735 tw3011701097462251231 tw10427870795040472102 tw4758185048898671895 tw4238951644112422706 tw15667387688123875769 tw6069399451686893076 tw9938588503605919392 tw13447165442089914823 tw14751361150749054329 tw8944336200031800810 tw5704481486203254532 tw5996859115379476212 tw8951209827782761204 tw18426253832977546761 tw8700753825007022831 tw15829914344545076183 tw4314691246741483103 tw18117502050938943842 tw4951947384593485812 tw6038059625368668277 tw1643426642686208381 tw5190916257659807752 tw11849045279202337861 tw7968220519200550029 tw17281727757934730460 tw11274428994255664917 tw905261824193250472 tw2067862442839882083 tw6046955375058780192 tw12298568465563077437 tw9731251826096077736 tw15845394318795232238 tw2616937707410018260 tw15035388800885815716 tw14486134320577811755 tw10112546686888687017 tw2792960861042668533 tw1360205407440630662 tw4394326437811791886 tw17994879509360979049 tw7166022679654980312 tw9159088484313977481 tw1762890494111975849 tw5392602139483656084 tw636958730305271901 tw3903723410512678280 tw4265030836083880189 tw1625360094639524613 tw3259049264648982992 tw11347560477011230942 tw10562322630869768738 tw5780018445605045434 tw14215002437042393916 tw2956874580797802454 tw15215337435726719955 tw13217095953129974637 tw16238919181738419109 tw3962105736313476705 tw4248134731569479658 tw2268511698792161751 tw4086385368963395274 tw10342007545082242523 tw312554752693631476 tw12475278461564292201 tw3908532324606286548 tw6093020655094435097 tw4222521799411983008 tw2139839546090257723 tw17561866207018362804 tw1529014111765272821 tw471364421966388361 tw1838461449112365871 tw17634151265118289382 tw728411957367060363 tw9472818604742406344 tw13888650005404096674 tw6702700815300050542 tw2505382196799844965 tw9591820215784818406 tw4388128156846623497 tw593338609555984507 tw2679027806089648815 tw12744732776648827299 tw14845059264324312345 tw9023585485607038532 tw6198196707817603648 tw9652900659392411137 tw5858105794211168064 tw13639165719179206491 tw7918568577498578050 tw9679663023581175627 tw1991069443487004092 tw16013446206375065056 tw12873922415445951996 tw12409995992578996932 tw925039220328259767 tw6117043824698949767 tw9991034304250481617 tw3694454569598217946 tw14779779157556434262 tw3969862026856858132 tw1499804424218503354 tw15583334565833575163 tw1022786249247850540 tw11511209806233020802 tw6233713411144086194 tw13933000246594024716 tw14549932717045722450 tw3058002126943718585 tw2493127524749973257 tw10408987065613785093 tw696138197925029880 tw17971703917125968151 tw8391606328713286693 tw9521175295404782210 tw3607697507163597404 tw4504128630694371999 tw12671910136739646132 tw15728871415825832568 tw15993563985310735993 tw7018462229479547307 tw6991293466707083367 tw14458635493665863413 tw103828347830411345 tw1754307712815535423 tw17786422510589253412 tw4675580592093437592 tw16915832680744839720 tw18335757508871351884 tw12190375263411816392 tw10509793945697056433 tw1066570196201103633 tw9722537576479663432 tw16438640360596601362 tw18286929485944892360 tw13935126684223481311 tw13701305072535747146 tw13882696981723515624 tw6270498552116534379 tw2219192193409077161 tw4130403815719971086 tw13929306653562350562 tw13863595262629439547 tw16639136944710737912 tw13254226096273343087 tw5549989802186737204 tw17913566255906820952 tw2430678536627993045 tw7637336356980013647 tw13977437320475005935:True)
open PySem PySem.W PyProof.Rows
theorem PySem.Challenge.cw_movetables_s01_answers_holds : PySem.Challenge.rw_movetables_s01_answers.Holds := by
 w_on;k_headS;(case hw=>exact⟨[.list [.int 2]],by decide+kernel,by decide+kernel⟩)
 k_fillS
 refine L2.Lc (r:=bD) (k:=10) (CX:=L2.ki) (ps:=["calls"]) (sp:=Mv.N8) (by decide+kernel) rfl rfl ⟨rfl,by decide,by decide⟩ (λw h Y=>PySem.W.kIn_of Y) ?F ?S (λ_ _ _ _ z=>z)
 case F=>
  intro w mg fa h Y KX G hmg;refine' Mv.acX KX G hmg ?zg ?zt ?zh ?zl ?zi ?zn ?za ?zm ?zd ?z1 ?z2 ?z3 ?y1 ?y2 ?y3 ?y4
  (case zg=>(refine'⟨?w1,?w2,?w3,?w4,?w5,?w6,?w7⟩;(case w1=>k_is);(case w2=>k_is);(case w3=>k_is);(case w4=>k_is);(case w5=>k_is);(case w6=>k_is);(case w7=>k_is)))
  (case zt=>(refine'⟨?w1,?w2,?w3,?w4,?w5,?w6,?w7⟩;(case w1=>k_is);(case w2=>k_is);(case w3=>k_is);(case w4=>k_is);(case w5=>k_is);(case w6=>k_is);(case w7=>k_is)))
  (case zh=>(refine'⟨?w1,?w2,?w3,?w4,?w5,?w6,?w7⟩;(case w1=>k_is);(case w2=>k_is);(case w3=>k_is);(case w4=>k_is);(case w5=>k_is);(case w6=>k_is);(case w7=>k_is)))
  (case zl=>(refine'⟨?w1,?w2,?w3,?w4,?w5,?w6,?w7⟩;(case w1=>k_is);(case w2=>k_is);(case w3=>k_is);(case w4=>k_is);(case w5=>k_is);(case w6=>k_is);(case w7=>k_is)))
  (case zi=>(constructor<;>(refine' Mv.anz ?x1;(case x1=>k_is))))
  (case zn=>(constructor<;>k_is))
  (case za=>(constructor<;>(show eQ _ _ _=_;k_is)))
  (case zm=>(constructor<;>(refine' Mv.anu ?x1 ?x2 ?x3 ?x4 ?x5;(case x1=>k_is);(case x2=>k_is);(case x3=>k_is);(case x4=>k_is);(case x5=>k_is))))
  (case zd=>(constructor<;>(refine' Mv.ant ?x1 ?x2 ?x3 ?x4;(case x1=>k_is);(case x2=>k_is);(case x3=>k_is);(case x4=>k_is))))
  (case z1=>decide);(case z2=>decide);(case z3=>decide)
  (case y1=>k_is);(case y2=>k_is);(case y3=>k_is);(case y4=>k_is)
 case S=>
  intro K H xs a hO S1 AC hx;cases hx with
  |cons h1 h2=>
   cases h2;cases h1 with|be hs ha=>have e:=L2.Nj a.1 _ ha;subst e;exact Mv.U7 hs S1 AC
