import PyProof.Rows.All
import Wide.All
import OpenK.AllK
import Wide.FinOn
import PyProof.EqAt
import PyProof.EqKinds
import PyProof.TupleCall
import KE.BitLaws
import Open.Tops
import Open.SpecLaws
import KE.OsHead
import KE.OsGo
import PySem.Challenge.RW_chancerydays_s01_answers
set_option Elab.async false
set_option linter.all false
set_option maxRecDepth 100000
set_option maxHeartbeats 0
set_option genSizeOf false
set_option bootstrap.genMatcherCode false
set_option backward.eqns.nonrecursive false
set_option tactic.hygienic false
open PySem renaming wpAny_bind->ai,wpAny->aj,Shared->ao,Params->aq,Expr->aN,World->aR,Heap->aS,wpAny_pure->aW,starEach->bK,Program->bL,Scope->bN,Around->cK,mainGlobals->dm,Stmt->dQ,IsPair->fj,wpAny_field->fH,cellsFrom->fJ,backTo->gy,wpAny_mono->gX,FuncData->gY,IsZip->ic,NameKind->iJ,compEnvC->iK,mem_of_lookup->iX
open PySem renaming pyNext->jA,IsEnum->jB,keywordEach->jT,backToKw->jZ,wpAny_Call_Name_kw->k_,wpAny_setField_rec->lg,wpAny_seqItems->lB,wpAny_holding->mQ,assignEach->mW,isTrue->m9,Paired->o8,rawInt->o9,wpAny_truthy_bool->qc,wpAny_newObj_type->qd,wpAny_letGo->qC,swapsWith->qG,pushCells->qH,codeAny->qU,IsPart->rm,PyData->rq,bindL->rE,bindC->rF,wpAny_callSpecial?_slot->sU,wpAny_pyIter_tuple->sX
open PySem renaming wpAny_call_entry->s_,wpAny_passesOwn->tB,sliceBounds->tO,intItems->t_,getItem->uu,argBest->uv,numAt->uC,wpAny_loadPart'->vG,wpAny_standAt->vN,bootBuiltins->vQ,codeAny_mono->vS,lastMarks->wc,evalEach->wA,notedBy->wL,callerA->wM,Model->xw,cLine->xx,Meets->xy,CmpOp->xA,foldedSetIterable->yP,wpAny_pyIter_enum->yQ,importedModules->yT,wpAny_tryCatch->yZ,wpAny_rule->zB
open PySem renaming treeTable->zM,DictEntry->zN,seqItems?->zP,ZipApart->Ac,BindsTo->Am,Keyword->An,pyIter->Ax,argsOk->Ay,letOwnedTupleGo->DH,pushCells_keeps->DK,codeAny_builtin->DP,attributeBase->EB,wpAny_attempt->EC,wpAny_onRaise->ED,plainId_quiet->EE,IsRangeIter->FG,sizeLine_eq->FH,call_meets->Gh,IsEnumOut->GS,callWith->Hg,intKind->HF,standAt->HG,evalAll->HH,wpAny_updateSeq_pair->J6
open PySem renaming wpAny_pyIter_list->Kp,wpAny_execs_nil->KH,wpAny_updateSeq->KP,behindInMarks->K7,Within->Lm,seqIndex_neg->Lr,compareChain->Lu,seqIndex_of->LI,wpAny_of_eq->LJ,call->L6,sysModules->L7,builtinsNs->L8,wpAny_Name->L_,wpAny_call->Ma,typeLookup->Mb,typeIs_int->Me,storeName->MV,PassesOwn->MW,testChain->MX,Operator->NK,bindArgs->NL,compPost->NN,wpAny_letOwnedTupleGo_enum->R8,wpAny_pyNext_range_end->Sm
open PySem renaming wpAny_pyIter_rangeiter->Sn,wpAny_loadName_local->SW,codeAny_call_builtin->SY,wpAny_loadName_cell->Tf,wpAny_pyIter_range->TJ,wpAny_assign_Name->Uj,slot_list_getitem->Ul,wpAny_isInstance->U9,wpAny_pyIter_zip->Vc,wpAny_stack_any->V3,recursionLimit->W5,newFunctionEnv->W7,wpAny_setField->W9,firstArgMember->W_,isSubtype_stop->Xa,boot_len->Xc,swapsWithSole->X0,rangeSize_one->X3,intBits_le_64->X4,evalPart_none->X5,call_list_seq->X6,nums_intItems->X7,sub_enumerate->X8
open And renaming intro->aB
open PySem.W renaming Frag->aD,WData->gc,findIn->jr,keepIn->lA,emptyDict->n_,boot_heap->oK,instObj->qj,fnOf->qt,WellAll->qV,mg_of->rG,nsIn->rS,hasDictIn->C0,plainGet->Dm,makesIn->DI,codeIn->Ei,callWith_K->Kd,methodObj->Kn,plainOver->Ko,behindTheImports->Kw,takerIn->KI,WalkOS->KZ,lookIn->K0,looksOpen->MT,OpenSpec->NI
open PySem.W renaming topFrame->NJ,length_le_weightAllW->RS,cellsFrom_some->Sq,callWith_K0->Th,handedIn->U5,WRecords->U8
open Bool renaming false_eq_true->aL,eq_iff_iff->aT,and_eq_true->bx,not_true->bH,false_ne_true->dY,true_and->gu,noConfusion->gW,not_false->jP,false_and->mP,and_eq_true_iff->nY,and_false->oj,or_false->ou,eq_false_iff->sZ,and_true->tF,or_eq_false_iff->CH,not_eq_true'->Kq,false_or->K_,and_eq_false_iff->SK,not_eq_false'->TU,or_eq_true->V1,decide_and->V6,and_assoc->Xe,and_self->X9,true_or->Y4
open Bool renaming not_and->Za
open List renaming length_map->aU,map_cons->aV,map_nil->bB,length_cons->ck,mem_cons->cH,range->cS,size_toArray->cW,getElem?_eq_some_iff->dF,getElem?_cons_zero->dG,mem_of_getElem?->eO,getElem?_map->eS,length_nil->eT,all_eq_true->fc,map_map->ff,getElem?_cons_succ->fC,mem_cons_of_mem->fD,set_cons_zero->fE,set_cons_succ->fF,getElem?_eq_getElem->gF,mem_map->gH,find?_cons->iD,replicate->iY,take_of_length_le->jo,length_append->jq
open List renaming mem_cons_self->jN,mem_append->jO,range'->jU,all_cons->kJ,map_congr_left->k9,lookup_cons->lq,length_drop->lu,mem_filter->ly,any_cons->lE,getD_eq_getElem?_getD->nX,filterMap_cons->nZ,filter_cons->oh,foldl_cons->oi,take_succ->oq,mem_append_right->p_,zip_cons_cons->qa,find?_eq_none->qb,cons_append->qe,any_eq_true->qf,isEmpty_nil->qh,map_append->ql,map_take->qm,any_map->qu,all_map->qv
open List renaming lookup->qz,mem_of_find?_eq_some->sR,length_filter_le->sW,zip_nil_left->sY,zipIdx_cons->tu,foldl_nil->tD,length_eq_zero_iff->vz,getLast?_singleton->vA,getElem?_of_mem->vB,length_take->vD,range'_succ->vE,drop_drop->vM,length->vX,findSome?_eq_none_iff->yG,drop_eq_getElem_cons->yH,range_succ_eq_map->yJ,drop_of_length_le->yK,replicate_succ->yM,findSome?_cons->yN,getD_cons_zero->yO,not_mem_nil->yR,mem_range->yY,map_drop->zc,getElem?_append_right->Ci
open List renaming getElem?_append_left->Cm,findIdx?_eq_none_iff->Co,getLast?_cons_cons->Cr,eq_nil_or_concat->Cy,concat_eq_append->Cz,range_eq_range'->CF,flatMap_append->CL,getElem?_take->CQ,any_eq_false->CZ,flatten_cons->C1,append_assoc->C2,flatMap_cons->C6,findIdx?_map->C7,nodup_cons->DJ,range_succ->DR,find?_some->DS,forIn_nil->Ej,all_nil->E3,getElem?_set_self->JX,drop_eq_nil_of_le->J0,min?_eq_some_iff->J1,take_append_drop->J2,getElem?_set_ne->J5,getLast?_append->J9
open List renaming getD_cons_succ->Ka,mem_filterMap->Kc,filterMap_map->Ke,mem_singleton->Kf,append_of_mem->Kg,getLast?_cons->Kh,filter_append->Kl,getElem?_drop->Km,find?_append->Kr,getLast?_nil->Ks,ext_getElem?->Kv,getElem_mem->Kz,append_nil->KJ,of_mem_zip->KL,nil_append->KN,forIn_cons->KO,foldl->Mf,eq_nil_of_length_eq_zero->RQ,mem_zipIdx_iff_getElem?->RU,getElem?_eq_none->SE,mem_iff_getElem?->SI,min?_eq_none_iff->SJ,mem_append_left->SV,getElem?_zipIdx->S0
open List renaming mem_of_getLast?->S1,getElem?_append->S2,drop_succ_cons->To,filter_eq_self->Tq,findIdx?_cons->TR,range'_append->TV,map_inj_right->TZ,filter_congr->Up,getElem_inj->U4,flatMap_nil->Vd,flatMap_def->Ve,take_length->Vf,map_fst_zip->Vh,map_snd_zip->Vi,length_set->VZ,zipIdx_nil->V4,sum_append->V7,any_filter->V9,all_append->Wc,drop_zero->Xf,map_id->aas
open Nat renaming le_refl->aY,zero_le->dH,le_trans->eU,ne_of_lt->gw,lt_of_lt_of_le->gG,lt_irrefl->jQ,ne_of_gt->mT,add_zero->oz,not_lt_zero->qk,reduceLT->qw,reduceSub->tG,reduceBEq->tH,not_lt->tU,min_eq_left->vH,le_of_eq->vR,add_comm->vU,mul_comm->zd,eq_of_testBit_eq->CG,le_of_succ_le->C3,lt_succ_of_lt->C4,min_eq_right->Dn,sub_self->E2,lt_succ_iff_lt_or_eq->JW,testBit_lt_two_pow->JZ
open Nat renaming eq_of_beq_eq_true->J3,pow_le_pow_right->J8,lt_succ_self->Kx,div_add_mod->KS,le_of_lt->Ln,beq->OP,testBit_two_pow_sub_one->RX,mod_two_eq_zero_or_one->R9,add_sub_cancel->TY,add_div_right->Uo,min_le_right->U6,succ_ne_self->U_,le_add_right->Va,div_eq_of_lt->Vg,le_add_left->V8,div_le_self->Wb,succ_mul->Y3,zero_add->Y7,pow_succ->Y8,lt_or_ge->Y9
open DatesNeutral renaming step->bD,told->cA,text->cG,long->gU,asked1->CM,whole60->J_,start->aoz,asked->aoA
open PySem.Heap renaming lt_size->bT,get?_push_of_some->cj,get?_push_size->d9,size_push->d_,SameBut->lF,get?_update_other->sV,ExtBut->tP,get?_update_self->Cv,IsTuple->Ls
open Se renaming dayOf->bU,Books->bW,isDay->bZ,monthOf->cg,has->cD,Days->cP,yearOf->dw,within->dS,firstAt->eu,yearDay->eB,YEARS->eE,nameFine->gJ,roman->g6,spansOf->iG,Span->iM,weekday->ju,before->jX,Bytes->j3,feastOf->lK,Hold->lW,FEASTS->mX,Seen->m6,Way->m_,Mark->oW
open Se renaming isDate->qI,SPAN->qW,styleYear->tL,reignOf->tV,yearAt->tX,Feast->ua,means->uc,indictionOf->vL,lengthOf->v5,Person->we,nones->wB,leap->wN,leastSet->zm,Claim->Ad,behindOf->FL,inStyle->Gi,monthFrom->MY,yearsNear->MZ,easter->M1,ides->OO
open Dates renaming num->bY,orElse->cC,NONE->cO,below->fZ,State->gI,nat->gK,namesIn->mR,claimsOf->om,marksOf->ow,daysOf->oA,withClaims->vF,withMarks->vI,asked->zo,toldSet->EF,start->FJ,by3->GU,by5->GV,booksOf->La,step->Mj,by2->M0,namesFrom->V_,toldSpans->Wd,Answer->Zb,nums->abA
open Option.some renaming inj->dM
open False renaming elim->eV
open Int renaming toNat_natCast->fG,natCast_nonneg->n9,eq_ofNat_of_zero_le->p9,min_def->vY,le_trans->zf,zero_add->zg,reduceEq->Lw,one_mul->LK,fdiv_eq_ediv_of_nonneg->R6,toNat_of_nonneg->Tp,natCast_zero->Vj
open PySem.Value renaming ref->f7,none->oB,type->oE,bool->qF,isInt->tN,int->v_,str->MU,bytes->aal,float->aam
open Option renaming any_some->iE,all_some->kG,map_some->kH,map->lJ,map_eq_some_iff->mO,bind_some->qg,map_eq_none_iff->JY,some_or->K1,isSome_some->TN,getD_none->U7,map_none->Wa,none_or->Xd
open Se.Feast renaming fine->iF,on->i6
open PyWrsela renaming shape->iZ,answers->yS,answers_asked->Ct,whole->Xg,calls->Xh
open Ne renaming symm->i9
open PySem.PyData renaming int->jt,eqvAll->zb,tuple->ze,eqv->zA,canLayAll0->C5,canLay0->Ek,depth->E1,depthAll->KQ
open PyFlat renaming rows->jV,calls->lG,played->EG,told->FN,row->Mi,call->aat
open PySem.Str renaming ofString->kK
open Se.Claim renaming right->lC
open PySem.Challenge renaming rw_chancerydays_s01_answers->mK,pw_chancerydays_s01_answers->JU
open PySem.Builtin.SmallTypes renaming nextOf->mL,ownedTupleIsFree->vv,ownedTupleHandOut->Cc
open Se.Mark renaming right->mS
open Prod renaming ext->oO,ext_iff->Y_
open PyProof.Rows renaming envOfC->o_,callWith_type1->p8,AllBare->ur,Call_->AM,slot_tuple_getitem->Ce,boot_range->Gg,subscriptTail->K8,Subscript_->Mc,subscriptTail_builtinR->Su,boot_list->Sw,boot_min->SH,markedEach_of_false->Tn,slicePart_none->W6,boot_enumerate->Xb,callWith_builtin1->alx,boot_tuple->amo,boot_any->amW,boot_all->amX,boot_max->amY,boot_sum->amZ
open PySem.F renaming plain_min_loop->tw,slot_tuple_iterator_next->Cj,slot_enumerate_next->Cw,called_enumerate->CP,slot_zip_next->DQ,entry_min_loop->Ky,args_tuple_iterator_next_1->RT,entry_tuple_iterator_next->RV,slot_list_append->Sg,slot_list_extend->Sh,args_enumerate_next_1->Sl,entry_enumerate_next->Sv,entry_enumerate_new->SG,args_zip_next_1->Um,entry_zip_next->Vb,slot_int_rmul->V0
open Function renaming comp->tE,comp_def->Ku
open Se.Span renaming fine->tM,has->vZ
open Sum renaming inl->uo,inr->uq
open PySem.Builtin renaming bitAnd->vK,bitOr->EA
open PySem.NameKind renaming free->vO,cell->K9
open PySem.W.Codec renaming encAll->vV,app->zO,denoteAll->DM,withinAll->V2
open Array renaming mk->wz,length_toList->yL,toList->Lo,mem_toList_iff->SX,find?_toList->TL
open PySem.Builtin.Range renaming rangeSize->yI,small->Ti,rangeFitsLong->alA
open List.range renaming loop->yU
open PySem.Obj renaming mapSeq->zy,data_mapFields->TQ
open PySem.Builtin.Slice renaming slicePlaces->Cn,sliceAdjust->JV,sliceApplied->R7,slicePartIndex->alz,sliceFields->alR
open PySem.Builtin.Tuple renaming tupleExact->Cp,tupleItemsOf->alD
open PySem.Builtin.List renaming listTooLong->Cq,listFitsIndex->alE
open ForInStep renaming yield->DL
open PySem.W.WData renaming weightAll->DO
open PySem.SeqAt renaming shaped->EZ,EqAt->abv
open PySem.Shared renaming heap->FI
open PySem.Data renaming seq->Hf
open PySem.Around renaming under_plainId->J7,under->Lp
open UInt8 renaming toNat_inj->KR,toNat_ofNat'->TX
open Se.Books renaming fault->K2,reaches->X_,holdsIt->Yb
open Se.Days renaming fault->Lb
open PySem.Code renaming isFrame->Lq,frames->aao
open Nat.succ renaming inj->Lv
open PySem.IsRange renaming new->LH
open PySem.Walks renaming list->Mg,range->aan
open PySem.Env renaming kindOf->Mh
open Or renaming inr->Pk
open PySem.Builtin.Builtins renaming bindParams->RW
open PySem.Calls renaming Name_function_global->R5,spliced_cons->TM,spliced_nil->Uk
open Classical renaming byContradiction->Sd
open PyProof renaming noPylong_small->So
open PySem.Heap.SameBut renaming update->Tj
open PySem.SeqAt.EqAt renaming int_str->TF,str_int->TH
open List.cons renaming injEq->V5
open PySem.Value.type renaming inj->W8
open PySem.Paired renaming length->XZ
open Prod.mk renaming injEq->Yc
open PySem.EqNone renaming eq_none_none->alH,eq_none_bool->alI,eq_bool_none->alJ,ne_none_none->alM,ne_none_bool->alN,ne_bool_none->alO,eq_none_int->al0,eq_none_str->al1,eq_int_none->al2,eq_str_none->al4,ne_none_int->al6,ne_none_str->al7,ne_int_none->al8,ne_str_none->al_
open PySem.EqMixed renaming eq_bool_str->alK,eq_str_bool->alL,ne_bool_str->alP,ne_str_bool->alQ,eq_int_str->al3,eq_str_int->al5,ne_int_str->al9,ne_str_int->ama
open PySem.Heap.IsListIter renaming extBut->amD
open PySem.W.Looks renaming here->an8
open PySem.Heap.IsSliceOf renaming new->aod
open PySem.Within renaming cons->aoM
open PySem.Heap.IsTuple renaming push->aoY
namespace PySem.W.Fast
local macro_rules|`(universe t)=>do
 let d:="ABCDEFGHIJKLMNOPQRSTUVWXYZabcdefghijklmnopqrstuvwxyz0123456789".toList
 let s:="ORLlZcWNCMIUv1IWf9yqgVTle2Pd90pVqHJqN5esarJtPHXNSI0QJlUGVjSQ0DAAdGRQj3cLl83shEK4pzP9gb4mJUxlK5aJ6aZBE49sIoxYbZRnOb0D6nyAYEXydeQpKLgiBJioSWj3qCmLWS8g9TaJafIGuyvyckKmeG7yVcpIAuz4FJdNz74S5iQU4cwxj77BSRFxjcF00fWQDF4u9txNin1fARaOhWEuKrvTf0JgQ7etRPOtBASafA4NXP8WTifDW4GeAcLQuY7UyE6EY4x22oDhn1FBd0470aqzNCr3xfSJ69L0ALADBg50arMTzfreDXB8xsARkAEnZvsL7Nr4dcKTNzFCIpv1rUpxzrlFjBmRDKkn4hRulFyhmuXr6JkBaTAHdYppR5KnUNQBAjlBvMq7wfon4xOIWewL2zsNMSQl57Fs8jkbCVsxddnOnPySJ2mDsI0fsbDk0ooqFsYv7OQ5NLy2sKDiC7aMtcRHYyWLiLhbmypaFFE9JSqXrHvuwH3IHoa4DigtUYU5YOpUfwwUD3tj8GD32oEmj4RCafTkJBcP4wgieeR0CXyRYG4BTpnHLt1Gun6KCEOelBhPAC0AQO3PiD10AbTvBFP0eWYk837ELXw8vin9gcPFvNYgg0xcRPUUbzjrbEGmUG7mAc5dOxwPVguVp0oCjfAxTHmfAXpAUIWSucFzhXZBKBHyK0LfiibRdRRg5b05S1En1yoE3DdtLDOnmqIhaacOOukchRPN8C5N1H7cnsdjGFEzU6MWyHEe3DJ8oYCMiFqgRWL73DG0m45RGLNYNkM4txAUa1eADrSTGTJEROECHz4YHnFjbvecHyqRucXgS1Irl5Nva45N69AAuFc12bPxzOfYVlTLWj5dyFZNhOuo5BPCrdJEK7K0pMkFcGXyLyzFEEuHEwd5fFnGF5MBBDwjhGPRSWKe803Wq7HnJVlKagcO80wfDuSmXmbNLEgJpgJn5NylXkHGcqdCqSAk9DtPDeSdIo3kHSpqnRjbq8rU3p8wGPh6NhR7ClWqWtSkYIKZQuaoFI2QHZUzwcTRmH0CskNyfbOrSNRbhz3a5s8zOBzs6qg7mERWFJNMWoSSNbmSMDGnVWh8l2JnW87aEVsWyQ7xdoXuRt0IDwq1ynqTS4UDV596DjQt3qMgf4EIV9EKqRfkz2MEanbxODtgcqDwCeOKTEYDND6rtpEAGJFAotk18FnoilnmvlMdLReVOIe5onrQyvzlYKXKwhHOgV362RAYtHWi7y8bjnRdVEXRkiJCJW4IGavax9srplClqHcc1V9YmULynwp8rp1iQdx1DnQAF8oUJWK2aybGXhOaY2FRh6qOcERMmjpPcQFeKHLahk88iGYNRLFs2uH8kGQ5f92LeweDeKI7Fg4zvYHgNr3kr92dEeeSpwnyhuTPlvP3DjcbNpVbrJILwULliGBoC0OG3igsIphQUIhg92IDPBGUeFMz1tXQCEShZz9zYEE2GPMhF0W9JQpH23VBzuN2uVBFkPH6DEOkICaeejbaJYOIP5D7hhQ3z0MOsprAEWcZNQCRSAObncXZmFOm8iDGccY4FppN8dpeBbOMwypPBTdSqNBttCnvHTB2dOxcplaLwIzHOs4ELz1ejYZUvy1jqSfnqdItWoTNeZNATSeuhT62gznvFbOc2lTmoXzDbFBPykicqmMCikFRmzj3QCj0LIVxzU2DIt9G8v82Ry4RUyRrFKVLk7EXISsL9IEnTLOaZfsUoQrCFf4NH1ySVOICcqiz0sVh1RAAKGPI4DCkwKW3qcj7RfwWP78j2iushPlO2a9o7O0jB6KVJ1XdoRS2mHKd39xCd1k6TNYLDaSRWpCQLWTuiIGjOzLynfNzmNrAlRJ0rw3OWiprE9lAAAPTTRGA4Ovnn3fvM5DwUXoFxpL9zEeK11XfbP85AEknhDEkdYJMsmoZlNPZ28KYUgH35XjtIJBth59MTZGOH6dfRPIw8PlPXLtmca15rnJX2q5FhlmYYBizHQyJQEw4T8oQDMtbIEXTLHlJCCgXIdMtgo6fkrxHMO9EP2LY6rnFIErdAeQPP35M5hA0Xf2tKPIE58SIO40amIKvCEG4TjmuPlzzAblPkB0IpUF3RgZ3BkN2EWYrisvZbLcvKZjxyeqvBm95HXiZiFkOpgO1sTzmBYUmKqxKIAStrJbS02SE2R8HUEsTtYGAuOLGZGv5K5gZVqE5P6akWT9CRV8mUWSm08nSOUXn541a72cVBgJujyHHhvCXBMJXEJ9I1BeR6tmxjqbwAuKslUgduvfVJ1F3snq349LxZVjEHr8RCIYonfp7RS9ODLwaK10FbdlL6nEeGi8zuMCv25kIiuf7iTgB7NOTt19VRprPfljv0JkGzfRdFkDnhGS6rkV1oQXuwACfRSLwgsTcCyN3z3Y8cxcUF5hEl8McIDCGTOrNzLZZwFooCQ94zdvFFUlJY0TTbKID9QHHre1vTACTmr2S4hPtOBwogZAUz6HYU06TDVUJqxlPhGJpUwluwjAgJfSWY0Y38ArTZRJrGgiMHv798IcbqTLQHQqjBFWzdVHurh0fXyvGKFrELCNxTXFoFExnSs9CylJKTzRiBdniHBENQztVn6VH9S9iPI5OjrCiP15KGcO21BWPGkpjYXNNUlRctVLVz7Q5lFAbYQGeihxJV5VH0Lg2CVIKi3dE1E8393DqDuGfqpVCBLnbsRxwh3r6Kb2PKOYNy9dNrW9BJD6owfEs8cSttr6gaG4MX6WHbGeVTd7eYmAVRcLBOLV5eGTyNHKlrNRoTjk6JN4fVoY6KX8EGEIKE2ZS9thUxJpIBnG4JsOgIuOMjGaQFTlg7UiceJlOKpFH7vuldA9E9MvhVwQ5w2EaTWjY3ZaH6NoWxsMOezZ9LGqwuNw6L36G89geqJfLegK2TLe57Ww9wPsMNFNjJvFlIEGMBHxeR8WMwAlZP6PVMYQOzZvXJ6SxHLYZGj2VYBtsAKFAjPi22gnM1qwG91tZ4hTgf3jaLqb2mVLzbQ7FNWLlMAvt0rvfI6sMdwCrC2OcorNDuXwrvhfrdDx1ezn4OXYSBj05MGn9VC7RPd011SOfTgPOd6HqRGsp5F0MJDDKagXmGeXoE2qXkOwGMXxkYKbDbgDcBdhxECwcPCoDGrsGUujQUJ4U7MiEs6IAutRQqKfsmcCWKFgzrUMGyBaJwfcQtXohHCdhNP8H9tSUffeA1CfjflKviJlg4YaWiDY62EhFyTTXSd7wZN6Q0bZDhQSaZFU0zPAVSVQS8Ha0OJqMrW6sKyB2B743FCK6rE3KtqZCovbp4YGgKEgeVCMqQEqzF1V1e4MBU874cMsdyBFB1DNgI9c5FGFpWCLKjQcI2JxLyPhMnCDTOOXFZ7KiS5yR3nqCx16cQZCNFHqyd4WvqDSzX5eoWY4cKsRo9fd7Pl1KkP10mGmSTfBWaWZHiq7uKTv1BgacJhYrUdi5hByge7qS2YRpIuFoGlIoUC2HSj9MQQ6gsYn3572yRA2KdzqJa3OAQ0k7Y27S42AhmEaYkBDGCMgzYURTrCeoNaPTHnIoWF2UFQ4cl6o0AlNRoqdCPytVwKc5VEtTBwJcLisaPTNI2MHGWaLqysQVD8BMlvJJbUFNgDMx8TVFpb6vCTG8wAho5UzDHfMacweThuLvEH5gBOvSkAX5li3S6mMSC4SQvxOxnLYKT6MzKook2zDcvBB8HuSHqCYCrgh979kVBAKDgdvU4nYHVt8q4jQuWeMWIQWu1UuchVyQs7du7UYGHw6Not8TcAnAdWWXFxJxtRGQCriyknVL0ADnLerlxbjLUIzx6l4muyrAobZ2aLF4VCB0pygcUfKAzN1OUrKkl7ycUowZr6fOSPCABA4kGvJn7fRMf0clUMjEARsNqw5YYjrLECB03a0etf2O4ZZRz8pcDuCBwxtodoD18NYN1ywItFHjKQqyvmddZN5R7RtErMDdCtTVQgaJR5cHjFlsS63CdYvVN3O4H2QFUuUCGA7FPlevulMSjBp2Jgka1Daxv7YVCKr4M0bPLuwzgEtVBtuBXFvICSO0Y2Sud8kvzOIdRYVezQDdHTpC5x13Z3MMdvbOu4Rnm5Vn37H7FVcziAATbHcFpMl5S7MV1dQxZXGENCFwewYklTC6B1SumMSiSIFBUexW7hnPA5fgT6wWas6LX0GeM0kjHlBBSXkvELOpzUVMFD4qXm3yUaCA6LvJIwUBWunnWraggaMLf0y2a2gq5S2x3gIX2ySyKegOdqqZ76yRUIoCTYIDknT2KJaSlQLnCP2BvOgjDinNTwwkOYelpfxDBvcKYTKVb2S9Zzai5mxkUVbSCximYlJWFlBlGzygVCCR9K4q9GoNrhPBnH7dZ8F4uFgh6oN2r1UUMItf5ppg5fVHm8j2igVozyFKc1I9iEuTbRPN24WWl9ktMyzvuZwSZAeFBZLJKessLPUKCV8aKwo6MLMAQnEKvaSLOyyiMpdH2ReM6E5njlNmo9CdZVZu8m9y1KPntyBW8vloT0TJE1DQQQ7Tqfz2QZ2t8SEC75nBhCTG0ES3OsRyqsXwAlVJ6SlrMtaB8Pt3cgiCu2K74lmeMpdItO0wrly2NMAcKLzcvjLRqHxGbeA84HHg7iMzCcERpafUoJrJ6w5IVifgOoeQIUEsM5OPjDUc5eofypN7Dh705RUAyFQ6s3JtuP2tAVPEhgpas0KRxQvfHZVgG2Ozhaqo3xmfnQk7u3zOfyreFcL0f9zsCpsP5up5ETSKRPGvqpq48HQsyVORPztqyMuMHITaK0l6jNxTBCg09k1pRQFHDmjaW8ApUJlhvzjbmrzXEhYLvlOJbm0UygttB96bNCNo43WL8iUAiCH8vHE4dVwMFicpyMkAJxvRXMYpVbBGNiCVkzG7vTy42MS1Dt80yImEQs2fg0edK05PduEpunAGkNT1ycpIRTESPCTDDpfYcBlpIZbwOs3h0KrP3aKY9juz6YGk4xH35i75pK3xtz3z1lX2JNTpK62cuTRAC3KlmxN1f5HpPy52V9ZxaUaHZOt2pIK2M3aOC8MBe2wGkouLD56yaOARRUQPzuWjEJ2KLq8EcjOmH0r7wEfzuBPQuMNySU7lAKTIb29z7yBIyBQ8ptCcc0LIQu8sSSRjwOyRH3D0LCqDElCqRTway1rxzTODVm5t4HllKAhxung9eUJJxGMTLn242XODpfdhLyUD3UCy8jfMAJ3QAj7WqRxtpEIMHwVUpPPcchCi1yRBofombNwpdOz0HCyfRxZFZyEvx9ZLlIx4BdzVyqLBdmOKA5Y3vUfpiTNT3t8VJzfV0vRbGtfOXzGgFJLpm8OYmufUWLBipEvgGZMQqLjGLH53wjHRpLdJEVpYqcD0W4I5aXLKvdjW2CjLBQ1ISWgpKw8u1HXCpubAYriykAGC3POXMKgI9glmbBtsjaU7cwQ2APKnURI2UAjLps3UaZEatuV3NUCaLAqsLJl0d6IB1dtjCobkFfCdi5xJCgliS9oRruQp2l3pmT51AHGxzImDPH43MPhNH4R8gnIDCMJwqejheXTclACrw0YBjEnLGu2rEc3oARShX1ekfVOEQDJHyFxQzpIcQQrc2QcMdHLMVyG2MhawBut0gKQ8uFCItJaY4wThRzOZIUgorkIfbSwlqFalEm04VLhXoj5tDdcQgWdhaS74nvJuEQi3a6aCTRjwTJLdqpTLKy5cRMlNZOCSyLrpUaCDksQ7Xo3LhiT5IQJ2otdD4XcbUk54GcPqzKcEBQYSDGeOPpDgq6pmMvFooAbGtTpACwJrEEv4dykUHtdRObid9wQyWmEsWLurAZDXyAvYj8jhcBZP".toList
 return Lean.mkNullNode (← (List.range 532).toArray.mapM λi=>`(theorem $(Lean.mkIdent (.mkSimple s!"tw{((s.drop (i*11)).take 11).foldl (λa c=>a*62+d.idxOf c) 0}")) : 0=0:=rfl))
universe t
end PySem.W.Fast
namespace Cd
open PySem PySem.W PyProof.Rows
open_shared sh for JU leaving 0
abbrev PP:bL:=JU
abbrev RR:NI:=mK
theorem ahI:sreFenced PP.main=true:=by decide+kernel
theorem ahJ:((moduleNames PP.main.body).isEmpty||lookedIntoSs (moduleNames PP.main.body) PP.main.body)=true:=by decide+kernel
theorem ahK:namesResolve PP=true:=by decide+kernel
theorem ahL:PP.boundNames.all (λn=> !worldNames.contains n)=true:=by decide+kernel
theorem ahM:noRoadLSs {strict:= !(yT PP.main.body).all cThrough.contains,foot:=none,bare:=(["vars","dir","locals"]:List Str).filter (readsOut PP PP.main.body)} PP.main.body=true:=by decide+kernel
theorem ahN:namesMeet PP PP.main.body (λz n=>attrL n)=true:=by decide+kernel
theorem ahO:(PP.boundNames.contains mK.name&& !startupNames.contains mK.name&&specDef PP mK.name mK.args.length&&
 mK.args.all Codec.fits&&mK.ret.ok)=true:=by decide+kernel
theorem P0:mK.wellSaid=true:=by
 have h7:=ahO;simp only[bx] at h7
 have hl:MT PP=true:=by
  unfold MT;rw[ahI,ahJ,ahK,ahL,ahM,ahN];rfl
 unfold NI.wellSaid;show((((((MT PP&&_)&&_)&&_)&&_)&&_))=true;rw[hl];simp only[bx];exact⟨⟨⟨⟨⟨trivial,h7.1.1.1.1⟩,h7.1.1.1.2⟩,h7.1.1.2⟩,h7.1.2⟩,h7.2⟩
noncomputable def Bf(w:aR)(os:OsState):ao:={tree:=Cd.sh.tree_918 w.params,n:=878,life:={},gens:={toList:=[]},drawn:={},toks:=1565,os:=os:SharedT}.abs
noncomputable abbrev cB:Code:=Code.body (Kw PP) Cd.sh.env_1
noncomputable abbrev qB:Pos:={line:=0,col:=0,endLine:=0,endCol:=0}
noncomputable abbrev pK:Pos:={line:=638,col:=0,endLine:=652,endCol:=15}
theorem xB:∀(w:aR),(λos=>topRun zM PP w 11 (some (f7 6)) 20 (Bf w os) ⟨doneF .next,cB,pK,[NJ qB]⟩)=λos=>some (Bf w os):=by
 intro w;kernel_rfl
noncomputable def hS0(w:aR)(os:OsState):ao:=⟨oK w.params,wz [],boot_drawn,boot_toks,os⟩
noncomputable def IA(w:aR)(os:OsState):ao:={tree:=Cd.sh.tree_4 w.params,n:=15,life:={},gens:={toList:=[]},drawn:={},toks:=187,os:=os:SharedT}.abs
theorem aiX:∀(w:aR),(λos=>topGo zM PP w 11 (some (f7 6)) 12 (hS0 w os) (topStub PP))=λos=>some (IA w os,⟨denote zM cB,cB,qB,[NJ qB]⟩):=by
 intro w;kernel_rfl
theorem af2:∀(w:aR),(λos=>segRun zM PP w 11 (some (f7 6)) 1 1 (IA w os) (blockOf (Kw PP) Cd.sh.env_1 cB qB [NJ qB]))=λos=>some (.next,IA w os,cB,qB):=by
 intro w;kernel_rfl
noncomputable def ig(P:aq):aS:=absHeap (Cd.sh.tree_918 P) 878 {}
noncomputable def stA:dQ:=PP.main.body.getD 197 (.Pass ⟨0,0,0,0⟩)
noncomputable def qA:bL:={PP with main:={PP.main with body:=[stA]}}
noncomputable def qX:List Str:=PP.boundNames.filter λn=> !(n==("answers":Str))
noncomputable def Bg(s:ao):Bool:=xlAt qA [] s&&recOk [] s
theorem ahP:∀w:aR,(fencedOpening zM PP w 8000).map (λs=>(s.heap,s.gens,s.drawn,s.toks))=some (oK w.params,wz [],boot_drawn,boot_toks):=boot_open rfl rfl λs=>rfl
theorem ahQ:∀w:aR,((oK w.params).isNs dm&&(wz []:Array GenState).size==0,(oK w.params).objs.size,(oK w.params).nsMap dm "__annotations__")=(true,11,some (f7 6)):=by
 intro w;kernel_rfl
theorem ahR:∀w:aR,staticsOk (yT PP.main.body) (oK w.params) (ig w.params)=true:=by
 intro w;kernel_rfl
theorem ahS:∀w:aR,namesBound PP (ig w.params)=true:=by
 intro w;kernel_rfl
theorem ahT:∀w:aR,laidKept (oK w.params) (ig w.params)=true:=by
 intro w;kernel_rfl
theorem ahU:∀w:aR,(λos=>openSeen qA qX (yT PP.main.body) Bg true (Bf w os))=λz=>openGood qA qX:=by
 intro w;kernel_rfl
theorem af3(w:aR):(λos=>((staticsOk (yT PP.main.body) (oK w.params) (ig w.params)&&namesBound PP (ig w.params)&&gensDone ⟨ig w.params,wz [],{},1565,os⟩&&laidKept (oK w.params) (ig w.params)),
 openSeen qA qX (yT PP.main.body) Bg true ⟨ig w.params,wz [],{},1565,os⟩,(⟨ig w.params,wz [],{},1565,os⟩:ao).heap))=λz=>(true,openGood qA qX,ig w.params):=by
 funext os;rw[ahR w,ahS w,ahT w];exact oO rfl (oO (congrFun (ahU w) os) rfl)
theorem ahV:LeftO PP qA qX Bg (λs=>s.heap) (λw=>ig w.params) 8000:=
 LeftO.of_pieces (H₁:=ig) ahP ahQ (λw os=>go_top (congrFun (aiX w) os) (piece_block (congrFun (af2 w) os) (Cd.sh.chain PP (Kw PP) w os [] 20 (Bf w os) (congrFun (xB w) os)))) rfl af3
def stays(w:aR)(h:aS):Prop:=∀b o,(ig w.params).get? b=some o->h.get? b=some o
noncomputable def KA:aq->aD:=λP=>(nat_lit 0,boot_o_0 P)::(nat_lit 1,boot_o_1 P)::(nat_lit 3,sh.o_910 P)::(nat_lit 6,boot_o_6 P)::(nat_lit 9,boot_o_9 P)::(nat_lit 13,sh.o_3 P)::(nat_lit 15,sh.o_7 P)::(nat_lit 16,sh.o_8 P)::(nat_lit 18,sh.o_10 P)::(nat_lit 19,sh.o_11 P)::(nat_lit 22,sh.o_14 P)::(nat_lit 29,sh.o_21 P)::(nat_lit 30,sh.o_22 P)::(nat_lit 32,sh.o_24 P)::(nat_lit 33,sh.o_25 P)::(nat_lit 34,sh.o_26 P)::(nat_lit 35,sh.o_27 P)::(nat_lit 37,sh.o_29 P)::(nat_lit 43,sh.o_35 P)::(nat_lit 44,sh.o_36 P)::(nat_lit 50,sh.o_45 P)::(nat_lit 51,sh.o_46 P)::(nat_lit 57,sh.o_52 P)::(nat_lit 58,sh.o_53 P)::(nat_lit 64,sh.o_59 P)::(nat_lit 65,sh.o_60 P)::(nat_lit 71,sh.o_66 P)::(nat_lit 72,sh.o_67 P)::(nat_lit 78,sh.o_73 P)::(nat_lit 79,sh.o_74 P)::(nat_lit 85,sh.o_80 P)::(nat_lit 86,sh.o_81 P)::(nat_lit 92,sh.o_87 P)::(nat_lit 93,sh.o_88 P)::(nat_lit 99,sh.o_94 P)::(nat_lit 100,sh.o_95 P)::(nat_lit 106,sh.o_101 P)::(nat_lit 107,sh.o_102 P)::(nat_lit 113,sh.o_108 P)::(nat_lit 114,sh.o_109 P)::(nat_lit 120,sh.o_115 P)::(nat_lit 121,sh.o_116 P)::(nat_lit 127,sh.o_122 P)::(nat_lit 128,sh.o_123 P)::(nat_lit 134,sh.o_129 P)::(nat_lit 135,sh.o_130 P)::(nat_lit 141,sh.o_139 P)::(nat_lit 142,sh.o_140 P)::(nat_lit 148,sh.o_146 P)::(nat_lit 149,sh.o_147 P)::(nat_lit 155,sh.o_153 P)::(nat_lit 156,sh.o_154 P)::(nat_lit 158,sh.o_156 P)::(nat_lit 159,sh.o_157 P)::(nat_lit 162,sh.o_160 P)::(nat_lit 169,sh.o_167 P)::(nat_lit 170,sh.o_168 P)::(nat_lit 172,sh.o_170 P)::(nat_lit 173,sh.o_171 P)::(nat_lit 174,sh.o_172 P)::(nat_lit 175,sh.o_173 P)::(nat_lit 177,sh.o_175 P)::(nat_lit 183,sh.o_184 P)::(nat_lit 184,sh.o_185 P)::(nat_lit 190,sh.o_191 P)::(nat_lit 191,sh.o_192 P)::(nat_lit 197,sh.o_198 P)::(nat_lit 198,sh.o_199 P)::(nat_lit 202,sh.o_203 P)::(nat_lit 203,sh.o_204 P)::(nat_lit 209,sh.o_210 P)::(nat_lit 210,sh.o_211 P)::(nat_lit 216,sh.o_217 P)::(nat_lit 217,sh.o_218 P)::(nat_lit 223,sh.o_224 P)::(nat_lit 224,sh.o_225 P)::(nat_lit 228,sh.o_229 P)::(nat_lit 229,sh.o_230 P)::(nat_lit 233,sh.o_234 P)::(nat_lit 234,sh.o_235 P)::(nat_lit 235,sh.o_236 P)::(nat_lit 241,sh.o_242 P)::(nat_lit 242,sh.o_243 P)::(nat_lit 248,sh.o_249 P)::(nat_lit 249,sh.o_250 P)::(nat_lit 255,sh.o_256 P)::(nat_lit 256,sh.o_257 P)::(nat_lit 262,sh.o_266 P)::(nat_lit 263,sh.o_267 P)::(nat_lit 269,sh.o_273 P)::(nat_lit 270,sh.o_274 P)::(nat_lit 276,sh.o_280 P)::(nat_lit 277,sh.o_281 P)::(nat_lit 281,sh.o_285 P)::(nat_lit 282,sh.o_286 P)::(nat_lit 288,sh.o_292 P)::(nat_lit 289,sh.o_293 P)::(nat_lit 293,sh.o_297 P)::(nat_lit 294,sh.o_298 P)::(nat_lit 300,sh.o_304 P)::(nat_lit 301,sh.o_305 P)::(nat_lit 307,sh.o_311 P)::(nat_lit 308,sh.o_312 P)::(nat_lit 312,sh.o_316 P)::(nat_lit 313,sh.o_317 P)::(nat_lit 319,sh.o_323 P)::(nat_lit 320,sh.o_324 P)::(nat_lit 322,sh.o_329 P)::(nat_lit 323,sh.o_330 P)::(nat_lit 326,sh.o_333 P)::(nat_lit 333,sh.o_340 P)::(nat_lit 334,sh.o_341 P)::(nat_lit 336,sh.o_343 P)::(nat_lit 337,sh.o_344 P)::(nat_lit 338,sh.o_345 P)::(nat_lit 339,sh.o_346 P)::(nat_lit 341,sh.o_348 P)::(nat_lit 347,sh.o_354 P)::(nat_lit 348,sh.o_355 P)::(nat_lit 352,sh.o_359 P)::(nat_lit 353,sh.o_360 P)::(nat_lit 359,sh.o_366 P)::(nat_lit 360,sh.o_367 P)::(nat_lit 366,sh.o_376 P)::(nat_lit 367,sh.o_377 P)::(nat_lit 373,sh.o_383 P)::(nat_lit 374,sh.o_384 P)::(nat_lit 380,sh.o_390 P)::(nat_lit 381,sh.o_391 P)::(nat_lit 387,sh.o_397 P)::(nat_lit 388,sh.o_398 P)::(nat_lit 392,sh.o_402 P)::(nat_lit 393,sh.o_403 P)::(nat_lit 399,sh.o_409 P)::(nat_lit 400,sh.o_410 P)::(nat_lit 406,sh.o_416 P)::(nat_lit 407,sh.o_417 P)::(nat_lit 411,sh.o_421 P)::(nat_lit 412,sh.o_422 P)::(nat_lit 418,sh.o_428 P)::(nat_lit 419,sh.o_429 P)::(nat_lit 423,sh.o_433 P)::(nat_lit 424,sh.o_434 P)::(nat_lit 428,sh.o_438 P)::(nat_lit 429,sh.o_439 P)::(nat_lit 433,sh.o_443 P)::(nat_lit 434,sh.o_444 P)::(nat_lit 438,sh.o_448 P)::(nat_lit 439,sh.o_449 P)::(nat_lit 443,sh.o_456 P)::(nat_lit 444,sh.o_457 P)::(nat_lit 450,sh.o_463 P)::(nat_lit 451,sh.o_464 P)::(nat_lit 455,sh.o_468 P)::(nat_lit 456,sh.o_469 P)::(nat_lit 460,sh.o_473 P)::(nat_lit 461,sh.o_474 P)::(nat_lit 465,sh.o_478 P)::(nat_lit 466,sh.o_479 P)::(nat_lit 472,sh.o_485 P)::(nat_lit 473,sh.o_486 P)::(nat_lit 474,sh.o_487 P)::(nat_lit 480,sh.o_493 P)::(nat_lit 481,sh.o_494 P)::(nat_lit 483,sh.o_499 P)::(nat_lit 484,sh.o_500 P)::(nat_lit 487,sh.o_503 P)::(nat_lit 494,sh.o_510 P)::(nat_lit 495,sh.o_511 P)::(nat_lit 497,sh.o_513 P)::(nat_lit 498,sh.o_514 P)::(nat_lit 499,sh.o_515 P)::(nat_lit 500,sh.o_516 P)::(nat_lit 502,sh.o_518 P)::(nat_lit 508,sh.o_524 P)::(nat_lit 509,sh.o_525 P)::(nat_lit 515,sh.o_531 P)::(nat_lit 516,sh.o_532 P)::(nat_lit 520,sh.o_536 P)::(nat_lit 521,sh.o_537 P)::(nat_lit 525,sh.o_541 P)::(nat_lit 526,sh.o_542 P)::(nat_lit 530,sh.o_549 P)::(nat_lit 531,sh.o_550 P)::(nat_lit 537,sh.o_556 P)::(nat_lit 538,sh.o_557 P)::(nat_lit 544,sh.o_563 P)::(nat_lit 545,sh.o_564 P)::(nat_lit 549,sh.o_568 P)::(nat_lit 550,sh.o_569 P)::(nat_lit 556,sh.o_575 P)::(nat_lit 557,sh.o_576 P)::(nat_lit 563,sh.o_582 P)::(nat_lit 564,sh.o_583 P)::(nat_lit 568,sh.o_587 P)::(nat_lit 569,sh.o_588 P)::(nat_lit 573,sh.o_592 P)::(nat_lit 574,sh.o_593 P)::(nat_lit 580,sh.o_599 P)::(nat_lit 581,sh.o_600 P)::(nat_lit 585,sh.o_604 P)::(nat_lit 586,sh.o_605 P)::(nat_lit 590,sh.o_609 P)::(nat_lit 591,sh.o_610 P)::(nat_lit 592,sh.o_614 P)::(nat_lit 593,sh.o_615 P)::(nat_lit 594,sh.o_616 P)::(nat_lit 595,sh.o_617 P)::(nat_lit 596,sh.o_618 P)::(nat_lit 597,sh.o_619 P)::(nat_lit 598,sh.o_620 P)::(nat_lit 604,sh.o_626 P)::(nat_lit 605,sh.o_627 P)::(nat_lit 611,sh.o_633 P)::(nat_lit 612,sh.o_634 P)::(nat_lit 618,sh.o_640 P)::(nat_lit 619,sh.o_641 P)::(nat_lit 625,sh.o_647 P)::(nat_lit 626,sh.o_648 P)::(nat_lit 627,sh.o_649 P)::(nat_lit 628,sh.o_650 P)::(nat_lit 629,sh.o_651 P)::(nat_lit 630,sh.o_652 P)::(nat_lit 631,sh.o_653 P)::(nat_lit 637,sh.o_659 P)::(nat_lit 638,sh.o_660 P)::(nat_lit 642,sh.o_664 P)::(nat_lit 643,sh.o_665 P)::(nat_lit 647,sh.o_669 P)::(nat_lit 648,sh.o_670 P)::(nat_lit 654,sh.o_681 P)::(nat_lit 655,sh.o_682 P)::(nat_lit 659,sh.o_686 P)::(nat_lit 660,sh.o_687 P)::(nat_lit 666,sh.o_693 P)::(nat_lit 667,sh.o_694 P)::(nat_lit 673,sh.o_700 P)::(nat_lit 674,sh.o_701 P)::(nat_lit 680,sh.o_707 P)::(nat_lit 681,sh.o_708 P)::(nat_lit 687,sh.o_714 P)::(nat_lit 688,sh.o_715 P)::(nat_lit 694,sh.o_721 P)::(nat_lit 695,sh.o_722 P)::(nat_lit 701,sh.o_728 P)::(nat_lit 702,sh.o_729 P)::(nat_lit 708,sh.o_738 P)::(nat_lit 709,sh.o_739 P)::(nat_lit 715,sh.o_745 P)::(nat_lit 716,sh.o_746 P)::(nat_lit 722,sh.o_752 P)::(nat_lit 723,sh.o_753 P)::(nat_lit 729,sh.o_759 P)::(nat_lit 730,sh.o_760 P)::(nat_lit 736,sh.o_766 P)::(nat_lit 737,sh.o_767 P)::(nat_lit 743,sh.o_773 P)::(nat_lit 744,sh.o_774 P)::(nat_lit 750,sh.o_780 P)::(nat_lit 751,sh.o_781 P)::(nat_lit 757,sh.o_787 P)::(nat_lit 758,sh.o_788 P)::(nat_lit 762,sh.o_792 P)::(nat_lit 763,sh.o_793 P)::(nat_lit 769,sh.o_799 P)::(nat_lit 770,sh.o_800 P)::(nat_lit 776,sh.o_806 P)::(nat_lit 777,sh.o_807 P)::(nat_lit 783,sh.o_813 P)::(nat_lit 784,sh.o_814 P)::(nat_lit 788,sh.o_821 P)::(nat_lit 789,sh.o_822 P)::(nat_lit 795,sh.o_828 P)::(nat_lit 796,sh.o_829 P)::(nat_lit 802,sh.o_835 P)::(nat_lit 803,sh.o_836 P)::(nat_lit 809,sh.o_842 P)::(nat_lit 810,sh.o_843 P)::(nat_lit 816,sh.o_849 P)::(nat_lit 817,sh.o_850 P)::(nat_lit 823,sh.o_856 P)::(nat_lit 824,sh.o_857 P)::(nat_lit 828,sh.o_861 P)::(nat_lit 829,sh.o_862 P)::(nat_lit 835,sh.o_868 P)::(nat_lit 836,sh.o_869 P)::(nat_lit 842,sh.o_875 P)::(nat_lit 843,sh.o_876 P)::(nat_lit 844,sh.o_880 P)::(nat_lit 845,sh.o_881 P)::(nat_lit 846,sh.o_882 P)::(nat_lit 847,sh.o_883 P)::(nat_lit 848,sh.o_884 P)::(nat_lit 849,sh.o_885 P)::(nat_lit 850,sh.o_886 P)::(nat_lit 851,sh.o_887 P)::(nat_lit 852,sh.o_888 P)::(nat_lit 853,sh.o_889 P)::(nat_lit 854,sh.o_890 P)::(nat_lit 855,sh.o_891 P)::(nat_lit 856,sh.o_892 P)::(nat_lit 857,sh.o_893 P)::(nat_lit 858,sh.o_894 P)::(nat_lit 859,sh.o_895 P)::(nat_lit 860,sh.o_896 P)::(nat_lit 861,sh.o_897 P)::(nat_lit 862,sh.o_898 P)::(nat_lit 863,sh.o_899 P)::(nat_lit 869,sh.o_905 P)::(nat_lit 870,sh.o_906 P)::(nat_lit 876,sh.o_917 P)::(nat_lit 877,sh.o_918 P)::[]
theorem aeD(P:aq):(KA P).map (λx=>(Cd.sh.tree_918 P).get x.1)=(KA P).map λx=>some x.2:=by kernel_rfl
theorem adg(P:aq):(KA P).map (λx=>alive x.2)=(KA P).map λx=>some x.2:=by kernel_rfl
theorem adh(P:aq):(KA P).all (λx=>Nat.blt x.1 878)=true:=by kernel_rfl
theorem qL{A B:Type}{f g:A->B}:∀{l:List A},l.map f=l.map g->∀x,x∈l->f x=g x
 |[],_,x,h=>by cases h
 |a::l,e,x,h=>by
  rw[aV,aV] at e;injection e with e1 e2;cases h with
  |head=>exact e1
  |tail _ h=>exact qL e2 x h
theorem lookup_mem:∀{K:aD},K.lookup a=some o->(a,o)∈K
 |[],h=>by cases h
 |(b,z)::K,h=>by
  rw[lq] at h;split at h
  ·rename_i e
   have e:a=b:=by simpa using e
   cases h;rw[e];exact .head _
  ·exact .tail _ (lookup_mem h)
theorem ahW(w:aR)(h:aS)(s:stays w h):(KA w.params).In h:=λa o e=>by
 have m:=lookup_mem e;refine s a o ?_
 have l:a<878:=by
  have:=fc.mp (adh w.params) _ m;simpa[Nat.blt_eq] using this
 unfold ig;rw[abs_get l (qL (aeD w.params) _ m)];exact qL (adg w.params) _ m
theorem ahX(walk:∀d:DefRec,d.name="answers"->d.params.defaults=[]->KZ qA qX (XL qA []) stays RR d [] (λf vs=>L6 f vs)):RR.Holds:=by
 refine holds_os (q:=qA) (loose:=qX) (Xt:=Bg) (XP:=XL qA []) (Yf:=λs=>s.heap) (Ya:=λw=>ig w.params) (YP:=stays) (N:=8000) ahV (λw s e b o h=>by rw[show s.heap=ig w.params from e];exact h) (λw h h' s k b o e=>k _ _ (s b o e)) (λs e=>xl_of s (nY.mp e).1) XL.keeps (by rfl) (by rfl) (by rfl) (λs e=>recFacts_of (nY.mp e).2) os_shapes P0 (by decide+kernel) ⟨rfl,rfl,rfl,rfl,rfl,by decide+kernel⟩ ⟨[.list []],by decide+kernel,by decide+kernel⟩ ?_;exact walk _ rfl rfl
end Cd
namespace L2
open PySem PySem.Spec PyProof.Rows
noncomputable abbrev Key:=Sum Int Str
noncomputable def Pn:Key->Value->Bool
 | .inl k,v=>tN k v
 | .inr x,v=>Value.isStrOf x v
noncomputable def aiY(w:aR):Key->Int
 | .inl k=>hashInt k
 | .inr x=>hashStr w x
theorem mU:∀{k:Key}{v:Value},Pn k v=true->(∃i t,k=uo i/\v=v_ i t)\/(∃x t,k=uq x/\v=MU x t)
 | .inl i,v,h=>by
   obtain⟨t,e⟩:=Value.isInt_shape (k:=i) (v:=v) h;exact .inl ⟨i,t,rfl,e⟩
 | .inr x,v,h=>by
   obtain⟨t,e⟩:=Value.isStrOf_shape (x:=x) (v:=v) h;exact .inr ⟨x,t,rfl,e⟩
theorem af4(a b:Int):decide ((uo a:Key)=uo b)=(a==b):=by
 by_cases e:a=b
 ·subst e;simp
 ·have h:¬(uo a:Key)=uo b:=λq=>e (uo.inj q)
  rw[decide_eq_false h];exact(beq_eq_false_iff_ne.mpr e).symm
theorem af5(a b:Str):decide ((uq a:Key)=uq b)=decide (a=b):=by
 by_cases e:a=b
 ·subst e;simp
 ·have h:¬(uq a:Key)=uq b:=λq=>e (uq.inj q)
  rw[decide_eq_false h,decide_eq_false e]
theorem af6(a:Int)(b:Str):decide ((uo a:Key)=uq b)=false:=decide_eq_false (λq=>nomatch q)
theorem af7(a:Str)(b:Int):decide ((uq a:Key)=uo b)=false:=decide_eq_false (λq=>nomatch q)
noncomputable def Hh(prog:bL)(w:aR):PySem.KeyKind prog w Key where
 is:=Pn
 hash:=aiY w
 inj:=λv a b ha hb=>by
  rcases mU ha with⟨i,t,rfl,rfl⟩|⟨x,t,rfl,rfl⟩
  ·rcases mU hb with⟨j,u,rfl,e⟩|⟨y,u,rfl,e⟩
   ·injection e with e1 _;rw[e1]
   ·exact nomatch e
  ·rcases mU hb with⟨j,u,rfl,e⟩|⟨y,u,rfl,e⟩
   ·exact nomatch e
   ·injection e with e1 _;rw[e1]
 byValue:=λk v h=>by
  rcases mU h with⟨i,t,rfl,rfl⟩|⟨x,t,rfl,rfl⟩<;>rfl
 pyHash:=λhv h=>by
  rcases mU hv with⟨i,t,rfl,rfl⟩|⟨x,t,rfl,rfl⟩
  ·exact wpAny_pyHash_int h
  ·exact wpAny_pyHash_str h
 eqBool:=λhu hv h=>by
  rcases mU hu with⟨i,t,rfl,rfl⟩|⟨x,t,rfl,rfl⟩
  ·rcases mU hv with⟨j,u,rfl,rfl⟩|⟨y,u,rfl,rfl⟩
   ·rw[af4] at h;exact wpAny_eqBool_int h
   ·rw[af6] at h;exact TF i t y u _ _ _ _ h
  ·rcases mU hv with⟨j,u,rfl,rfl⟩|⟨y,u,rfl,rfl⟩
   ·rw[af7] at h;exact TH x t j u _ _ _ _ h
   ·rw[af5] at h;exact wpAny_eqBool_str h
 «strs»:=λk x t v h=>by
  rcases mU h with⟨i,u,rfl,e⟩|⟨y,u,rfl,e⟩
  ·exact nomatch e
  ·injection e with e1 _
   subst e1;cases v<;>rfl
inductive V where
 |az|bl (b:Bool)|int (i:Int)|str (x:Str)|gC (b:Array UInt8)|Bh (b:UInt64)|ref (a:Addr)|ty (n:String)
 deriving DecidableEq
def RelV:V->Value->Prop
 | .az,u=>u=oB
 | .bl b,u=>u=qF b
 | .int i,u=>∃t,u=v_ i t
 | .str x,u=>∃t,u=MU x t
 | .gC b,u=>∃t,u=aal b t
 | .Bh b,u=>∃t,u=aam b t
 | .ref a,u=>u=f7 a
 | .ty n,u=>u=oE n
abbrev Vals:List V->List Value->Prop:=o8 RelV
theorem Vals.length(r:Vals xs us):xs.length=us.length:=XZ r
theorem Vals.get:∀{xs:List V}{us:List Value}{i:Nat}{x:V},Vals xs us->xs[i]?=some x->∃u,us[i]?=some u/\RelV x u
 |_,_,_,_,.nil,e=>by simp at e
 |_,_,0,_,.cons r _,e=>by simp at e;subst e;exact⟨_,rfl,r⟩
 |_,_,i+1,x,.cons _ t,e=>by
  obtain⟨u,h1,h2⟩:=Vals.get (i:=i) (x:=x) t (by simpa using e);exact⟨u,by simpa using h1,h2⟩
theorem Vals.set(r:RelV x u):∀{xs:List V}{us:List Value}(i:Nat),Vals xs us->Vals (xs.set i x) (us.set i u)
 |_,_,_,.nil=>.nil
 |_,_,0,.cons _ t=>.cons r t
 |_,_,i+1,.cons q t=>.cons q (Vals.set r i t)
theorem Vals.append:∀{xs ys:List V}{us ws:List Value},Vals xs us->Vals ys ws->Vals (xs++ys) (us++ws)
 |_,_,_,_,.nil,s=>s
 |_,_,_,_,.cons r t,s=>.cons r (Vals.append t s)
theorem Vals.take:∀{xs:List V}{us:List Value}(n:Nat),Vals xs us->Vals (xs.take n) (us.take n)
 |_,_,0,_=>.nil
 |_,_,_+1,.nil=>.nil
 |_,_,n+1,.cons r t=>.cons r (Vals.take n t)
theorem Vals.drop:∀{xs:List V}{us:List Value}(n:Nat),Vals xs us->Vals (xs.drop n) (us.drop n)
 |_,_,0,r=>r
 |_,_,_+1,.nil=>.nil
 |_,_,n+1,.cons _ t=>Vals.drop n t
def rH:Option V->Option Value->Prop
 |some v,some u=>RelV v u
 |none,none=>True
 |_,_=>False
def KV{κ:Type}:List (κ×V)->List (κ×Value)->Prop:=o8 λ(p:κ×V)(q:κ×Value)=>p.1=q.1/\RelV p.2 q.2
noncomputable def kV:Key->V
 | .inl i=>.int i
 | .inr x=>.str x
inductive HO where
 |lst (xs:List V)
 |tup (xs:List V)
 |dK (bw:List (Key×V))|dT (bw:List (List Key×V))
 |set (S:Int->Bool) (n:Nat)
 |ins (C dx:Addr) (fs:List (Str×V))
 |own (x:Addr)
 |xd (fs:List (Str×V))
 |met (f x:Addr)
 |IB (lo hi:Int)
 |fU (o:Obj) (u:HO)
 |rT (ps:Array Value)
 |ext (φ:aS->Prop)
noncomputable abbrev Hp:=Addr->Option HO
noncomputable def upd(H:Hp)(a:Addr)(o:HO):Hp:=λb=>if b=a then some o else H b
theorem au:upd H a o a=some o:=by unfold upd;rw[if_pos rfl]
theorem aI(h:b≠a):upd H a o b=H b:=by unfold upd;rw[if_neg h]
theorem qM:upd (upd H a o) a u=upd H a u:=by
 funext b;unfold upd;split<;>rfl
theorem bV{H:Hp}{o:HO}(h:H a=some o)(h':H b=none):a≠b:=by
 intro e;subst e;rw[h] at h';cases h'
section
variable(P:bL)(w:aR)
def fk(H:Hp)(h:aS)(a:Addr):HO->Prop
 | .lst xs=>xs.length<=sizeLine/\∃(its:List Value)(n:Nat),Vals xs its/\h.get? a=some {cls:=.type "list",data:=.seq its.toArray n}
 | .tup xs=>xs.length<=sizeLine/\∃its:List Value,Vals xs its/\IsTup h a its.toArray
 | .dK bw=>bw.length<=sizeLine/\(a==L7)=false/\∃vs,KV bw vs/\h.DictOf (Hh P w) a vs
 | .dT bw=>bw.length<=sizeLine/\(a==L7)=false/\∃xs:List (List Key×Addr×Value),
  o8 (λ(p:List Key×V)(q:List Key×Addr×Value)=>p.1=q.1/\H q.2.1=some (.tup (p.1.map kV))/\RelV p.2 q.2.2) bw xs/\
  ∃o es ep,h.get? a=some o/\o.ExactDict/\o.data=.dict es ep/\es.toList=xs.map (entryOfKey (tupleKind (Hh P w)))/\(xs.map (·.1)).Nodup
 | .set S n=>h.SetOf (HF P w) a S n
 | .ins C dx fs=>H dx=some (.own a)/\fs.length<=1000/\dx≠a/\h.get? a=some (qj C dx)/\
  ∃mA,h.Ns1 dx mA/\(∀f,rH (fs.lookup f) (mA f))/\Lm mA (fs.map (·.1))
 | .own _=>∃o,h.get? a=some o
 | .xd fs=>∃mA,h.Ns1 a mA/\∀f,rH (fs.lookup f) (mA f)
 | .IB lo hi=>∃t u v,h.get? a=some {cls:=.type "range",data:=.fields #[.int lo t,.int hi u,.int 1 v]}
 | .fU o u=>h.get? a=some o/\fk H h a u
 | .rT ps=>h.get? a=some {cls:=.none,data:=.fields ps}
 | .met f x=>h.get? a=some (Kn (.ref f) (.ref x))
 | .ext φ=>φ h/\(∃o,h.get? a=some o)/\∀h1 h2:aS,φ h1->(∀o,h1.get? a=some o->h2.get? a=some o)->φ h2
def dg(H:Hp)(h:aS):Prop:=∀a o,H a=some o->fk P w H h a o
end
section
variable{P:bL}{w:aR}{H H':Hp}{h h':aS}{a:Addr}{o:HO}
theorem fk.lt(x:fk P w H h a o):a<h.objs.size:=by
 cases o with
 |lst xs=>obtain⟨_,_,_,_,e⟩:=x;exact bT e
 |tup xs=>obtain⟨_,_,_,p⟩:=x;exact p.lt
 |dK bw=>obtain⟨_,_,_,_,o,_,_,e,_⟩:=x;exact bT e
 |dT bw=>obtain⟨_,_,_,_,o,_,_,e,_⟩:=x;exact bT e
 |set S n=>obtain⟨o,_,_,_,e,_⟩:=x;exact bT e
 |ins C dx fs=>obtain⟨_,_,_,e,_⟩:=x;exact bT e
 |own y=>obtain⟨_,e⟩:=x;exact bT e
 |xd fs=>obtain⟨_,⟨_,_,_,e,_⟩,_⟩:=x;exact bT e
 |IB lo hi=>obtain⟨_,_,_,e⟩:=x;exact bT e
 |fU ob u=>obtain⟨e,_⟩:=x;exact bT e
 |rT ps=>exact bT (show h.get? a=some _ from x)
 |met f y=>exact bT (show h.get? a=some _ from x)
 |ext φ=>obtain⟨_,⟨_,e⟩,_⟩:=x;exact bT e
theorem o8.P1{α β:Type}{F G:α->β->Prop}:∀{P6:List α}{P7:List β},o8 F P6 P7->(∀a b,F a b->G a b)->o8 G P6 P7
 |_,_,.nil,_=>.nil
 |_,_,.cons r t,f=>.cons (f _ _ r) (o8.P1 t f)
theorem fk.rJ(x:fk P w H h a o)(k:∀b u,(b=a\/H b=some (.own a))->h.get? b=some u->h'.get? b=some u)
 (ho:∀b,H b=some (.own a)->H' b=some (.own a)) (ht:∀b xs,H b=some (.tup xs)->H' b=some (.tup xs)):fk P w H' h' a o:=by
 induction o with
 |lst xs=>obtain⟨z,its,n,r,e⟩:=x;exact⟨z,its,n,r,k _ _ (.inl rfl) e⟩
 |tup xs=>obtain⟨z,its,r,ob,e,c⟩:=x;exact⟨z,its,r,ob,k _ _ (.inl rfl) e,c⟩
 |dK bw=>obtain⟨z,y,vs,r,ob,es,ep,e,c⟩:=x;exact⟨z,y,vs,r,ob,es,ep,k _ _ (.inl rfl) e,c⟩
 |dT bw=>
  obtain⟨z,y,xs,r,ob,es,ep,e,c⟩:=x;exact⟨z,y,xs,o8.P1 r λp q z=>⟨z.1,ht _ _ z.2.1,z.2.2⟩,ob,es,ep,k _ _ (.inl rfl) e,c⟩
 |set S n=>obtain⟨ob,es,ep,t,e,c⟩:=x;exact⟨ob,es,ep,t,k _ _ (.inl rfl) e,c⟩
 |ins C dx fs=>
  obtain⟨d,z,ne,e,mA,⟨od,es,ep,e2,c⟩,r⟩:=x;exact⟨ho _ d,z,ne,k _ _ (.inl rfl) e,mA,⟨od,es,ep,k _ _ (.inr d) e2,c⟩,r⟩
 |own y=>obtain⟨ob,e⟩:=x;exact⟨ob,k _ _ (.inl rfl) e⟩
 |xd fs=>obtain⟨mA,⟨od,es,ep,e,c⟩,r⟩:=x;exact⟨mA,⟨od,es,ep,k _ _ (.inl rfl) e,c⟩,r⟩
 |IB lo hi=>obtain⟨t,u,v,e⟩:=x;exact⟨t,u,v,k _ _ (.inl rfl) e⟩
 |fU ob u ih=>obtain⟨e,q⟩:=x;exact⟨k _ _ (.inl rfl) e,ih q⟩
 |rT ps=>
  have e:h.get? a=some {cls:=.none,data:=.fields ps}:=x;show h'.get? a=some {cls:=.none,data:=.fields ps};exact k a _ (.inl rfl) e
 |met f y=>
  have e:h.get? a=some (Kn (.ref f) (.ref y)):=x;show h'.get? a=some (Kn (.ref f) (.ref y));exact k a _ (.inl rfl) e
 |ext φ=>obtain⟨p,⟨o,e⟩,st⟩:=x;exact⟨st _ _ p λo q=>k _ _ (.inl rfl) q,⟨o,k _ _ (.inl rfl) e⟩,st⟩
theorem dg.lt(x:dg P w H h)(e:H a=some o):a<h.objs.size:=(x a o e).lt
theorem dg.fresh(x:dg P w H h)(e:h.objs.size<=a):H a=none:=by
 cases q:H a with
 |none=>rfl
 |some u=>exact absurd (gG (x.lt q) e) (jQ _)
theorem dg.kept(x:dg P w H h)(k:∀b u,h.get? b=some u->h'.get? b=some u):dg P w H h':=λa o e=>
 (x a o e).rJ (λb u z q=>k b u q) (λz q=>q) λz z q=>q
theorem dg.laid(x:dg P w H h)(k:∀b u,h.get? b=some u->h'.get? b=some u)(hp:h.objs.size<=a)(new:fk P w (upd H a o) h' a o):dg P w (upd H a o) h':=λb u e=>by
 have hn:=x.fresh hp
 by_cases hb:b=a
 ·subst hb;rw[au] at e;cases e;exact new
 ·rw[aI hb] at e
  exact(x b u e).rJ (λc v z q=>k c v q) (λc q=>by rw[aI (bV q hn)];exact q) λc xs q=>by rw[aI (bV q hn)];exact q
end
def Rd(H:Hp)(a:Addr)(u:HO):Prop:=H a=some u\/∃o,H a=some (.fU o u)
theorem Rd.ok(r:Rd H a u)(x:dg P w H h):fk P w H h a u:=by
 rcases r with r|⟨o,r⟩
 ·exact x a u r
 ·obtain⟨_,q⟩:=x a _ r
  exact q
def Bj:Option HO->Prop
 |some (.lst _)=>True
 |some (.dK _)=>True
 |some (.dT _)=>True
 |some (.set _ _)=>True
 |some (.ins _ _ _)=>True
 |some (.ext _)=>True
 |_=>False
section
variable{P:bL}{w:aR}{H:Hp}{h h':aS}{x e:Addr}{o':HO}
theorem dg.write(ok:dg P w H h)(mu:Bj (H x))(he:e=x\/H e=some (.own x))(k:∀b u,b≠e->h.get? b=some u->h'.get? b=some u)(uN:∃u,h'.get? e=some u)
 (new:fk P w (upd H x o') h' x o'):dg P w (upd H x o') h':=λb u q=>by
 have P8:∀c y,H c=some (.own y)->c≠x:=λc y r z=>by subst z;rw[r] at mu;exact mu
 have aiZ:∀c xs,H c=some (.tup xs)->c≠x:=λc xs r z=>by subst z;rw[r] at mu;exact mu
 by_cases hb:b=x
 ·subst hb;rw[au] at q;cases q;exact new
 ·rw[aI hb] at q
  by_cases rV:b=e
  ·have q':H b=some (.own x):=by
    rcases he with z|z
    ·exact absurd (rV.trans z) hb
    ·rw[rV];exact z
   rw[q] at q';cases q';obtain⟨v,hv⟩:=uN;exact⟨v,by rw[rV];exact hv⟩
  ·refine(ok b u q).rJ (λc v hc r=>k c v ?_ r) (λc r=>by rw[aI (P8 c b r)];exact r) λc xs r=>by rw[aI (aiZ c xs r)];exact r
   rcases hc with rfl|hc
   ·exact rV
   ·rintro rfl
    rcases he with z|z
    ·exact P8 c b hc z
    ·rw[hc] at z;cases z;exact hb rfl
end
structure Un(fs ex:List Addr)(H H':Hp)(h h':aS):Prop where
 keep:∀b o,h.get? b=some o->H b=none->b∉fs->b∉ex->h'.get? b=some o
 slot:∀b o,h.get? b=some o->H b=none->b∈fs->b∉ex->∃sl,h'.get? b=some {o with slots:=sl}
 free:∀b o,h.get? b=some o->H b=none->b∉ex->H' b=none
 there:∀b o,h.get? b=some o->b∉ex->∃o',h'.get? b=some o'
 iN:∀b xs,H b=some (.tup xs)->H' b=some (.tup xs)
 ng:∀b o u,H b=some (.fU o u)->H' b=some (.fU o u)
 pG:∀b ps,H b=some (.rT ps)->∃more,H' b=some (.rT (ps++more))
section
variable{fs fs' ex ex':List Addr}{H H1 H2:Hp}{h h1 h2 h':aS}{a x e:Addr}{o:HO}
theorem Un.any(u:Un fs ex H H1 h h1)(q:h.get? b=some ob)(n:H b=none)(hx:b∉ex):∃sl,h1.get? b=some {ob with slots:=sl}:=by
 by_cases hb:b∈fs
 ·exact u.slot b ob q n hb hx
 ·exact⟨ob.slots,u.keep b ob q n hb hx⟩
theorem Un.kept(k:∀b u,h.get? b=some u->h'.get? b=some u):Un fs ex H H h h':=
 ⟨λb ob q z z z=>k b ob q,λb ob q z z z=>⟨ob.slots,k b ob q⟩,λz z z n z=>n,λb ob q z=>⟨ob,k b ob q⟩,λz z q=>q,λz z z q=>q,λz ps q=>⟨#[],by rw[q];simp⟩⟩
theorem Un.refl:Un fs ex H H h h:=Un.kept λz z q=>q
theorem Un.laid(k:∀b u,h.get? b=some u->h'.get? b=some u)(hp:h.objs.size<=a)(hn:H a=none):Un fs ex H (upd H a o) h h' where
 keep:=λb u q z z z=>k b u q
 slot:=λb u q z z z=>⟨u.slots,k b u q⟩
 free:=λb u q n z=>by rw[aI (gw (gG (bT q) hp))];exact n
 there:=λb u q z=>⟨u,k b u q⟩
 iN:=λb xs q=>by rw[aI (bV q hn)];exact q
 ng:=λb u xs q=>by rw[aI (bV q hn)];exact q
 pG:=λb ps q=>⟨#[],by rw[aI (bV q hn),q];simp⟩
theorem Un.write(mu:Bj (H x))(he:e=x\/H e=some (.own x))(k:∀b u,b≠e->h.get? b=some u->h'.get? b=some u)(uN:∃u,h'.get? e=some u):Un fs ex H (upd H x o) h h':=by
 have hx:∀b,H b=none->b≠x:=λb n z=>by subst z;rw[n] at mu;exact mu
 have hb:∀b,H b=none->b≠e:=λb n z=>by
  subst z;rcases he with r|r
  ·exact hx b n r
  ·rw[n] at r;cases r
 have hm:∀b u,H b=some u->¬Bj (some u)->b≠x:=λb u q nm z=>by subst z;rw[q] at mu;exact nm mu
 refine⟨λb u q n y y=>k b u (hb b n) q,λb u q n y y=>⟨u.slots,k b u (hb b n) q⟩,λb u q n y=>by rw[aI (hx b n)];exact n,λb u q y=>?_,
  λb xs q=>by rw[aI (hm b _ q λz=>z)];exact q,λb u xs q=>by rw[aI (hm b _ q λz=>z)];exact q,λb ps q=>⟨#[],by rw[aI (hm b _ q λz=>z),q];simp⟩⟩
 by_cases rV:b=e
 ·subst rV;exact uN
 ·exact⟨u,k b u rV q⟩
end
noncomputable def Bk(h:aS)(H:Hp):List Addr:=(cS h.objs.size).filter λa=>(H a).isSome
noncomputable def nh(h:aS)(H:Hp):aS:=PySem.W.hideAll h (Bk h H)
theorem abB(h:aS)(H:Hp):(nh h H).objs.size=h.objs.size:=PySem.W.hideAll_size _ _
theorem adi(e:h.get? b=some o)(n:H b=none):(nh h H).get? b=some o:=
 PySem.W.hideAll_get _ e λhm=>by
  have q:(H b).isSome=true:=(ly.mp hm).2;rw[n] at q;simp at q
theorem aeE(e:(nh h H).get? b=some o):h.get? b=some o/\H b=none:=by
 have e':h.get? b=some o:=PySem.W.of_hideAll (Bk h H) e;refine⟨e',?_⟩;cases q:H b with
 |none=>rfl
 |some x=>
  have hm:b∈Bk h H:=ly.mpr ⟨yY.mpr (bT e'),by simp[q]⟩;have z:(nh h H).get? b=none:=PySem.W.hideAll_none (Bk h H) hm;rw[z] at e;cases e
noncomputable def aeF(g h:aS)(L:Addr):List (Addr×Obj):=(cS h.objs.size).filterMap λa=>if a=L\/(g.get? a).isSome=true then none else (h.get? a).map λo=>(a,o)
noncomputable def rest(g h:aS)(L d:Addr):List (Addr×Obj):=(aeF g h L).filter λp=>decide (p.1≠d)
structure Mod(K:aD)(mg:Str->Option Value)(base:aS):Prop where
 xQ:K.In base
 glob:base.Ns dm mg
 blt:∃mb,base.Ns L8 mb/\∀x:Str,x≠"__name__"->mb x=vQ x
 nolimit:base.NoLimit
structure Cx where
 prog:bL
 w:aR
 K:aD
 mg:Str->Option Value
 base:aS
 A:cK
 N:List Str
 fV:ao
 xR:Hp
 env:Env
 outer:List Env
 stack:List Env
 ex:List Addr
 fn:Str->Bool
 calm:Bool
 pn:List (Addr×Obj)
 xe:Value->ao->Prop
noncomputable def kW(l:List Env):List Addr:=l.filterMap (·.frame)
noncomputable abbrev Cx.fs(X:Cx):List Addr:=kW X.outer
def pQ(sc:bN)(x:Str):Prop:=sc.names.lookup x=some .local\/sc.names.lookup x=some .cell\/sc.names.lookup x=some .free
def Loc(sc:bN)(x:Str):Prop:=sc.names.lookup x=some .local\/sc.names.lookup x=some .cell
def Look(env:Env)(h:aS)(m:Str->Option Value)(x:Str)(u:Value):Prop:=
 (env.kindOf x=some .local/\m x=some u)\/((env.kindOf x=some .cell\/env.kindOf x=some .free)/\∃c,env.cells.lookup x=some c/\h.IsCell c (some u))
structure Cx.Ok(X:Cx):Prop where
 mod:Mod X.K X.mg X.base
 kind:X.env.scope.kind=.function
 glob:X.env.globals=dm
 blt:X.env.builtins=L8
 above:X.fV.heap.objs.size<=X.env.locals
 inj:∀x y c,X.env.cells.lookup x=some c->X.env.cells.lookup y=some c->x=y
 has:∀x,(X.env.kindOf x=some .cell\/X.env.kindOf x=some .free)->∃c,X.env.cells.lookup x=some c
 xS:∀x c,X.fn x=true->X.env.cells.lookup x=some c->X.fV.heap.objs.size<=c
 hd:X.calm=true->X.A.handled=none
 frames:X.A.frames=some X.stack
 Bl:X.stack=X.outer\/(X.stack=X.env::X.outer/\X.env.frame=some X.env.locals)
 Bm:∀b∈X.ex,b≠X.env.locals/\∀x c,X.env.cells.lookup x=some c->c≠b
 bs:∀b o,X.base.get? b=some o->X.fV.heap.get? b=some o/\X.xR b=none
 l_:X.base.objs.size<=X.fV.heap.objs.size
 xC:∀b o,X.base.get? b=some o->b∉X.ex
 xD:∀b∈X.ex,b∉X.fs
 j9:X.fV.heap.FunFrames X.base X.outer
 rW:∀b∈X.fs,X.xR b=none
structure Inv(X:Cx)(pins:List (Addr×Obj))(σ:List (Option V))(H:Hp)(s:ao):Prop where
 ok:X.Ok
 os:s.os=X.fV.os
 bare:ur s.gens
 base:Un X.fs X.ex X.xR H X.fV.heap s.heap
 loc:∃m,s.heap.Ns X.env.locals m/\∀(i:Nat)(x:Str)(v:V),X.N[i]?=some x->σ[i]?=some (some v)->pQ X.env.scope x->∃u,RelV v u/\Look X.env s.heap m x u
 cell:∀x c,X.env.cells.lookup x=some c->∃v,s.heap.IsCell c v
 free:H X.env.locals=none
 kR:∀x c,X.env.cells.lookup x=some c->H c=none
 pin:∀p∈X.pn++pins,s.heap.get? p.1=some p.2/\H p.1=none/\p.1≠X.env.locals/\p.1∉X.fs/\∀v,p.2.data≠.cell v
 aE:dg X.prog X.w H s.heap
 len:σ.length=X.N.length
section
variable{X:Cx}{pins:List (Addr×Obj)}{σ:List (Option V)}{H H':Hp}{s:ao}{h':aS}
theorem Cx.Ok.ai0(ok:X.Ok)(e:X.base.get? b=some o):b∉X.fs:=λhb=>by
 have:=(ok.j9.mem hb).1;rw[e] at this;cases this
theorem Inv.bs(I:Inv X pins σ H s):∀b o,X.base.get? b=some o->s.heap.get? b=some o/\H b=none:=λb o e=>
 ⟨I.base.keep b o (I.ok.bs b o e).1 (I.ok.bs b o e).2 (I.ok.ai0 e) (I.ok.xC b o e),I.base.free b o (I.ok.bs b o e).1 (I.ok.bs b o e).2 (I.ok.xC b o e)⟩
theorem Inv.bk(I:Inv X pins σ H s):∀b o,X.base.get? b=some o->s.heap.get? b=some o:=λb o e=>(I.bs b o e).1
theorem Inv.mod(I:Inv X pins σ H s):Mod X.K X.mg X.base:=I.ok.mod
theorem Inv.iP(I:Inv X pins σ H s):X.K.In s.heap:=I.ok.mod.xQ.keeps I.bk
theorem Inv.fr(I:Inv X pins σ H s):∃m,Fr X.base X.env.locals s.heap m:=
 let ⟨m,hn,_⟩:=I.loc
 ⟨m,hn,I.bk,eU I.ok.l_ I.ok.above⟩
theorem Inv.lt(I:Inv X pins σ H s):X.env.locals<s.heap.objs.size:=let ⟨_,hn,_⟩:=I.loc;hn.lt
theorem Inv.sz(I:Inv X pins σ H s):X.fV.heap.objs.size<=s.heap.objs.size:=eU I.ok.above (Ln I.lt)
theorem Inv.ai1(I:Inv X pins σ H s)(h:s.heap.objs.size<=a):a∉X.fs:=λhb=>by
 obtain⟨_,o,ho,_⟩:=I.ok.j9.mem hb;exact absurd (gG (bT ho) (eU I.sz h)) (jQ _)
theorem Inv.rX(I:Inv X pins σ H s):∀x c,X.env.cells.lookup x=some c->c≠X.env.locals:=λx c e z=>by
 obtain⟨v,o,ho,hd⟩:=I.cell x c e;obtain⟨m,⟨o',es,ep,mh,IC,_⟩,_⟩:=I.loc;rw[z,mh] at ho;cases ho;rw[IC] at hd;cases hd
theorem Inv.j9(I:Inv X pins σ H s):s.heap.FunFrames X.base X.outer:=by
 have all:∀(l:List Env),(∀b∈kW l,b∈X.fs)->X.fV.heap.FunFrames X.base l->s.heap.FunFrames X.base l:=by
  intro l
  induction l with
  |nil=>intro _ _;trivial
  |cons env r ih=>
   intro hs hl;obtain⟨hk,⟨L,o,hf,hn,ho,hd⟩,hr⟩:=hl;have hL:L∈X.fs:=hs L (by unfold kW;rw[nZ,hf];exact jN);obtain⟨sl,e⟩:=I.base.slot L o ho (I.ok.rW L hL) hL λz=>I.ok.xD L z hL;exact⟨hk,⟨L,_,hf,hn,e,hd⟩,ih (λb hb=>hs b (by unfold kW;rw[nZ,hf];exact fD _ hb)) hr⟩
 exact all X.outer (λy hb=>hb) I.ok.j9
theorem Inv.stack(I:Inv X pins σ H s):s.heap.FunFrames X.base X.stack:=by
 rcases I.ok.Bl with e|⟨e,hf⟩
 ·rw[e];exact I.j9
 ·rw[e]
  obtain⟨m,hn,_⟩:=I.loc;refine .cons (by rw[I.ok.kind];decide) hf hn ?_ I.j9;exact aS.get?_none_of_le (eU I.ok.l_ I.ok.above)
theorem Inv.HJ(I:Inv X pins σ H s):∀b∈kW X.stack,b∈X.env.locals::X.fs:=λb hb=>by
 rcases I.ok.Bl with e|⟨e,hf⟩
 ·rw[e] at hb;exact fD _ hb
 ·rw[e] at hb
  unfold kW at hb;rw[nZ,hf] at hb;exact hb
theorem Inv.NP(I:Inv X pins σ H s):∀b∈kW X.stack,H b=none:=λb hb=>by
 rcases cH.mp (I.HJ b hb) with e|hb
 ·rw[e];exact I.free
 ·obtain⟨_,o,ho,_⟩:=I.ok.j9.mem hb
  exact I.base.free b o ho (I.ok.rW b hb) λz=>I.ok.xD b z hb
theorem Inv.step{t':Nat}{d':Drawn}{ch:List Addr}(I:Inv X pins σ H s)(ki:∀b∈ch,(b∈X.ex\/X.fV.heap.objs.size<=b)/\b≠X.env.locals/\(∀x c,X.env.cells.lookup x=some c->c≠b)/\∀p∈X.pn++pins,p.1≠b)(keep:∀b o,b≠X.env.locals->b∉X.fs->b∉ch->s.heap.get? b=some o->H b=none->h'.get? b=some o)(slot:∀b o,b≠X.env.locals->b∈X.fs->b∉ch->s.heap.get? b=some o->H b=none->∃sl,h'.get? b=some {o with slots:=sl})(free:∀b o,b∉ch->s.heap.get? b=some o->H b=none->H' b=none)(there:∀b o,b∉ch->s.heap.get? b=some o->∃o',h'.get? b=some o')(iN:∀b xs,H b=some (.tup xs)->H' b=some (.tup xs))(ng:∀b o u,H b=some (.fU o u)->H' b=some (.fU o u))(pG:∀b ps,H b=some (.rT ps)->∃more,H' b=some (.rT (ps++more)))(ns:∀m,s.heap.Ns X.env.locals m->h'.Ns X.env.locals m)(aE:dg X.prog X.w H' h')(hg:ur g'):
 Inv X pins σ H' {s with heap:=h',gens:=g',drawn:=d',toks:=t'}:=by
 have QI:∀b o,X.fV.heap.get? b=some o->b≠X.env.locals:=λb o e=>gw (gG (bT e) I.ok.above)
 have Bo:∀b o,X.fV.heap.get? b=some o->b∉X.ex->b∉ch:=λb o e hx hb=>by
  rcases(ki b hb).1 with z|z
  ·exact hx z
  ·exact absurd (gG (bT e) z) (jQ _)
 have cellK:∀x c,X.env.cells.lookup x=some c->∀v,s.heap.IsCell c v->h'.IsCell c v:=λx c e v ⟨o,ho,hd⟩=>by
  have xT:c∉ch:=λz=>(ki c z).2.2.1 x c e rfl
  by_cases hc:c∈X.fs
  ·obtain⟨sl,q⟩:=slot c o (I.rX x c e) hc xT ho (I.kR x c e)
   exact⟨_,q,hd⟩
  ·exact⟨o,keep c o (I.rX x c e) hc xT ho (I.kR x c e),hd⟩
 refine⟨I.ok,I.os,hg,⟨λb o e n hb hx=>?_,λb o e n hb hx=>?_,λb o e n hx=>?_,λb o e hx=>?_,λb xs e=>iN b xs (I.base.iN b xs e),λb o xs e=>ng b o xs (I.base.ng b o xs e),λb ps e=>?_⟩,?_,λx c e=>?_,?_,λx c e=>?_,λp hp=>?_,aE,I.len⟩
 ·exact keep b o (QI b o e) hb (Bo b o e hx) (I.base.keep b o e n hb hx) (I.base.free b o e n hx)
 ·obtain⟨sl,e1⟩:=I.base.slot b o e n hb hx
  obtain⟨sl',e2⟩:=slot b _ (QI b o e) hb (Bo b o e hx) e1 (I.base.free b o e n hx);exact⟨sl',e2⟩
 ·obtain⟨o',e1⟩:=I.base.there b o e hx
  exact free b o' (Bo b o e hx) e1 (I.base.free b o e n hx)
 ·obtain⟨o',e1⟩:=I.base.there b o e hx
  exact there b o' (Bo b o e hx) e1
 ·obtain⟨m1,e1⟩:=I.base.pG b ps e
  obtain⟨m2,e2⟩:=pG b _ e1;exact⟨m1++m2,by rw[e2,Array.append_assoc]⟩
 ·obtain⟨m,hn,hl⟩:=I.loc
  refine⟨m,ns m hn,λi x v e1 e2 e3=>?_⟩;obtain⟨u,r,l⟩:=hl i x v e1 e2 e3;refine⟨u,r,?_⟩;rcases l with l|⟨k,c,e,z⟩
  ·exact .inl l
  ·exact .inr ⟨k,c,e,cellK x c e _ z⟩
 ·obtain⟨v,z⟩:=I.cell x c e
  exact⟨v,cellK x c e v z⟩
 ·obtain⟨m,⟨o,_,_,ho,_⟩,_⟩:=I.loc
  exact free _ o (λz=>(ki _ z).2.1 rfl) ho I.free
 ·obtain⟨v,o,ho,hd⟩:=I.cell x c e
  exact free c o (λz=>(ki c z).2.2.1 x c e rfl) ho (I.kR x c e)
 ·obtain⟨e,n,ne,nf,d⟩:=I.pin p hp
  have xT:p.1∉ch:=λz=>(ki p.1 z).2.2.2 p hp rfl;exact⟨keep p.1 p.2 ne nf xT e n,free p.1 p.2 xT e n,ne,nf,d⟩
theorem Inv.un(I:Inv X pins σ H s)(u:Un X.fs [] H H' s.heap h')(aE:dg X.prog X.w H' h'):Inv X pins σ H' {s with heap:=h',toks:=t'}:=by
 obtain⟨m,⟨o,es,ep,ho,r⟩,_⟩:=id I.loc;obtain⟨sl,hL⟩:=u.any ho I.free (by simp)
 exact I.step (g':=s.gens) (d':=s.drawn) (ch:=[]) (λy z=>nomatch z) (λb o y hb y e n=>u.keep b o e n hb (by simp)) (λb o y hb y e n=>u.slot b o e n hb (by simp)) (λb o y e n=>u.free b o e n (by simp)) (λb o y e=>u.there b o e (by simp)) u.iN u.ng u.pG (λm' hm=>by
  obtain⟨o',ID,IE,mh,r'⟩:=hm;rw[ho] at mh;cases mh;exact⟨_,ID,IE,hL,r'⟩) aE I.bare
theorem Inv.call(I:Inv X pins σ H s)(u:Un (kW X.stack) ch H H' s.heap h')(aE:dg X.prog X.w H' h')(hg:ur g')(ki:∀b∈ch,(b∈X.ex\/X.fV.heap.objs.size<=b)/\b≠X.env.locals/\(∀x c,X.env.cells.lookup x=some c->c≠b)/\∀p∈X.pn++pins,p.1≠b):
 Inv X pins σ H' {s with heap:=h',gens:=g',drawn:=d',toks:=t'}:=by
 obtain⟨m,⟨o,es,ep,ho,r⟩,_⟩:=id I.loc;obtain⟨sl,hL⟩:=u.any ho I.free λz=>(ki _ z).2.1 rfl
 exact I.step (ch:=ch) ki (λb o hL hb hc e n=>u.keep b o e n (λz=>(cH.mp (I.HJ b z)).elim hL hb) hc) (λb o y y hc e n=>u.any e n hc) (λb o hc e n=>u.free b o e n hc) (λb o hc e=>u.there b o e hc) u.iN u.ng u.pG (λm' hm=>by
  obtain⟨o',ID,IE,mh,r'⟩:=hm;rw[ho] at mh;cases mh;exact⟨_,ID,IE,hL,r'⟩) aE hg
theorem Inv.turned(I:Inv X pins σ H s)(k:∀b o,b≠it->s.heap.get? b=some o->h'.get? b=some o)(hn:H it=none)(hL:it≠X.env.locals)(h1:it∈X.ex\/X.fV.heap.objs.size<=it)(h2:∀x c,X.env.cells.lookup x=some c->c≠it)(h3:∀p∈X.pn++pins,p.1≠it):Inv X pins σ H {s with heap:=h',toks:=t'}:=by
 have pR:∀b u,H b=some u->b≠it:=λb u e z=>by rw[z,hn] at e;cases e
 refine I.step (g':=s.gens) (d':=s.drawn) (ch:=[it]) (λb hb=>?_) (λb o y y hc e y=>k b o (λz=>hc (by simp[z])) e) (λb o y y hc e y=>⟨o.slots,k b o (λz=>hc (by simp[z])) e⟩) (λy y y y n=>n)
  (λb o hc e=>⟨o,k b o (λz=>hc (by simp[z])) e⟩) (λy y e=>e) (λy y y e=>e) (λb ps e=>⟨#[],by rw[e];simp⟩) (λm hm=>?_) (λb u e=>?_) I.bare
 ·have e:b=it:=by simpa using hb
  subst e;exact⟨h1,hL,h2,h3⟩
 ·obtain⟨o,es,ep,ho,r⟩:=hm
  exact⟨o,es,ep,k _ o (i9 hL) ho,r⟩
 ·refine(I.aE b u e).rJ (λc v hc q=>k c v ?_ q) (λy q=>q) λy y q=>q
  rcases hc with z|z
  ·rw[z];exact pR b u e
  ·exact pR c _ z
theorem Inv.tok(I:Inv X pins σ H s)(t:Nat):Inv X pins σ H {s with toks:=t}:=I.un (h':=s.heap) (t':=t) Un.refl I.aE
theorem Inv.kept(I:Inv X pins σ H s)(k:∀b u,s.heap.get? b=some u->h'.get? b=some u):Inv X pins σ H {s with heap:=h',toks:=t'}:=I.un (Un.kept k) (I.aE.kept k)
theorem Inv.laid(I:Inv X pins σ H s)(k:∀b u,s.heap.get? b=some u->h'.get? b=some u)(hp:s.heap.objs.size<=a)(new:fk X.prog X.w (upd H a o) h' a o):
 Inv X pins σ (upd H a o) {s with heap:=h',toks:=t'}:=I.un (Un.laid k hp (I.aE.fresh hp)) (I.aE.laid k hp new)
theorem Inv.write(I:Inv X pins σ H s)(mu:Bj (H x))(he:e=x\/H e=some (.own x))(k:∀b u,b≠e->s.heap.get? b=some u->h'.get? b=some u)(uN:∃u,h'.get? e=some u)(new:fk X.prog X.w (upd H x o) h' x o):Inv X pins σ (upd H x o) {s with heap:=h',toks:=t'}:=I.un (Un.write mu he k uN) (I.aE.write mu he k uN new)
theorem Inv.weak(I:Inv X pins σ H s)(hl:aF.length=σ.length)(w:∀(i:Nat) v,aF[i]?=some (some v)->σ[i]?=some (some v)):Inv X pins aF H s:=
 ⟨I.ok,I.os,I.bare,I.base,let ⟨m,hn,hl'⟩:=I.loc;⟨m,hn,λi x v e1 e2 e3=>hl' i x v e1 (w i v e2) e3⟩,I.cell,I.free,I.kR,I.pin,I.aE,hl.trans I.len⟩
theorem Inv.NQ(I:Inv X pins σ H s)(h:∀p∈ahY,s.heap.get? p.1=some p.2/\H p.1=none/\p.1≠X.env.locals/\p.1∉X.fs/\∀v,p.2.data≠.cell v):Inv X ahY σ H s:=
 ⟨I.ok,I.os,I.bare,I.base,I.loc,I.cell,I.free,I.kR,λp hp=>(jO.mp hp).elim (λz=>I.pin p (SV _ z)) (h p),I.aE,I.len⟩
theorem GW{N:List Str}(hN:N.Nodup){i j:Nat}(a:N[i]?=some x)(b:N[j]?=some x):i=j:=by
 obtain⟨h1,e1⟩:=dF.mp a;obtain⟨h2,e2⟩:=dF.mp b;exact(U4 hN).mp (e1.trans e2.symm)
theorem Ml(I:Inv X pins σ H s)(hN:X.N.Nodup)(hi:X.N[i]?=some x)(hx:Loc X.env.scope x)(r:RelV v u)(h:∀s',Inv X pins (σ.set i (some v)) H s'->(∃a,lF a s.heap s'.heap/\(a=X.env.locals\/X.env.cells.lookup x=some a))->Q () s')(hf:X.fn x=true\/X.env.scope.names.lookup x=some .local:=by first|exact .inl rfl|exact .inr rfl|assumption):aj M A (MV X.env x u) Q E s:=by
 obtain⟨m,hn,hl⟩:=id I.loc;have ai2:(X.env.scope.kind==.class||(X.env.scope.kind==.module&&X.env.locals !=X.env.globals))=false:=by rw[I.ok.kind];rfl
 have P9:i<σ.length:=by rw[I.len];exact(dF.mp hi).1
 have rX:=I.rX
 have tracked:∀{a:Addr}{h':aS},(∃o,s.heap.get? a=some o/\H a=none)->lF a s.heap h'->dg X.prog X.w H h':=λ{a h'} ha hs b ob e=>by
  obtain⟨_,_,uy⟩:=ha;refine(I.aE b ob e).rJ (λc w' hc q=>(hs.2 c ?_).trans q) (λt q=>q) λt t q=>q;rintro rfl;rcases hc with rfl|hc
  ·rw[uy] at e;cases e
  ·rw[uy] at hc;cases hc
 rcases hx with hk|hk
 ·refine wpAny_storeName_local hk hn (λh' Bp hs=>?_) ai2
  obtain⟨oL,_,_,hoL,_⟩:=id hn;refine h _ ⟨I.ok,I.os,I.bare,⟨λb o e n hb hx=>?_,λb o e n hb hx=>?_,I.base.free,λb o e hx=>?_,I.base.iN,I.base.ng,I.base.pG⟩,⟨_,Bp,λj y v' e1 e2 e3=>?_⟩,λy c e=>?_,I.free,I.kR,λp hp=>?_,tracked ⟨oL,hoL,I.free⟩ hs,by simpa using I.len⟩ ⟨_,hs,.inl rfl⟩
  ·exact(hs.2 b (gw (gG (bT e) I.ok.above))).trans (I.base.keep b o e n hb hx)
  ·obtain⟨sl,e1⟩:=I.base.slot b o e n hb hx
   exact⟨sl,(hs.2 b (gw (gG (bT e) I.ok.above))).trans e1⟩
  ·obtain⟨o',e1⟩:=I.base.there b o e hx
   exact⟨o',(hs.2 b (gw (gG (bT e) I.ok.above))).trans e1⟩
  ·by_cases hj:j=i
   ·subst hj
    rw[hi] at e1;cases e1;rw[JX P9] at e2;cases e2;exact⟨u,r,.inl ⟨hk,by simp⟩⟩
   ·rw[J5 (i9 hj)] at e2
    obtain⟨u',r',q⟩:=hl j y v' e1 e2 e3;refine⟨u',r',?_⟩;rcases q with⟨k,e⟩|⟨k,c,e,z⟩
    ·refine .inl ⟨k,?_⟩
     have:y≠x:=λe=>hj (GW hN e1 (e▸hi));simp[this,e]
    ·exact .inr ⟨k,c,e,z.sameBut hs (rX y c e)⟩
  ·obtain⟨w',z⟩:=I.cell y c e
   exact⟨w',z.sameBut hs (rX y c e)⟩
  ·obtain⟨e,n,ne,nf,d⟩:=I.pin p hp
   exact⟨(hs.2 p.1 ne).trans e,n,ne,nf,d⟩
 ·have IF:X.fn x=true:=by
   rcases hf with z|z
   ·exact z
   ·rw[z] at hk;cases hk
  obtain⟨c,hc⟩:=I.ok.has x (.inl hk);obtain⟨w',z⟩:=I.cell x c hc;refine wpAny_storeName_cell I.ok.kind hk hc z (λh' cV hs=>?_);obtain⟨oc,QJ,ai3⟩:=id z;refine h {s with heap:=h'} ⟨I.ok,I.os,I.bare,⟨λb o e n hb hx=>?_,λb o e n hb hx=>?_,I.base.free,λb o e hx=>?_,I.base.iN,I.base.ng,I.base.pG⟩,⟨m,hn.sameBut hs (i9 (rX x c hc)),λj y v' e1 e2 e3=>?_⟩,λy c' e=>?_,I.free,I.kR,λp hp=>?_,tracked ⟨oc,QJ,I.kR x c hc⟩ hs,by simpa using I.len⟩ ⟨c,hs,.inr hc⟩
  ·exact(hs.2 b (gw (gG (bT e) (I.ok.xS x c IF hc)))).trans (I.base.keep b o e n hb hx)
  ·obtain⟨sl,e1⟩:=I.base.slot b o e n hb hx
   exact⟨sl,(hs.2 b (gw (gG (bT e) (I.ok.xS x c IF hc)))).trans e1⟩
  ·obtain⟨o',e1⟩:=I.base.there b o e hx
   exact⟨o',(hs.2 b (gw (gG (bT e) (I.ok.xS x c IF hc)))).trans e1⟩
  ·by_cases hj:j=i
   ·subst hj
    rw[hi] at e1;cases e1;rw[JX P9] at e2;cases e2;exact⟨u,r,.inr ⟨.inl hk,c,hc,cV⟩⟩
   ·rw[J5 (i9 hj)] at e2
    obtain⟨u',r',q⟩:=hl j y v' e1 e2 e3;refine⟨u',r',?_⟩;rcases q with q|⟨k,c',e,z'⟩
    ·exact .inl q
    ·refine .inr ⟨k,c',e,z'.sameBut hs ?_⟩
     rintro rfl;exact hj (GW hN e1 (I.ok.inj _ _ _ e hc▸hi))
  ·by_cases xU:c'=c
   ·subst xU;exact⟨_,cV⟩
   ·obtain⟨w2,z2⟩:=I.cell y c' e
    exact⟨w2,z2.sameBut hs xU⟩
  ·obtain⟨e,n,ne,nf,d⟩:=I.pin p hp
   refine⟨(hs.2 p.1 ?_).trans e,n,ne,nf,d⟩;intro q;rw[q,QJ] at e;have q':oc=p.2:=dM e;exact d w' (by rw[←q'];exact ai3)
theorem GX(I:Inv X pins σ H s)(hN:X.N.Nodup)(hi:X.N[i]?=some x)(hx:Loc X.env.scope x)(r:RelV v u)(h:∀s',Inv X pins (σ.set i (some v)) H s'->Q () s')(hf:X.fn x=true\/X.env.scope.names.lookup x=some .local:=by first|exact .inl rfl|exact .inr rfl|assumption):aj M A (MV X.env x u) Q E s:=
 Ml I hN hi hx r (λs' I' z=>h s' I') hf
theorem Inv.ahZ(I:Inv X pins σ H s)(ho:s'.os=s.os)(u:Un (kW X.stack) ch H H' s.heap s'.heap)(aE:dg X.prog X.w H' s'.heap)(hg:ur s'.gens)(ki:∀b∈ch,(b∈X.ex\/X.fV.heap.objs.size<=b)/\b≠X.env.locals/\(∀x c,X.env.cells.lookup x=some c->c≠b)/\∀p∈X.pn++pins,p.1≠b):Inv X pins σ H' s':=by
 obtain⟨h',g',d',t',o'⟩:=s';have e:o'=s.os:=ho;subst e;exact I.call (g':=g') (t':=t') (d':=d') u aE hg ki
end
noncomputable abbrev XK:=Value->Option Addr->Hp->Prop
noncomputable abbrev St:=List (Option V)
noncomputable abbrev VK:=V->Hp->Prop
noncomputable abbrev TE:=St->Hp->VK->Prop
noncomputable abbrev TT:=St->Hp->(Bool->Hp->Prop)->Prop
noncomputable abbrev TA:=St->Hp->(List V->Hp->Prop)->Prop
structure Ends where
 nx:St->Hp->Prop
 rt:VK
 bk:St->Hp->Prop:=λz z=>False
 ct:St->Hp->Prop:=λz z=>False
noncomputable abbrev TS:=Ends->St->Hp->Prop
def EP(X:Cx)(pins:List (Addr×Obj))(σ:St)(Q:VK)(u:Value)(s':ao):Prop:=∃v H',Inv X pins σ H' s'/\RelV v u/\Q v H'
def TP(X:Cx)(pins:List (Addr×Obj))(σ:St)(Q:Bool->Hp->Prop)(b:Bool)(s':ao):Prop:=∃H',Inv X pins σ H' s'/\Q b H'
def AP(X:Cx)(pins:List (Addr×Obj))(σ:St)(Q:List V->Hp->Prop)(us:List Value)(s':ao):Prop:=∃vs H',Inv X pins σ H' s'/\Vals vs us/\Q vs H'
def SP(X:Cx)(pins:List (Addr×Obj))(D:Ends)(f:Flow)(s':ao):Prop:=
 match f with
 | .next=>∃aF H',Inv X pins aF H' s'/\D.nx aF H'
 | .brk=>∃aF H',Inv X pins aF H' s'/\D.bk aF H'
 | .cont=>∃aF H',Inv X pins aF H' s'/\D.ct aF H'
 | .ret u=>∃v aF H',Inv X pins aF H' s'/\RelV v u/\D.rt v H'
def PE(X:Cx)(e:aN)(t:TE):Prop:=
 ∀(pins:List (Addr×Obj))(s:ao)(σ:St)(H:Hp)(Q:VK),Inv X pins σ H s->t σ H Q->aj (model X.prog X.w) X.A (eval e X.env) (EP X pins σ Q) X.xe s
def PT(X:Cx)(e:aN)(t:TT):Prop:=
 ∀(pins:List (Addr×Obj))(s:ao)(σ:St)(H:Hp)(Q:Bool->Hp->Prop),Inv X pins σ H s->t σ H Q->aj (model X.prog X.w) X.A (m9 e X.env (eval e X.env)) (TP X pins σ Q) X.xe s
def PW(X:Cx)(e:aN)(t:TT):Prop:=
 ∀(whole:Sem Value)(pins:List (Addr×Obj))(s:ao)(σ:St)(H:Hp)(Q:Bool->Hp->Prop),Inv X pins σ H s->t σ H Q->aj (model X.prog X.w) X.A (m9 e X.env whole) (TP X pins σ Q) X.xe s
theorem PW.pt(h:PW X e t):PT X e t:=h _
def PA(X:Cx)(es:List aN)(t:TA):Prop:=
 ∀(pos:Pos)(pins:List (Addr×Obj))(s:ao)(σ:St)(H:Hp)(Q:List V->Hp->Prop),Inv X pins σ H s->t σ H Q->aj (model X.prog X.w) X.A (spliced (gy pos (bK es X.env))) (AP X pins σ Q) X.xe s
def PS(X:Cx)(st:dQ)(t:TS):Prop:=
 ∀(pins:List (Addr×Obj))(s:ao)(σ:St)(H:Hp)(D:Ends),Inv X pins σ H s->t D σ H->aj (model X.prog X.w) X.A (exec st X.env) (SP X pins D) X.xe s
def jG(X:Cx)(st:List dQ)(t:TS):Prop:=
 ∀(pins:List (Addr×Obj))(s:ao)(σ:St)(H:Hp)(D:Ends),Inv X pins σ H s->t D σ H->aj (model X.prog X.w) X.A (execs st X.env) (SP X pins D) X.xe s
theorem aJ{α:Type}{t:Sem α}{Q Q':α->ao->Prop}{M:xw}{A:cK}{s:ao}(h:aj M A t Q E s)(hQ:∀a s,Q a s->Q' a s):aj M A t Q' E s:=gX h hQ λz z x=>x
section
variable{X:Cx}
def P_(i:Nat):TE:=λσ H Q=>∃v,σ[i]?=some (some v)/\Q v H
def tC(v:V):TE:=λz H Q=>Q v H
theorem OQ(hN:X.N[i]?=some x)(hv:pQ X.env.scope x)(hd:(x==("__debug__":Str))=false:=by decide)(mj:(x==("__classdict__":Str))=false:=by decide):PE X (.Name x pos) (P_ i):=by
 intro pins s σ H Q I h;obtain⟨v,e,h⟩:=h;obtain⟨m,hn,hl⟩:=I.loc;obtain⟨u,r,l⟩:=hl i x v hN e hv;have fin:EP X pins σ Q u s:=⟨v,H,I,r,h⟩;rcases l with⟨hk,hm⟩|⟨hk,c,hc,Az⟩
 ·exact L_ (SW I.ok.kind hk hn hm fin) hd
 ·rcases hk with hk|hk
  ·exact L_ (Tf I.ok.kind hk hc Az fin) hd
  ·exact L_ (wpAny_loadName_free I.ok.kind hk hc Az fin mj) hd
theorem OR:PE X (.Constant (.int i) j pos) (tC (.int i)):=λz z z H z I h=>wpAny_Constant_int ⟨.int i,H,I.tok _,⟨_,rfl⟩,h⟩
theorem ah0:PE X (.Constant (.bool b) j pos) (tC (.bl b)):=λz z z H z I h=>Constant_bool ⟨.bl b,H,I,rfl,h⟩
theorem OS:PE X (.Constant .none j pos) (tC .az):=λz z z H z I h=>Constant_none ⟨.az,H,I,rfl,h⟩
def Gl(X:Cx)(x:Str):Prop:=X.env.kindOf x=some .globalImplicit
theorem wC(I:Inv X pins σ H s)(hg:Gl X x)(hm:X.mg x=some u)(h:Q u s)(hd:(x==("__debug__":Str))=false:=by decide):aj (model X.prog X.w) X.A (eval (.Name x pos) X.env) Q E s:=
 R5 I.ok.kind hg (Calls.loadGlobal_global (by rw[I.ok.glob];exact I.mod.glob.keeps I.bk) hm h) hd
theorem kN(I:Inv X pins σ H s)(hg:Gl X x)(hm:X.mg x=none)(hv:vQ x=some u)(h:Q u s)(hn:x≠"__name__":=by decide)(hd:(x==("__debug__":Str))=false:=by decide):aj (model X.prog X.w) X.A (eval (.Name x pos) X.env) Q E s:=by
 obtain⟨mb,h1,h2⟩:=I.mod.blt;exact R5 I.ok.kind hg (Calls.loadGlobal_builtin (by rw[I.ok.glob];exact I.mod.glob.keeps I.bk) hm (by rw[I.ok.blt];exact h1.keeps I.bk) ((h2 x hn).trans hv) h) hd
theorem qN(hg:Gl X x)(hm:X.mg x=some u)(r:RelV v u)(hd:(x==("__debug__":Str))=false:=by decide):PE X (.Name x pos) (tC v):=
 λz z z H z I h=>wC I hg hm ⟨v,H,I,r,h⟩ hd
variable{a b:aN}{ta tb:TE}{pos:Pos}
variable{tA Bq:TT}{rest:List aN}
def ai4(t u:TT):TT:=λσ H Q=>t σ H λc H1=>if c=true then u σ H1 Q else Q false H1
def tOr(t u:TT):TT:=λσ H Q=>t σ H λc H1=>if c=true then Q true H1 else u σ H1 Q
def ai5(t:TT):TT:=λσ H Q=>t σ H λc H1=>Q (!c) H1
theorem aeG(ha:PT X a tA):PW X (.BoolOp .And [a] pos) tA:=by
 intro wh pins s σ H Q I h;refine isTrue_and (aJ (ha pins s σ H Q I h) λc s1 e=>?_);cases c with
 |true=>exact isTrue_and_nil e
 |false=>exact e
theorem af8(ha:PT X a tA):PW X (.BoolOp .Or [a] pos) tA:=by
 intro wh pins s σ H Q I h;refine isTrue_or (aJ (ha pins s σ H Q I h) λc s1 e=>?_);cases c with
 |false=>exact isTrue_or_nil e
 |true=>exact e
theorem af9(ha:PT X a tA)(hb:PW X (.BoolOp .And (b::rest) pos) Bq):PW X (.BoolOp .And (a::b::rest) pos) (ai4 tA Bq):=by
 intro wh pins s σ H Q I h;refine isTrue_and (aJ (ha pins s σ H _ I h) λc s1 ⟨H1,I1,q1⟩=>?_);cases c with
 |true=>exact hb wh pins s1 σ H1 Q I1 q1
 |false=>exact⟨H1,I1,q1⟩
theorem ah1(ha:PT X a tA)(hb:PW X (.BoolOp .Or (b::rest) pos) Bq):PW X (.BoolOp .Or (a::b::rest) pos) (tOr tA Bq):=by
 intro wh pins s σ H Q I h;refine isTrue_or (aJ (ha pins s σ H _ I h) λc s1 ⟨H1,I1,q1⟩=>?_);cases c with
 |true=>exact⟨H1,I1,q1⟩
 |false=>exact hb wh pins s1 σ H1 Q I1 q1
theorem af_(ha:PT X a tA):PT X (.UnaryOp .Not a pos) (ai5 tA):=by
 intro pins s σ H Q I h;exact isTrue_not (ha pins s σ H (λc H1=>Q (!c) H1) I h)
theorem OT(h:PE X a t):PE X (.BoolOp op [a] pos) t:=λpins s σ H Q I hw=>BoolOp_one (h pins s σ H Q I hw)
def tIf(t:TT)(ta tb:TE):TE:=λσ H Q=>t σ H λc H1=>if c=true then ta σ H1 Q else tb σ H1 Q
theorem adj(hc:PT X c tA)(ha:PE X a ta)(hb:PE X b tb):PE X (.IfExp c a b pos) (tIf tA ta tb):=by
 intro pins s σ H Q I h;refine wpAny_IfExp (aJ (hc pins s σ H _ I h) λd s1 ⟨H1,I1,q1⟩=>?_);cases d with
 |true=>exact ha pins s1 σ H1 Q I1 q1
 |false=>exact hb pins s1 σ H1 Q I1 q1
end
def aG(K:aD)(H:Hp)(a:Addr)(xs:List V):Prop:=
 Rd H a (.lst xs)\/
  ∃(o:Obj)(its:Array Value)(n:Nat),K.lookup a=some o/\o.cls=.type "list"/\o.dict=none/\o.data=.seq its n/\its.size<=sizeLine/\Vals xs its.toList
def aP(K:aD)(H:Hp)(a:Addr)(xs:List V):Prop:=
 Rd H a (.tup xs)\/
  ∃(o:Obj)(its:Array Value)(n:Nat),K.lookup a=some o/\o.cls=.type "tuple"/\o.data=.seq its n/\its.size<=sizeLine/\Vals xs its.toList
noncomputable def ai6:Value->Option V
 | .none=>some .az
 | .bool b=>some (.bl b)
 | .int i _=>some (.int i)
 | .str x _=>some (.str x)
 | .bytes b _=>some (.gC b)
 | .float b _=>some (.Bh b)
 | .ref a=>some (.ref a)
 | .type n=>some (.ty n)
 |_=>none
theorem RelV.abs(r:RelV x u):ai6 u=some x:=by
 cases x with
 |az=>cases r;rfl
 |bl _=>cases r;rfl
 |int _=>obtain⟨t,rfl⟩:=r;rfl
 |str _=>obtain⟨t,rfl⟩:=r;rfl
 |gC _=>obtain⟨t,rfl⟩:=r;rfl
 |Bh _=>obtain⟨t,rfl⟩:=r;rfl
 |ref _=>cases r;rfl
 |ty _=>cases r;rfl
theorem RelV.inj(r:RelV x u)(q:RelV y u):x=y:=dM (r.abs.symm.trans q.abs)
theorem Vals.inj:∀{xs ys:List V}{us:List Value},Vals xs us->Vals ys us->xs=ys
 |_,_,_,.nil,.nil=>rfl
 |_,_,_,.cons r t,.cons r' t'=>by rw[r.inj r',Vals.inj t t']
section
variable{X:Cx}{pins:List (Addr×Obj)}{σ:St}{H:Hp}{s:ao}{a:Addr}{xs ys:List V}
theorem aG.of{K:aD}(h:H a=some (.lst xs)):aG K H a xs:=.inl (.inl h)
theorem aP.of{K:aD}(h:H a=some (.tup xs)):aP K H a xs:=.inl (.inl h)
theorem Inv.list(I:Inv X pins σ H s)(h:aG X.K H a xs):∃its:List Value,Vals xs its/\PlainL s.heap a its.toArray/\xs.length<=sizeLine:=by
 rcases h with h|⟨o,its,n,hk,hc,hd,hs,hz,r⟩
 ·obtain⟨z,its,n,r,e⟩:=h.ok I.aE
  exact⟨its,r,⟨_,n,e,rfl,rfl,rfl⟩,z⟩
 ·refine⟨its.toList,r,⟨o,n,I.iP a o hk,hc,hd,by simpa using hs⟩,?_⟩
  have e:=r.length;simp only[yL] at e;simp[*]
theorem Inv.tuple(I:Inv X pins σ H s)(h:aP X.K H a xs):∃its:List Value,Vals xs its/\IsTup s.heap a its.toArray/\xs.length<=sizeLine:=by
 rcases h with h|⟨o,its,n,hk,hc,hs,hz,r⟩
 ·obtain⟨z,its,r,p⟩:=h.ok I.aE
  exact⟨its,r,p,z⟩
 ·refine⟨its.toList,r,⟨o,I.iP a o hk,hc,n,by simpa using hs⟩,?_⟩
  have e:=r.length;simp only[yL] at e;lia
theorem Inv.GY(I:Inv X pins σ H s)(h:aG X.K H a xs)(h':aG X.K H a ys):xs=ys:=by
 obtain⟨its,r,⟨o,n,e,_,_,d⟩,_⟩:=I.list h;obtain⟨its',r',⟨o',n',e',_,_,d'⟩,_⟩:=I.list h';rw[e] at e';cases e';rw[d] at d';injection d' with d1 _;have:its=its':=by simpa using congrArg Lo d1
 subst this;exact r.inj r'
theorem Inv.zC(I:Inv X pins σ H s)(h:aP X.K H a xs)(h':aP X.K H a ys):xs=ys:=by
 obtain⟨its,r,⟨o,e,_,n,d⟩,_⟩:=I.tuple h;obtain⟨its',r',⟨o',e',_,n',d'⟩,_⟩:=I.tuple h';rw[e] at e';cases e';rw[d] at d';injection d' with d1 _;have:its=its':=by simpa using congrArg Lo d1
 subst this;exact r.inj r'
end
noncomputable abbrev Cx.l0(X:Cx)(E:Value->ao->Prop):Cx:={X with xe:=E}
noncomputable abbrev Cx.Br(X:Cx):Cx:=X.l0 λz z=>False
theorem Cx.Ok.l0{X:Cx}(ok:X.Ok)(E:Value->ao->Prop):(X.l0 E).Ok:=
 ⟨ok.mod,ok.kind,ok.glob,ok.blt,ok.above,ok.inj,ok.has,ok.xS,ok.hd,ok.frames,ok.Bl,ok.Bm,ok.bs,ok.l_,ok.xC,ok.xD,ok.j9,ok.rW⟩
theorem Cx.Ok.oX{X:Cx}(ok:(X.l0 E).Ok):X.Ok:=
 ⟨ok.mod,ok.kind,ok.glob,ok.blt,ok.above,ok.inj,ok.has,ok.xS,ok.hd,ok.frames,ok.Bl,ok.Bm,ok.bs,ok.l_,ok.xC,ok.xD,ok.j9,ok.rW⟩
section
variable{X:Cx}{pins:List (Addr×Obj)}{σ:St}{H:Hp}{s:ao}{E:Value->ao->Prop}
theorem Inv.l0(I:Inv X pins σ H s)(E:Value->ao->Prop):Inv (X.l0 E) pins σ H s:=⟨I.ok.l0 E,I.os,I.bare,I.base,I.loc,I.cell,I.free,I.kR,I.pin,I.aE,I.len⟩
theorem Inv.oX(I:Inv (X.l0 E) pins σ H s):Inv X pins σ H s:=⟨I.ok.oX,I.os,I.bare,I.base,I.loc,I.cell,I.free,I.kR,I.pin,I.aE,I.len⟩
theorem SP.oX(h:SP (X.l0 E) pins D f s'):SP X pins D f s':=by
 cases f with
 |next=>obtain⟨aF,H',I,q⟩:=h;exact⟨aF,H',I.oX,q⟩
 |brk=>obtain⟨aF,H',I,q⟩:=h;exact⟨aF,H',I.oX,q⟩
 |cont=>obtain⟨aF,H',I,q⟩:=h;exact⟨aF,H',I.oX,q⟩
 |ret u=>obtain⟨v,aF,H',I,r,q⟩:=h;exact⟨v,aF,H',I.oX,r,q⟩
theorem jG.Br{st:List dQ}(h:jG X.Br st t):jG X st t:=λpins s σ H D I hw=>
 gX (h pins s σ H D (I.l0 _) hw) (λy y q=>q.oX) λy y z=>eV z
end
section
variable{X:Cx}{st:dQ}{rest:List dQ}{t u:TS}{e:aN}{te:TE}{pos:Pos}
def Po:TS:=λD σ H=>D.nx σ H
def ai7(t u:TS):TS:=λD σ H=>t {D with nx:=u D} σ H
theorem NR:jG X [] Po:=λ_ _ σ H _ I h=>KH ⟨σ,H,I,h⟩
theorem adk(h1:PS X st t)(h2:jG X rest u):jG X (st::rest) (ai7 t u):=by
 intro pins s σ H D I h;refine wpAny_execs_cons (aJ (h1 pins s σ H {D with nx:=u D} I h) λf s1 q=>?_);cases f with
 |next=>
  obtain⟨aF,H',I',q⟩:=q;exact h2 pins s1 aF H' D I' q
 |ret v=>exact q
 |brk=>exact q
 |cont=>exact q
def aga:TS:=λD σ H=>D.bk σ H
def ah2:TS:=λD σ H=>D.ct σ H
theorem aeH:PS X (.Pass pos) Po:=λ_ _ σ H _ I h=>wpAny_Pass ⟨σ,H,I,h⟩
theorem adl:PS X (.Break pos) aga:=λ_ _ σ H _ I h=>wpAny_Break ⟨σ,H,I,h⟩
theorem Zc:PS X (.Continue pos) ah2:=λ_ _ σ H _ I h=>wpAny_Continue ⟨σ,H,I,h⟩
theorem Inv.quiet(I:Inv X pins σ H s):interactive X.env=false:=by simp[interactive,I.ok.kind]
def ah3(te:TE):TS:=λD σ H=>te σ H λz H1=>D.nx σ H1
theorem aeI(he:PE X e te)(hs:qG e none pos.line X.env=pure false:=by rfl):PS X (.Expr e pos) (ah3 te):=by
 intro pins s σ H D I h;exact wpAny_Expr_any (aJ (he pins s σ H _ I h) λv s1 ⟨x,H1,I1,r1,q1⟩=>⟨σ,H1,I1,q1⟩) I.quiet hs
def ai8(te:TE):TS:=λD σ H=>te σ H D.rt
theorem agb(he:PE X e te):PS X (.Return (some e) pos) (ai8 te):=by
 intro pins s σ H D I h;exact wpAny_Return_some (aJ (he pins s σ H _ I h) λv s1 ⟨x,H1,I1,r1,q1⟩=>⟨x,σ,H1,I1,r1,q1⟩)
def ah4:TS:=λD z H=>D.rt .az H
theorem aeJ:PS X (.Return none pos) ah4:=λ_ _ σ H _ I h=>wpAny_Return_none ⟨.az,σ,H,I,rfl,h⟩
def ai9(c:TT)(t u:TS):TS:=λD σ H=>c σ H λb H1=>if b=true then t D σ H1 else u D σ H1
theorem ah5(hc:PT X c tc)(ha:jG X a t)(hb:jG X b u):PS X (.If c a b pos) (ai9 tc t u):=by
 intro pins s σ H D I h;refine wpAny_If (aJ (hc pins s σ H _ I h) λd s1 ⟨H1,I1,q1⟩=>?_);cases d with
 |true=>exact ha pins s1 σ H1 D I1 q1
 |false=>exact hb pins s1 σ H1 D I1 q1
end
noncomputable abbrev TG:=V->St->Hp->(St->Hp->Prop)->Prop
noncomputable abbrev uO:=List V->St->Hp->(St->Hp->Prop)->Prop
def PG(X:Cx)(target:aN)(t:TG):Prop:=
 ∀(pins:List (Addr×Obj))(s:ao)(σ:St)(H:Hp)(v:V)(u:Value)(Q:St->Hp->Prop),Inv X pins σ H s->RelV v u->t v σ H Q->
  aj (model X.prog X.w) X.A (assign target X.env u) (λz s'=>∃aF H',Inv X pins aF H' s'/\Q aF H') X.xe s
def xV(X:Cx)(ts:List aN)(t:uO):Prop:=
 ∀(pins:List (Addr×Obj))(s:ao)(σ:St)(H:Hp)(vs:List V)(us:List Value)(Q:St->Hp->Prop),Inv X pins σ H s->Vals vs us->t vs σ H Q->
  aj (model X.prog X.w) X.A (assignInOrder ((mW ts X.env).map (·.2)) us) (λz s'=>∃aF H',Inv X pins aF H' s'/\Q aF H') X.xe s
noncomputable abbrev Qa:=V->V->V->Hp->(Hp->Prop)->Prop
def Ig(X:Cx)(t:Qa):Prop:=
 ∀(pins:List (Addr×Obj))(s:ao)(σ:St)(H:Hp)(o i v:V)(ov iv u:Value)(Q:Hp->Prop),Inv X pins σ H s->RelV o ov->RelV i iv->RelV v u->t o i v H Q->
  aj (model X.prog X.w) X.A (setItem ov iv u) (λz s'=>∃H',Inv X pins σ H' s'/\Q H') X.xe s
noncomputable abbrev IG:=V->V->Hp->VK->Prop
def Bs(X:Cx)(op:NK)(t:IG):Prop:=
 ∀(pins:List (Addr×Obj))(s:ao)(σ:St)(H:Hp)(x y:V)(v u:Value)(Q:VK),Inv X pins σ H s->RelV x v->RelV y u->t x y H Q->
  aj (model X.prog X.w) X.A (inplaceOp op v u) (EP X pins σ Q) X.xe s
section
variable{X:Cx}{pos:Pos}
def fO(i:Nat):TG:=λv σ H Q=>Q (σ.set i (some v)) H
theorem NS(hN:X.N.Nodup)(hi:X.N[i]?=some x)(hx:Loc X.env.scope x)(hf:X.fn x=true\/X.env.scope.names.lookup x=some .local:=by first|exact .inl rfl|exact .inr rfl|assumption):PG X (.Name x pos) (fO i):=by
 intro pins s σ H v u Q I r h;exact Uj (GX I hN hi hx r (λs' I'=>⟨_,H,I',h⟩) hf)
noncomputable def Qc:uO:=λvs σ H Q=>vs=[]/\Q σ H
noncomputable def Pp(t:TG)(u:uO):uO:=λvs σ H Q=>∃v r,vs=v::r/\t v σ H λaF H'=>u r aF H' Q
theorem aeK:xV X [] Qc:=by
 intro pins s σ H vs us Q I r h;obtain⟨e,h⟩:=h;subst e;cases r;exact assignInOrder_nil ⟨σ,H,I,h⟩
theorem adn(h1:PG X e t)(h2:xV X es u)(hs:(mW (e::es) X.env).map (·.2)=assign e X.env::(mW es X.env).map (·.2):=by rfl):xV X (e::es) (Pp t u):=by
 intro pins s σ H vs us Q I r h;obtain⟨v,vr,e1,h⟩:=h;subst e1;cases r with
 |cons r rr=>
  rw[hs];refine assignInOrder_cons (aJ (h1 pins s σ H _ _ _ I r h) λ_ s1 ⟨uP,H1,I1,q1⟩=>?_);exact h2 pins s1 uP H1 _ _ Q I1 rr q1
def ai_(K:aD)(n:Nat)(t:uO):TG:=λv σ H Q=>∃a xs,v=.ref a/\aP K H a xs/\xs.length=n/\t xs σ H Q
theorem agc(hc:X.calm=true)(h:xV X es t)(hn:(mW es X.env).length=n:=by rfl)(II:(mW es X.env).findIdx? (·.1)=none:=by rfl):PG X (.Tuple es k pos) (ai_ X.K n t):=by
 intro pins s σ H v u Q I r hw;obtain⟨a,xs,e1,hq,hl,hw⟩:=hw;subst e1;cases r;obtain⟨its,rv,ht,hz⟩:=I.tuple hq;refine assign_Tuple_tuple (I.ok.hd hc) ht (by simp[hn,←hl,rv.length]) II λh' hx=>?_;have I1:Inv X pins σ H {s with heap:=h'}:=I.kept (t':=s.toks) λb o e=>hx b o (gw (bT e)) e;exact h pins _ σ H xs _ Q I1 (by simpa using rv) hw
def aja(to ti:TE)(t:Qa):TG:=λv σ H Q=>to σ H λo H1=>ti σ H1 λi H2=>t o i v H2 λH3=>Q σ H3
theorem agd(ho:PE X o to)(hi:PE X i ti)(hs:Ig X t)(ha:∀v,assign (.Subscript o i pos) X.env v=(do
 let ov ←holding [v] (eval o X.env)
 let iv ←holding [v,ov] (eval i X.env)
 HG pos
 holding [v,ov,iv] (setItem ov iv v)
 release [v,ov,iv] []):=by intro _;rfl):PG X (.Subscript o i pos) (aja to ti t):=by
 intro pins s σ H v u Q I r h;rw[ha];refine ai (mQ (aJ (ho pins s σ H _ I h) λov s1 ⟨x,H1,I1,r1,q1⟩=>?_));refine ai (mQ (aJ (hi pins s1 σ H1 _ I1 q1) λiv s2 ⟨y,H2,I2,r2,q2⟩=>?_));refine ai (vN (ai (mQ (aJ (hs pins s2 σ H2 x y v ov iv u _ I2 r1 r2 r q2) λ_ s3 ⟨H3,I3,q3⟩=>?_))));exact wpAny_release ⟨σ,H3,I3,q3⟩
def Ih(te:TE)(g:TG):TS:=λD σ H=>te σ H λx H1=>g x σ H1 D.nx
theorem age(he:PE X e te)(hg:PG X tg g)(hs:X0 [tg] e pos.line X.env=pure false:=by rfl)(hw:swappedStores [tg] e X.env=pure none:=by rfl)(h1:(mW [tg] X.env).map (·.2)=[assign tg X.env]:=by rfl):PS X (.Assign [tg] e pos) (Ih te g):=by
 intro pins s σ H D I h;refine wpAny_Assign_stores (aJ (he pins s σ H _ I h) λv s1 ⟨x,H1,I1,r1,q1⟩=>?_) hs hw;rw[h1];exact aJ (hg pins s1 σ H1 x v _ I1 r1 q1) λz s2 q=>q
theorem agf(hN:X.N.Nodup)(hi:X.N[i]?=some x)(hx:Loc X.env.scope x)(he:PE X e te)(hs:qG e (some (.Name x pos')) pos.line X.env=pure false:=by rfl)(hf:X.fn x=true\/X.env.scope.names.lookup x=some .local:=by first|exact .inl rfl|exact .inr rfl|assumption):
 PS X (.Assign [.Name x pos'] e pos) (Ih te (fO i)):=by
 intro pins s σ H D I h;refine wpAny_Assign_Name (aJ (he pins s σ H _ I h) λv s1 ⟨y,H1,I1,r1,q1⟩=>?_) hs;exact GX I1 hN hi hx r1 (λs2 I2=>⟨_,H1,I2,q1⟩) hf
def ajb(i:Nat)(te:TE)(ti:IG):TS:=λD σ H=>∃x,σ[i]?=some (some x)/\te σ H λy H1=>ti x y H1 λz H2=>D.nx (σ.set i (some z)) H2
theorem agg(hN:X.N.Nodup)(hi:X.N[i]?=some x)(hx:Loc X.env.scope x)(he:PE X e te)(ho:Bs X op ti)(hf:X.fn x=true\/X.env.scope.names.lookup x=some .local:=by first|exact .inl rfl|exact .inr rfl|assumption):
 PS X (.AugAssign (.Name x pos') op e pos) (ajb i te ti):=by
 intro pins s σ H D I h;obtain⟨v,e1,h⟩:=h;obtain⟨m,hn,hl⟩:=I.loc;have vis:pQ X.env.scope x:=by rcases hx with k|k;exact .inl k;exact .inr (.inl k)
 obtain⟨u,r,l⟩:=hl i x v hi e1 vis;refine wpAny_AugAssign_Name ?_
 have go:aj (model X.prog X.w) X.A (eval e X.env) (λw gA=>aj (model X.prog X.w) X.A (inplaceOp op u w) (λr pH=>aj (model X.prog X.w) X.A (MV X.env x r) (λt=>SP X pins D .next) X.xe pH) X.xe gA) X.xe s:=by
  refine aJ (he pins s σ H _ I h) λw s1 ⟨y,H1,I1,r1,q1⟩=>?_;refine aJ (ho pins s1 σ H1 v y u w _ I1 r r1 q1) λz s2 ⟨zv,H2,I2,r2,q2⟩=>?_;exact GX I2 hN hi hx r2 (λs3 I3=>⟨_,H2,I3,q2⟩) hf
 rcases l with⟨hk,hm⟩|⟨hk,c,hc,Az⟩
 ·exact SW I.ok.kind hk hn hm go
 ·rcases hk with hk|hk
  ·exact Tf I.ok.kind hk hc Az go
  ·rcases hx with k|k
   ·have:X.env.scope.names.lookup x=some .free:=hk
    rw[k] at this;cases this
   ·have:X.env.scope.names.lookup x=some .free:=hk
    rw[k] at this;cases this
noncomputable def IJ(f:Int->Int->Int):IG:=λx y H Q=>∃i j,x=.int i/\y=.int j/\Q (.int (f i j)) H
theorem agh:Bs X .Add (IJ λi j=>i+j):=by
 intro pins s σ H x y v u Q I r1 r2 h;obtain⟨i,j,e1,e2,q⟩:=h;subst e1;subst e2;obtain⟨t,rfl⟩:=r1;obtain⟨t',rfl⟩:=r2;exact iadd_int ⟨.int _,H,I.tok _,⟨_,rfl⟩,q⟩
theorem agi:Bs X .Sub (IJ λi j=>i-j):=by
 intro pins s σ H x y v u Q I r1 r2 h;obtain⟨i,j,e1,e2,q⟩:=h;subst e1;subst e2;obtain⟨t,rfl⟩:=r1;obtain⟨t',rfl⟩:=r2;exact isub_int ⟨.int _,H,I.tok _,⟨_,rfl⟩,q⟩
def OU(c:TT)(tb:TS):TS:=λD σ H=>∃W:Nat->St->Hp->Prop,(∃m,W m σ H)/\∀m σ H,W m σ H->
 c σ H λb H1=>if b=true then ∃N:St->Hp->Prop,(∀aF H',N aF H'->∃m',m'<m/\W m' aF H')/\tb {D with nx:=N,ct:=N,bk:=D.nx} σ H1 else D.nx σ H1
theorem ado(hp:MW (model X.prog X.w) X.A X.env X.xe)(hc:PT X c tc)(hb:jG X body tb):PS X (.While c body [] pos) (OU tc tb):=by
 intro pins s σ H D I h;obtain⟨W,⟨m0,w0⟩,turn⟩:=h;refine wpAny_While (codeAny_whileLoop (λn s'=>∃aF H',Inv X pins aF H' s'/\W n aF H') ?_ m0 ⟨σ,H,I,w0⟩);rintro n s1 ⟨uP,H1,I1,w1⟩;refine tB hp (aJ (hc pins s1 uP H1 _ I1 (turn n uP H1 w1)) λb s2 ⟨H2,I2,q2⟩=>?_);cases b with
 |true=>
  obtain⟨N,hN,q2⟩:=q2;rw[if_pos rfl];refine tB hp (aJ (hb pins s2 uP H2 _ I2 q2) λf s3 q3=>?_);cases f with
  |next=>
   obtain⟨kX,H3,I3,n3⟩:=q3;obtain⟨m',hm,w3⟩:=hN kX H3 n3;exact⟨m',hm,kX,H3,I3,w3⟩
  |cont=>
   obtain⟨kX,H3,I3,n3⟩:=q3;obtain⟨m',hm,w3⟩:=hN kX H3 n3;exact⟨m',hm,kX,H3,I3,w3⟩
  |brk=>exact q3
  |ret v=>exact q3
 |false=>
  rw[if_neg dY];exact KH ⟨uP,H2,I2,q2⟩
end
structure It where
 go:Nat->Hp->Prop
 nG:Nat->Hp->V->Hp->Prop
 stop:Nat->Hp->Prop
def j_(X:Cx)(pins:List (Addr×Obj))(H:Hp)(b:Addr):Prop:=
 H b=none/\b≠X.env.locals/\b∉X.fs/\(b∈X.ex\/X.fV.heap.objs.size<=b)/\(∀x c,X.env.cells.lookup x=some c->c≠b)/\∀p∈X.pn++pins,p.1≠b
theorem Inv.pI(I:Inv X pins σ H s)(hb:s.heap.objs.size<=b)(hn:H' b=none):j_ X pins H' b:=by
 refine⟨hn,mT (gG I.lt hb),I.ai1 hb,.inr (eU I.sz hb),λx c e z=>?_,λp hp z=>?_⟩
 ·obtain⟨v,q⟩:=I.cell x c e
  exact absurd (gG q.lt (by rw[z];exact hb)) (jQ _)
 ·exact absurd (gG (bT (I.pin p hp).1) (by rw[z];exact hb)) (jQ _)
structure Turn(P:bL)(w:aR)(K:aD)(tg:aN)(J:It)(fp:List Addr)(it:Addr)(tn:Nat->aS->Prop):Prop where
 mem:it∈fp
 obj:∀i h,tn i h->∀b∈fp,∃o,h.get? b=some o/\∀v,o.data≠.cell v
 keep:∀i h h',tn i h->(∀b∈fp,∀o,h.get? b=some o->h'.get? b=some o)->tn i h'
 item:∀(X:Cx),X.prog=P->X.w=w->X.K=K->X.calm=true->∀(i:Nat)(pins:List (Addr×Obj))(s:ao)(σ:St)(H:Hp)(E:Value->ao->Prop),Inv X pins σ H s->(∀b∈fp,j_ X pins H b)->tn i s.heap->J.go i H->
  aj (model P w) X.A (jA (.ref it)) (λr s1=>∃u,r=some u/\
   aj (model P w) X.A (DH tg (.ref it) u) (λz s2=>∃x H',Inv X pins σ H' s2/\RelV x u/\J.nG i H x H'/\tn (i+1) s2.heap/\∀b∈fp,H' b=none) E s1) E s
 done:∀(X:Cx),X.prog=P->X.w=w->X.K=K->X.calm=true->∀(i:Nat)(pins:List (Addr×Obj))(s:ao)(σ:St)(H:Hp)(E:Value->ao->Prop),Inv X pins σ H s->(∀b∈fp,j_ X pins H b)->tn i s.heap->J.stop i H->
  aj (model P w) X.A (jA (.ref it)) (λr s1=>r=none/\Inv X pins σ H s1) E s
 self:∀(A:cK)(i:Nat)(s:ao)(Q:Value->ao->Prop)(E:Value->ao->Prop),tn i s.heap->Q (.ref it) s->aj (model P w) A (Ax (.ref it)) Q E s
noncomputable abbrev TI:=St->Hp->(It->Hp->Prop)->Prop
def Bt(X:Cx)(pins:List (Addr×Obj))(σ:St)(tg:aN)(R:It->Hp->Prop)(IK:Value)(s2:ao):Prop:=
 ∃(it:Addr)(fp:List Addr)(tn:Nat->aS->Prop)(J:It)(H':Hp),IK=.ref it/\Inv X pins σ H' s2/\Turn X.prog X.w X.K tg J fp it tn/\tn 0 s2.heap/\(∀b∈fp,j_ X pins H' b)/\R J H'
def PI(X:Cx)(tg iter:aN)(wi:TI):Prop:=
 ∀(pins:List (Addr×Obj))(s:ao)(σ:St)(H:Hp)(R:It->Hp->Prop),Inv X pins σ H s->wi σ H R->
  aj (model X.prog X.w) X.A (eval iter X.env) (λv s1=>aj (model X.prog X.w) X.A (Ax v) (Bt X pins σ tg R) X.xe s1) X.xe s
theorem AA(ho:s.heap.get? it=some o)(hc:o.cls=.type n)(hd:o.data=.fields vs)(hn:["enumerate","zip","dict_itemiterator","dict_reverseitemiterator","odict_iterator","itertools.zip_longest","itertools.pairwise"].contains n=false)(hQ:Q () s):aj M A (DH tg (.ref it) u) Q E s:=by
 unfold DH
 cases tg<;>first
  |exact aW hQ
  |(cases u<;>first
   |exact aW hQ
   |(refine ai (wpAny_load ho ?_)
     rw[hc,hd];show aj M A (if (["enumerate","zip","dict_itemiterator","dict_reverseitemiterator","odict_iterator","itertools.zip_longest","itertools.pairwise"].contains n&&vs[0]?==some (o9 _))=true then _ else _) Q E s;rw[if_neg (by intro h;rw[hn,mP] at h;cases h)];exact aW hQ))
noncomputable def kY(K:aD)(a:Addr):It:=
 ⟨λi H=>∃xs x,aG K H a xs/\xs[i]?=some x,λi H x H'=>H'=H/\∀xs,aG K H a xs->xs[i]?=some x,λi H=>∃xs,aG K H a xs/\xs.length<=i⟩
noncomputable def rY(K:aD)(a:Addr):It:=
 ⟨λi H=>∃xs x,aP K H a xs/\xs[i]?=some x,λi H x H'=>H'=H/\∀xs,aP K H a xs->xs[i]?=some x,λi H=>∃xs,aP K H a xs/\xs.length<=i⟩
noncomputable def iu(lo:Int)(n:Nat):It:=⟨λi z=>i<n,λi H x H'=>H'=H/\x=.int (lo+i),λi z=>n<=i⟩
theorem abC{w:aR}{K:aD}{tg:aN}(a it:Addr):Turn P w K tg (kY K a) [it] it (λi h=>h.IsListIter it a i) where
 mem:=by simp
 obj:=λi h st b hb=>by
  have e:b=it:=by simpa using hb
  subst e;obtain⟨o,e,c,d⟩:=st;exact⟨o,e,λv z=>by rw[d] at z;cases z⟩
 keep:=λi h h' st k=>st.at λo e=>k it (by simp) o e
 item:=by
  intro X hP hw hK hc i pins s σ H E I hf st hg;subst hP hw hK;obtain⟨xs,x,hq,hx⟩:=hg;obtain⟨its,rv,p,hz⟩:=I.list hq;obtain⟨u,hu,ru⟩:=rv.get hx;obtain⟨f0,f1,f2,f3,f4,f5⟩:=hf it (by simp);refine wpAny_pyNext_list_item st p.isList (x:=u) (by simpa using hu) λh' kZ sb=>?_;have I1:Inv X pins σ H {s with heap:=h'}:=I.turned (t':=s.toks) (λb o hb e=>(sb.2 b hb).trans e) f0 f1 f3 f4 f5;obtain⟨o,e,c,d⟩:=id kZ;exact⟨u,rfl,AA (s:={s with heap:=h'}) e c d (by decide) ⟨x,H,I1,ru,⟨rfl,λys hy=>by rw[I.GY hy hq];exact hx⟩,kZ,λb hb=>(hf b hb).1⟩⟩
 done:=by
  intro X hP hw hK hc i pins s σ H E I hf st hg;subst hP hw hK;obtain⟨xs,hq,hx⟩:=hg;obtain⟨its,rv,p,hz⟩:=I.list hq;obtain⟨f0,f1,f2,f3,f4,f5⟩:=hf it (by simp);have hl:=rv.length;exact wpAny_pyNext_list_end (I.ok.hd hc) st p.isList (by simp;simp_all) λh' eb=>⟨rfl,I.turned (t':=s.toks) (λb o hb e=>eb b o hb e) f0 f1 f3 f4 f5⟩
 self:=λy y y y y st h=>wpAny_pyIter_listiter st h
theorem aau{w:aR}{K:aD}{tg:aN}(a it:Addr):Turn P w K tg (rY K a) [it] it (λi h=>h.IsTupleIter it a i) where
 mem:=by simp
 obj:=λi h st b hb=>by
  have e:b=it:=by simpa using hb
  subst e;obtain⟨o,e,c,d⟩:=st;exact⟨o,e,λv z=>by rw[d] at z;cases z⟩
 keep:=λi h h' st k=>st.at λo e=>k it (by simp) o e
 item:=by
  intro X hP hw hK hc i pins s σ H E I hf st hg;subst hP hw hK;obtain⟨xs,x,hq,hx⟩:=hg;obtain⟨its,rv,p,hz⟩:=I.tuple hq;obtain⟨u,hu,ru⟩:=rv.get hx;obtain⟨f0,f1,f2,f3,f4,f5⟩:=hf it (by simp);refine wpAny_pyNext_tuple_item st (show s.heap.IsTuple a its.toArray from p) (x:=u) (by simpa using hu) λh' kZ sb=>?_;have I1:Inv X pins σ H {s with heap:=h'}:=I.turned (t':=s.toks) (λb o hb e=>(sb.2 b hb).trans e) f0 f1 f3 f4 f5;obtain⟨o,e,c,d⟩:=id kZ;exact⟨u,rfl,AA (s:={s with heap:=h'}) e c d (by decide) ⟨x,H,I1,ru,⟨rfl,λys hy=>by rw[I.zC hy hq];exact hx⟩,kZ,λb hb=>(hf b hb).1⟩⟩
 done:=by
  intro X hP hw hK hc i pins s σ H E I hf st hg;subst hP hw hK;obtain⟨xs,hq,hx⟩:=hg;obtain⟨its,rv,p,hz⟩:=I.tuple hq;obtain⟨f0,f1,f2,f3,f4,f5⟩:=hf it (by simp);have hl:=rv.length;exact wpAny_pyNext_tuple_end (I.ok.hd hc) st (show s.heap.IsTuple a its.toArray from p) (by simp;lia) λh' eb=>⟨rfl,I.turned (t':=s.toks) (λb o hb e=>eb b o hb e) f0 f1 f3 f4 f5⟩
 self:=λy y y y y st h=>wpAny_pyIter_tupleiter st h
theorem aav{w:aR}{K:aD}{tg:aN}(it:Addr)(lo:Int)(n:Nat):Turn P w K tg (iu lo n) [it] it (λi h=>FG h it (lo+(i:Nat)*1) ((n:Int)-(i:Nat)) 1) where
 mem:=by simp
 obj:=λi h st b hb=>by
  have e:b=it:=by simpa using hb
  subst e
  exact⟨_,st,λv z=>by
   have z':Data.fields _=Data.cell v:=z;cases z'⟩
 keep:=λi h h' st k=>k it (by simp) _ st
 item:=by
  intro X hP hw hK hc i pins s σ H E I hf st hg;subst hP hw hK;obtain⟨f0,f1,f2,f3,f4,f5⟩:=hf it (by simp);have W:=aan (prog:=X.prog) (w:=X.w) (I.ok.hd hc) it lo 1 n;refine W.item i s _ _ hg st λv h' tk hv kZ kk=>?_;obtain⟨t,rfl⟩:=hv;have I1:Inv X pins σ H {s with heap:=h',toks:=tk}:=I.turned (λb o hb e=>kk b o (by simpa using hb) e) f0 f1 f3 f4 f5;refine⟨_,rfl,AA (s:={s with heap:=h',toks:=tk}) (n:="range_iterator") kZ rfl rfl (by decide) ⟨.int (lo+i),H,I1,⟨t,?_⟩,⟨rfl,rfl⟩,kZ,λb hb=>(hf b hb).1⟩⟩;rw[Int.mul_one]
 done:=by
  intro X hP hw hK hc i pins s σ H E I hf st hg;subst hP hw hK;obtain⟨f0,f1,f2,f3,f4,f5⟩:=hf it (by simp);exact Sm (I.ok.hd hc) st (by have:n<=i:=hg;lia) λh' eb=>⟨rfl,I.turned (t':=s.toks) (λb o hb e=>eb b o hb e) f0 f1 f3 f4 f5⟩
 self:=λy y y y y st h=>Sn st h
section
variable{X:Cx}{tg:aN}
theorem M3{pins:List (Addr×Obj)}{σ:St}{H:Hp}{s:ao}{R:It->Hp->Prop}{lo hi:Int}{t u v:Tok}{tk:Nat}(I:Inv X pins σ H s)(h1: -(2^62)<=lo)(h2:lo<2^62)(h3: -(2^62)<=hi)(h4:hi<2^62)(q:R (iu lo (hi-lo).toNat) H):aj (model X.prog X.w) X.A (Ax (.ref s.heap.objs.size)) (Bt X pins σ tg R) E {s with heap:=s.heap.push {cls:=.type "range",data:=.fields #[.int lo t,.int hi u,.int 1 v]},toks:=tk}:=by
 refine TJ (LH ..) (small_one h1 h2 h3 h4) ?_;have I1:Inv X pins σ H {s with heap:=s.heap.push {cls:=.type "range",data:=.fields #[.int lo t,.int hi u,.int 1 v]},toks:=tk}:=I.kept λb o e=>cj _ e
 refine⟨(s.heap.push {cls:=.type "range",data:=.fields #[.int lo t,.int hi u,.int 1 v]}).objs.size,[(s.heap.push {cls:=.type "range",data:=.fields #[.int lo t,.int hi u,.int 1 v]}).objs.size],_,_,H,rfl,
  I1.kept (t':=tk) λb o e=>cj _ e,aav _ lo (hi-lo).toNat,?_,λb hb=>?_,q⟩
 ·have e1:lo+((0:Nat):Int)*1=lo:=by simp
  have e2:(((hi-lo).toNat:Nat):Int)-((0:Nat):Int)=yI lo hi 1:=by rw[X3];split<;>grind
  show FG _ _ (lo+((0:Nat):Int)*1) ((((hi-lo).toNat:Nat):Int)-((0:Nat):Int)) 1;rw[e1,e2];exact d9 _ rfl
 ·have e:b=(s.heap.push {cls:=.type "range",data:=.fields #[.int lo t,.int hi u,.int 1 v]}).objs.size:=by simpa using hb
  subst e;exact I1.pI (aY _) (I1.aE.fresh (aY _))
def ah6(ta:TA):TI:=λσ H R=>ta σ H λvs H1=>∃j:Int,vs=[.int j]/\ -(2^62)<=j/\j<2^62/\R (iu 0 j.toNat) H1
def ah7(ta:TA):TI:=λσ H R=>ta σ H λvs H1=>∃i j:Int,vs=[.int i,.int j]/\(-(2^62)<=i/\i<2^62/\ -(2^62)<=j/\j<2^62)/\R (iu i (j-i).toNat) H1
theorem abD(hg:Gl X "range")(hm:X.mg "range"=none)(ha:PA X [a] ta)(hs:bK [a] X.env=[(false,eval a X.env)]:=by rfl):PI X tg (.Call (.Name "range" p) [a] [] pos) (ah6 ta):=by
 intro pins s σ H R I h;refine AM (kN I hg hm Gg (p8 (aJ (ha pos pins s σ H _ I h) λus s1 ⟨vs,H1,I1,r1,q1⟩=>?_) hs rfl));obtain⟨j,e,q1,q2,q⟩:=q1;subst e;cases r1 with
 |cons r rr=>
  cases rr;obtain⟨t,rfl⟩:=r;exact call_range_1 (M3 I1 (by simp) (by simp) q1 q2 (by simpa using q))
theorem abE(hg:Gl X "range")(hm:X.mg "range"=none)(ha:PA X [a,b] ta)(hs:bK [a,b] X.env=[(false,eval a X.env),(false,eval b X.env)]:=by rfl)(pS:bK [b] X.env=[(false,eval b X.env)]:=by rfl):
 PI X tg (.Call (.Name "range" p) [a,b] [] pos) (ah7 ta):=by
 intro pins s σ H R I h;refine AM (kN I hg hm Gg (p8 (aJ (ha pos pins s σ H _ I h) λus s1 ⟨vs,H1,I1,r1,q1⟩=>?_) (by rw[hs,pS]) (by rw[pS];rfl)));obtain⟨i,j,e,⟨q1,q2,q3,q4⟩,q⟩:=q1;subst e;cases r1 with
 |cons r rr=>
  cases rr with
  |cons r' rr=>
   cases rr;obtain⟨t,rfl⟩:=r;obtain⟨t',rfl⟩:=r';exact call_range_2 (M3 I1 q1 q2 q3 q4 q)
def gf(wi:TI)(g:TG)(tb:TS):TS:=λD σ H=>wi σ H λJ H1=>∃W:Nat->Nat->St->Hp->Prop,(∃m,W 0 m σ H1)/\∀i m σ H,W i m σ H->
 (J.stop i H/\D.nx σ H)\/(J.go i H/\∃N:St->Hp->Prop,(∀aF H',N aF H'->∃m',m'<m/\W (i+1) m' aF H')/\∀x H',J.nG i H x H'->g x σ H' λcZ H2=>tb {D with nx:=N,ct:=N,bk:=D.nx} cZ H2)
noncomputable def wO(fp:List Addr)(h:aS):List (Addr×Obj):=fp.filterMap λb=>(h.get? b).map λo=>(b,o)
theorem FO(hb:b∈fp)(e:h.get? b=some o):(b,o)∈wO fp h:=Kc.mpr ⟨b,hb,by rw[e];rfl⟩
theorem abF(hp:p∈wO fp h):p.1∈fp/\h.get? p.1=some p.2:=by
 obtain⟨b,hb,e⟩:=Kc.mp hp;cases q:h.get? b with
 |none=>rw[q] at e;cases e
 |some o=>
  rw[q] at e;have e':(b,o)=p:=dM e;subst e';exact⟨hb,q⟩
theorem Inv.pinned(I:Inv X pins σ H s)(hf:∀b∈fp,j_ X pins H b)(ho:∀b∈fp,∃o,s.heap.get? b=some o/\∀v,o.data≠.cell v):Inv X (pins++wO fp s.heap) σ H s:=
 I.NQ λp hp=>(jO.mp hp).elim (λz=>I.pin p (p_ _ z)) λz=>by
  obtain⟨hb,e⟩:=abF z;obtain⟨f0,f1,f2,_⟩:=hf p.1 hb;obtain⟨o,e',d⟩:=ho p.1 hb;rw[e] at e';cases e';exact⟨e,f0,f1,f2,d⟩
theorem Inv.zQ(I:Inv X (pins++pl) σ H s):Inv X pins σ H s:=I.NQ λp hp=>I.pin p (p_ _ (SV _ hp))
theorem agj(hp:MW (model X.prog X.w) X.A X.env X.xe)(hc:X.calm=true)(hi:PI X tg iter wi)(hg:PG X tg g)(hb:jG X body tb)(hs:∀x,yP iter X.env x=pure x:=by intro _;rfl):PS X (.For tg iter body [] pos) (gf wi g tb):=by
 intro pins s σ H D I h;refine wpAny_For (aJ (hi pins s σ H _ I h) λv s1 h1=>aJ h1 λIK s2 h2=>?_) hs;obtain⟨it,fp,tn,J,H2,e,I2,T,uQ,f2,W,⟨m0,w0⟩,turn⟩:=h2;subst e;have rK:∀{H':Hp},(∀b∈fp,H' b=none)->∀b∈fp,j_ X pins H' b:=λhn b hb=>⟨hn b hb,(f2 b hb).2⟩;refine codeAny_forLoop_any (λn s'=>∃i aF H',Inv X pins aF H' s'/\tn i s'.heap/\(∀b∈fp,H' b=none)/\W i n aF H') ?_ m0 ⟨0,σ,H2,I2,uQ,λb hb=>(f2 b hb).1,w0⟩;rintro n s3 ⟨i,kX,H3,I3,uR,QK,w3⟩;rcases turn i n kX H3 w3 with⟨stop,qn⟩|⟨go,N,hN,step⟩
 ·refine tB hp (aJ (T.done X rfl rfl rfl hc i pins s3 kX H3 X.xe I3 (rK QK) uR stop) λr s4 ⟨hr,I4⟩=>?_)
  subst hr;exact KH ⟨kX,H3,I4,qn⟩
 ·refine tB hp (aJ (T.item X rfl rfl rfl hc i pins s3 kX H3 X.xe I3 (rK QK) uR go) λr s4 ⟨u,hr,h4⟩=>?_)
  subst hr;refine tB hp (aJ h4 λ_ s5 ⟨x,H5,I5,r5,y5,pT,fr5⟩=>?_);have I5':=I5.pinned (rK fr5) (T.obj _ _ pT);refine tB hp (aJ (hg _ s5 kX H5 x u _ I5' r5 (step x H5 y5)) λ_ s6 ⟨σ6,H6,I6,q6⟩=>?_);refine tB hp (aJ (hb _ s6 σ6 H6 _ I6 q6) λf s7 q7=>?_)
  have again:∀{k6:St}{H7:Hp},Inv X (pins++wO fp s5.heap) k6 H7 s7->N k6 H7->∃m,m<n/\∃i aF H',Inv X pins aF H' s7/\tn i s7.heap/\(∀b∈fp,H' b=none)/\W i m aF H':=λ{k6 H7} I7 n7=>by
   obtain⟨m',hm,w7⟩:=hN k6 H7 n7;refine⟨m',hm,i+1,k6,H7,I7.zQ,T.keep _ _ _ pT λb hb o e=>(I7.pin (b,o) (p_ _ (p_ _ (FO hb e)))).1,λb hb=>?_,w7⟩;obtain⟨o,e,d⟩:=T.obj _ _ pT b hb;exact(I7.pin (b,o) (p_ _ (p_ _ (FO hb e)))).2.1
  cases f with
  |next=>obtain⟨k6,H7,I7,n7⟩:=q7;exact again I7 n7
  |cont=>obtain⟨k6,H7,I7,n7⟩:=q7;exact again I7 n7
  |brk=>obtain⟨k6,H7,I7,q7⟩:=q7;exact⟨k6,H7,I7.zQ,q7⟩
  |ret v=>obtain⟨x7,k6,H7,I7,r7,q7⟩:=q7;exact⟨x7,k6,H7,I7.zQ,r7,q7⟩
end
noncomputable abbrev R2:=V->V->Hp->VK->Prop
def br(X:Cx)(f:Value->Value->Sem Value)(r:R2):Prop:=
 ∀(pins:List (Addr×Obj))(s:ao)(σ:St)(H:Hp)(x y:V)(v u:Value)(Q:VK),Inv X pins σ H s->RelV x v->RelV y u->r x y H Q->
  aj (model X.prog X.w) X.A (f v u) (EP X pins σ Q) X.xe s
def IL(X:Cx)(f:Value->Sem Value)(r:V->Hp->VK->Prop):Prop:=
 ∀(pins:List (Addr×Obj))(s:ao)(σ:St)(H:Hp)(x:V)(v:Value)(Q:VK),Inv X pins σ H s->RelV x v->r x H Q->
  aj (model X.prog X.w) X.A (f v) (EP X pins σ Q) X.xe s
def fm(X:Cx)(f:Value)(r:List V->Hp->VK->Prop):Prop:=
 ∀(pins:List (Addr×Obj))(s:ao)(σ:St)(H:Hp)(xs:List V)(us:List Value)(Q:VK),Inv X pins σ H s->Vals xs us->r xs H Q->
  aj (model X.prog X.w) X.A (call f us) (EP X pins σ Q) X.xe s
def Qe(X:Cx)(r:V->Hp->(Bool->Hp->Prop)->Prop):Prop:=
 ∀(pins:List (Addr×Obj))(s:ao)(σ:St)(H:Hp)(x:V)(v:Value)(Q:Bool->Hp->Prop),Inv X pins σ H s->RelV x v->r x H Q->
  aj (model X.prog X.w) X.A (truthy v) (TP X pins σ Q) X.xe s
def Bu(r:R2)(ta tb:TE):TE:=λσ H Q=>ta σ H λx H1=>tb σ H1 λy H2=>r x y H2 Q
def tUn(r:V->Hp->VK->Prop)(ta:TE):TE:=λσ H Q=>ta σ H λx H1=>r x H1 Q
noncomputable def rI(C:Int->Int->Prop)(g:Int->Int->V):R2:=λx y H Q=>∃i j,x=.int i/\y=.int j/\C i j/\Q (g i j) H
noncomputable def mq(g:Int->Int->V):R2:=λx y H Q=>∃i j,x=.int i/\y=.int j/\Q (g i j) H
def rU(g:Int->V):V->Hp->VK->Prop:=λx H Q=>∃i,x=.int i/\Q (g i) H
section
variable{X:Cx}{a b c:aN}{ta tb tc:TE}{pos:Pos}
theorem Ii(ha:PE X a ta)(hb:PE X b tb){pins:List (Addr×Obj)}{s:ao}{σ:St}{H:Hp}{R:V->V->Hp->Prop}(I:Inv X pins σ H s)(h:ta σ H λx H1=>tb σ H1 λy H2=>R x y H2){f:Value->Value->Sem Value}(hf:∀v u s2 x y H2,Inv X pins σ H2 s2->RelV x v->RelV y u->R x y H2->aj (model X.prog X.w) X.A (f v u) Q X.xe s2):
 aj (model X.prog X.w) X.A (eval a X.env) (λv bI=>aj (model X.prog X.w) X.A (eval b X.env) (λu gA=>aj (model X.prog X.w) X.A (f v u) Q X.xe gA) X.xe bI) X.xe s:=by
 refine aJ (ha pins s σ H _ I h) λv s1 ⟨x,H1,I1,r1,q1⟩=>?_;refine aJ (hb pins s1 σ H1 _ I1 q1) λu s2 ⟨y,H2,I2,r2,q2⟩=>?_;exact hf v u s2 x y H2 I2 r1 r2 q2
theorem ah8(ho:br X (binaryOp op) r)(ha:PE X a ta)(hb:PE X b tb):PE X (.BinOp a op b pos) (Bu r ta tb):=by
 intro pins s σ H Q I h;exact wpAny_BinOp (Ii ha hb I h λv u s2 x y H2 I2 rx ry q=>ho pins s2 σ H2 x y v u Q I2 rx ry q)
theorem ah9(ho:IL X (unaryOp op) r)(ha:PE X a ta):PE X (.UnaryOp op a pos) (tUn r ta):=by
 intro pins s σ H Q I h;exact UnaryOp_ (aJ (ha pins s σ H _ I h) λv s1 ⟨x,H1,I1,r1,q1⟩=>ho pins s1 σ H1 x v Q I1 r1 q1)
theorem xW{C:Int->Int->Prop}{g:Int->Int->Int}(rule:∀(i j:Int)(t u:Tok)(s:ao)(Q:Value->ao->Prop)(E:Value->ao->Prop),C i j->Q (.int (g i j) s.toks) {s with toks:=s.toks+1}->aj (model X.prog X.w) X.A (f (.int i t) (.int j u)) Q E s):
 br X f (rI C λi j=>.int (g i j)):=by
 intro pins s σ H x y v u Q I rx ry h;obtain⟨i,j,rfl,rfl,hc,q⟩:=h;obtain⟨t,rfl⟩:=rx;obtain⟨t',rfl⟩:=ry;exact rule i j t t' s _ _ hc ⟨.int (g i j),H,I.tok _,⟨_,rfl⟩,q⟩
theorem AO{g:Int->Int->Int}(rule:∀(i j:Int)(t u:Tok)(s:ao)(Q:Value->ao->Prop)(E:Value->ao->Prop),Q (.int (g i j) s.toks) {s with toks:=s.toks+1}->aj (model X.prog X.w) X.A (f (.int i t) (.int j u)) Q E s):
 br X f (mq λi j=>.int (g i j)):=by
 intro pins s σ H x y v u Q I rx ry h;obtain⟨i,j,rfl,rfl,q⟩:=h;obtain⟨t,rfl⟩:=rx;obtain⟨t',rfl⟩:=ry;exact rule i j t t' s _ _ ⟨.int (g i j),H,I.tok _,⟨_,rfl⟩,q⟩
theorem AQ{g:Int->Int->Bool}(rule:∀(i j:Int)(t u:Tok)(s:ao)(Q:Value->ao->Prop)(E:Value->ao->Prop),Q (.bool (g i j)) s->aj (model X.prog X.w) X.A (f (.int i t) (.int j u)) Q E s):
 br X f (mq λi j=>.bl (g i j)):=by
 intro pins s σ H x y v u Q I rx ry h;obtain⟨i,j,rfl,rfl,q⟩:=h;obtain⟨t,rfl⟩:=rx;obtain⟨t',rfl⟩:=ry;exact rule i j t t' s _ _ ⟨.bl (g i j),H,I,rfl,q⟩
def AR(i j:Int):Prop:=0<j/\j<1073741824
def Ij(i j:Int):Prop:=0<=j/\j<=1000000/\i.natAbs<2^64
def xE(i j:Int):Prop:=(-(2^64)<i/\i<2^64)\/(-(2^64)<j/\j<2^64)
theorem xE.ok(h:xE i j):IntMulOk i j:=by
 rcases h with⟨h1,h2⟩|⟨h1,h2⟩
 ·exact .of_left (X4 h1 h2)
 ·exact .of_right (X4 h1 h2)
theorem aaw(k:Nat):(0:Int)<=2^k:=by
 rw[two_pow_cast];exact n9 _
theorem agk:br X (binaryOp .Add) (mq λi j=>.int (i+j)):=AO λz z z z z z z q=>add_int q
theorem agl:br X (binaryOp .Sub) (mq λi j=>.int (i-j)):=AO λz z z z z z z q=>sub_int q
theorem agm:br X (binaryOp .Mult) (rI xE λi j=>.int (i*j)):=xW λz z z z z z z hc q=>mul_int q hc.ok
theorem aeL:br X (binaryOp .FloorDiv) (rI AR λi j=>.int (i/j)):=xW λi j z z z z z hc q=>by
 have h1:(0:Int)<j:=hc.1;have h2:j<1073741824:=hc.2;exact floordiv_int (by lia) (by rw[R6 i (by lia)];exact q) (.inl (So (by omega)))
theorem agn:br X (binaryOp .Mod) (rI (λz j=>0<j) λi j=>.int (i % j)):=xW λi j z z z z z hc q=>by
 have h1:(0:Int)<j:=hc;exact mod_int' (by lia) (by rw[Int.fmod_eq_emod_of_nonneg i (by lia)];exact q)
theorem ago:br X (binaryOp .LShift) (rI Ij λi j=>.int (i*2^j.toNat)):=xW λz z z z z z z hc q=>lshift_int_small hc.1 hc.2.1 hc.2.2 q
theorem agp:br X (binaryOp .RShift) (rI (λz j=>0<=j) λi j=>.int (i/2^j.toNat)):=xW λi j z z z z z hc q=>
 rshift_int hc (by rw[R6 i (aaw _)];exact q)
theorem agq:br X (binaryOp .BitAnd) (mq λi j=>.int (vK i j)):=AO λz z z z z z z q=>and_int q
theorem ah_:br X (binaryOp .BitOr) (mq λi j=>.int (EA i j)):=AO λz z z z z z z q=>or_int q
theorem unI{g:Int->Int}(rule:∀(i:Int)(t:Tok)(s:ao)(Q:Value->ao->Prop)(E:Value->ao->Prop),Q (.int (g i) s.toks) {s with toks:=s.toks+1}->aj (model X.prog X.w) X.A (f (.int i t)) Q E s):
 IL X f (rU λi=>.int (g i)):=by
 intro pins s σ H x v Q I rx h;obtain⟨i,rfl,q⟩:=h;obtain⟨t,rfl⟩:=rx;exact rule i t s _ _ ⟨.int (g i),H,I.tok _,⟨_,rfl⟩,q⟩
theorem agr:IL X (unaryOp .USub) (rU λi=>.int (-i)):=unI λz z z z z q=>neg_int q
end
noncomputable def Qg:V->V->Bool
 | .az,.az=>true| .az,.int _=>true| .int _,.az=>true| .az,.bl _=>true| .bl _,.az=>true| .az,.str _=>true| .str _,.az=>true
 | .int _,.int _=>true| .bl _,.bl _=>true| .str _,.str _=>true| .gC _,.gC _=>true
 | .int _,.str _=>true| .str _,.int _=>true| .bl _,.str _=>true| .str _,.bl _=>true
 |_,_=>false
noncomputable def rEq:R2:=λx y H Q=>Qg x y=true/\Q (.bl (decide (x=y))) H
noncomputable def rNe:R2:=λx y H Q=>Qg x y=true/\Q (.bl (!decide (x=y))) H
theorem NT:decide (V.int i=V.int j)=(i==j):=by
 rw[aT];simp
theorem OV:decide (V.bl i=V.bl j)=(i==j):=by
 rw[aT];simp
theorem NU:decide (V.str i=V.str j)=(i==j):=by
 rw[aT];simp
theorem NV:decide (V.gC i=V.gC j)=(i.toList==j.toList):=by
 rw[aT];cases i;cases j;simp
section
variable{X:Cx}{a b c:aN}{ta tb tc:TE}{pos:Pos}
theorem cQ(I:Inv X pins σ H s)(q:Q (.bl k) H)(e:k=k'):EP X pins σ Q (.bool k') s:=by
 subst e;exact⟨.bl k,H,I,rfl,q⟩
theorem aia:br X (compareOp .Eq) rEq:=by
 intro pins s σ H x y v u Q I rx ry h;obtain⟨hs,q⟩:=h;cases x with
 |az=>
  cases rx;cases y with
  |az=>cases ry;exact alH (cQ I q (by simp))
  |bl j=>cases ry;exact alI (cQ I q (by simp))
  |int j=>obtain⟨t',rfl⟩:=ry;exact al0 (cQ I q (by simp))
  |str j=>obtain⟨t',rfl⟩:=ry;exact al1 (cQ I q (by simp))
  |_=>exact absurd (show false=true from hs) dY
 |bl i=>
  cases rx;cases y with
  |az=>cases ry;exact alJ (cQ I q (by simp))
  |bl j=>cases ry;exact eq_bool (cQ I q OV)
  |str j=>obtain⟨t',rfl⟩:=ry;exact alK (cQ I q (by simp))
  |_=>exact absurd (show false=true from hs) dY
 |int i=>
  obtain⟨t,rfl⟩:=rx;cases y with
  |az=>cases ry;exact al2 (cQ I q (by simp))
  |int j=>obtain⟨t',rfl⟩:=ry;exact eq_int (cQ I q NT)
  |str j=>obtain⟨t',rfl⟩:=ry;exact al3 (cQ I q (by simp))
  |_=>exact absurd (show false=true from hs) dY
 |str i=>
  obtain⟨t,rfl⟩:=rx;cases y with
  |az=>cases ry;exact al4 (cQ I q (by simp))
  |bl j=>cases ry;exact alL (cQ I q (by simp))
  |int j=>obtain⟨t',rfl⟩:=ry;exact al5 (cQ I q (by simp))
  |str j=>obtain⟨t',rfl⟩:=ry;exact eq_str (cQ I q NU)
  |_=>exact absurd (show false=true from hs) dY
 |gC i=>
  obtain⟨t,rfl⟩:=rx;cases y with
  |gC j=>obtain⟨t',rfl⟩:=ry;exact PySem.W.eq_bytes (cQ I q NV)
  |_=>exact absurd (show false=true from hs) dY
 |_=>cases y<;>exact absurd (show false=true from hs) dY
theorem aib:br X (compareOp .NotEq) rNe:=by
 intro pins s σ H x y v u Q I rx ry h;obtain⟨hs,q⟩:=h;cases x with
 |az=>
  cases rx;cases y with
  |az=>cases ry;exact alM (cQ I q (by simp))
  |bl j=>cases ry;exact alN (cQ I q (by simp))
  |int j=>obtain⟨t',rfl⟩:=ry;exact al6 (cQ I q (by simp))
  |str j=>obtain⟨t',rfl⟩:=ry;exact al7 (cQ I q (by simp))
  |_=>exact absurd (show false=true from hs) dY
 |bl i=>
  cases rx;cases y with
  |az=>cases ry;exact alO (cQ I q (by simp))
  |bl j=>cases ry;exact ne_bool (cQ I q (congrArg not OV))
  |str j=>obtain⟨t',rfl⟩:=ry;exact alP (cQ I q (by simp))
  |_=>exact absurd (show false=true from hs) dY
 |int i=>
  obtain⟨t,rfl⟩:=rx;cases y with
  |az=>cases ry;exact al8 (cQ I q (by simp))
  |int j=>obtain⟨t',rfl⟩:=ry;exact ne_int (cQ I q (congrArg not NT))
  |str j=>obtain⟨t',rfl⟩:=ry;exact al9 (cQ I q (by simp))
  |_=>exact absurd (show false=true from hs) dY
 |str i=>
  obtain⟨t,rfl⟩:=rx;cases y with
  |az=>cases ry;exact al_ (cQ I q (by simp))
  |bl j=>cases ry;exact alQ (cQ I q (by simp))
  |int j=>obtain⟨t',rfl⟩:=ry;exact ama (cQ I q (by simp))
  |str j=>obtain⟨t',rfl⟩:=ry;exact ne_str (cQ I q (congrArg not NU))
  |_=>exact absurd (show false=true from hs) dY
 |gC i=>
  obtain⟨t,rfl⟩:=rx;cases y with
  |gC j=>obtain⟨t',rfl⟩:=ry;exact PySem.W.ne_bytes (cQ I q (congrArg not NV))
  |_=>exact absurd (show false=true from hs) dY
 |_=>cases y<;>exact absurd (show false=true from hs) dY
theorem aic:br X (compareOp .Lt) (mq λi j=>.bl (decide (i<j))):=AQ λz z z z z z z q=>lt_int q
theorem aid:br X (compareOp .LtE) (mq λi j=>.bl (decide (i<=j))):=AQ λz z z z z z z q=>le_int q
theorem aie:br X (compareOp .Gt) (mq λi j=>.bl (decide (j<i))):=AQ λz z z z z z z q=>gt_int q
theorem aif:br X (compareOp .GtE) (mq λi j=>.bl (decide (j<=i))):=AQ λz z z z z z z q=>ge_int q
theorem ags:br X (compareOp .Is) (λx y H Q=>y=.az/\Q (.bl (decide (x=.az))) H):=by
 intro pins s σ H x y v u Q I rx ry h;obtain⟨rfl,q⟩:=h;cases ry;refine is_none_gen (cQ I q ?_)
 cases x<;>first
  |(cases rx;rfl)
  |(obtain⟨t,rfl⟩:=rx;rfl)
theorem aeM:br X (compareOp .IsNot) (λx y H Q=>y=.az/\Q (.bl (!decide (x=.az))) H):=by
 intro pins s σ H x y v u Q I rx ry h;obtain⟨rfl,q⟩:=h;cases ry;refine isnot_none_gen (cQ I q ?_)
 cases x<;>first
  |(cases rx;rfl)
  |(obtain⟨t,rfl⟩:=rx;rfl)
theorem br.or(h:br X f r)(h':br X f r'):br X f (λx y H Q=>r x y H Q\/r' x y H Q):=by
 intro pins s σ H x y v u Q I rx ry q;rcases q with q|q
 ·exact h pins s σ H x y v u Q I rx ry q
 ·exact h' pins s σ H x y v u Q I rx ry q
theorem aeN(ho:br X (compareOp op) r)(ha:PE X a ta)(hb:PE X b tb)(hm:K7 op b=false):PE X (.Compare a [op] [b] pos) (Bu r ta tb):=by
 intro pins s σ H Q I h;exact wpAny_Compare1 (Ii ha hb I h λv u s2 x y H2 I2 rx ry q=>ho pins s2 σ H2 x y v u Q I2 rx ry q) hm
def aih(t:TE):TT:=λσ H Q=>t σ H λx H'=>∃k,x=.bl k/\Q k H'
theorem aeO(ho:br X (compareOp op) r)(ha:PE X a ta)(hb:PE X b tb)(hm:K7 op b=false):PT X (.Compare a [op] [b] pos) (aih (Bu r ta tb)):=by
 intro pins s σ H Q I h
 refine wpAny_isTrue_Compare1 (aJ (ha pins s σ H _ I h) λv s1 ⟨x,H1,I1,r1,q1⟩=>aJ (hb pins s1 σ H1 _ I1 q1) λu s2 ⟨y,H2,I2,r2,q2⟩=>
  aJ (ho pins s2 σ H2 x y v u _ I2 r1 r2 q2) λc s3 ⟨z,H3,I3,r3,k,e,q3⟩=>?_) hm
 subst e;cases r3;exact qc ⟨H3,I3,q3⟩
def ajc(K:aD)(x:V)(H:Hp)(k:Bool):Prop:=
 match x with
 | .az=>k=false
 | .bl b=>k=b
 | .int i=>k=(i !=0)
 | .str y=>y.length<=sizeLine/\k=((y.length:Int)!=0)
 | .gC y=>y.size<=sizeLine/\k=((y.size:Int)!=0)
 | .ref p=>(∃xs,aG K H p xs/\k= !xs.isEmpty)\/(∃xs,aP K H p xs/\k= !xs.isEmpty)\/∃bw,H p=some (.dK bw)/\k= !bw.isEmpty
 |_=>False
theorem aax{κ:Type}{bw:List (κ×V)}{vs:List (κ×Value)}(r:KV bw vs):(!vs.isEmpty)= !bw.isEmpty:=by
 cases r<;>rfl
theorem LL(r:Vals xs its):(!its.toArray.isEmpty)= !xs.isEmpty:=by
 cases r<;>simp
theorem wQ:(sizeLine:Nat)<2^63:=by rw[FH];decide
theorem agt:Qe X (λx H Q=>∃k,ajc X.K x H k/\Q k H):=by
 intro pins s σ H x v Q I rx h;obtain⟨k,e,q⟩:=h;have hl:=wQ;have hs:sizeLine=16777216:=FH;cases x with
 |az=>
  cases rx;have e':k=false:=e;subst e';exact truthy_none ⟨H,I,q⟩
 |bl b=>
  cases rx;have e':k=b:=e;subst e';exact qc ⟨H,I,q⟩
 |int i=>
  obtain⟨t,rfl⟩:=rx;have e':k=(i !=0):=e;subst e';exact PySem.P.truthy_int ⟨H,I,q⟩
 |str y=>
  obtain⟨t,rfl⟩:=rx;obtain⟨hy,e'⟩:y.length<=sizeLine/\k=((y.length:Int)!=0):=e;subst e';exact PySem.P.truthy_str (by lia) ⟨H,I.tok _,q⟩
 |gC y=>
  obtain⟨t,rfl⟩:=rx;obtain⟨hy,e'⟩:y.size<=sizeLine/\k=((y.size:Int)!=0):=e;subst e';exact PySem.W.truthy_bytes (by lia) ⟨H,I.tok _,q⟩
 |ref p=>
  cases rx;have e':(∃xs,aG X.K H p xs/\k= !xs.isEmpty)\/(∃xs,aP X.K H p xs/\k= !xs.isEmpty)\/∃bw,H p=some (.dK bw)/\k= !bw.isEmpty:=e;rcases e' with⟨xs,hx,e'⟩|⟨xs,hx,e'⟩|⟨bw,hx,e'⟩
  ·subst e'
   obtain⟨its,r,pl,hz⟩:=I.list hx;have hlen:=r.length;exact wpAny_truthy_list pl.isList (by simp only[cW];lia) ⟨H,I.tok _,by rw[LL r];exact q⟩
  ·subst e'
   obtain⟨its,r,pl,hz⟩:=I.tuple hx;have hlen:=r.length;exact truthy_tuple pl (by simp only[cW];lia) ⟨H,I.tok _,by rw[LL r];exact q⟩
  ·subst e'
   obtain⟨hz,hS,vs,r,m⟩:bw.length<=sizeLine/\(p==L7)=false/\∃vs,KV bw vs/\s.heap.DictOf (Hh X.prog X.w) p vs:=I.aE p _ hx;have hlen:bw.length=vs.length:=XZ r;exact wpAny_truthy_dict hS m (by lia) ⟨H,I.tok _,by rw[aax r];exact q⟩
 |_=>exact(show False from e).elim
theorem vals1(r:Vals [x] us):∃u,us=[u]/\RelV x u:=by
 cases r with
 |cons r1 r2=>cases r2;exact⟨_,rfl,r1⟩
theorem vals2(r:Vals [x,y] us):∃u w',us=[u,w']/\RelV x u/\RelV y w':=by
 cases r with
 |cons r1 r2=>
  cases r2 with
  |cons r3 r4=>cases r4;exact⟨_,_,rfl,r1,r3⟩
theorem abG(hc:X.calm=true):fm X (.builtin "max") (λxs H Q=>∃i j,xs=[.int i,.int j]/\Q (.int (if j>i then j else i)) H):=by
 intro pins s σ H xs us Q I r h;obtain⟨i,j,rfl,q⟩:=h;obtain⟨u,w',rfl,⟨t,rfl⟩,⟨t',rfl⟩⟩:=vals2 r;refine max_two_ints (I.ok.hd hc) λh' tk k=>⟨_,H,I.kept k,?_,q⟩
 by_cases hj:j>i
 ·rw[if_pos hj,if_pos hj];exact⟨_,rfl⟩
 ·rw[if_neg hj,if_neg hj];exact⟨_,rfl⟩
theorem abH(hc:X.calm=true):fm X (.builtin "min") (λxs H Q=>∃i j,xs=[.int i,.int j]/\Q (.int (if j<i then j else i)) H):=by
 intro pins s σ H xs us Q I r h;obtain⟨i,j,rfl,q⟩:=h;obtain⟨u,w',rfl,⟨t,rfl⟩,⟨t',rfl⟩⟩:=vals2 r;refine min_two_ints (I.ok.hd hc) λh' tk k=>⟨_,H,I.kept k,?_,q⟩
 by_cases hj:j<i
 ·rw[if_pos hj,if_pos hj];exact⟨_,rfl⟩
 ·rw[if_neg hj,if_neg hj];exact⟨_,rfl⟩
end
structure uD(h:aS)(x dx C:Addr)(mA:Str->Option Value):Prop where
 obj:h.get? x=some (qj C dx)
 ns:h.Ns1 dx mA
 ne:dx≠x
set_option tactic.hygienic true in
theorem abI{h:aS}{dx:Addr}(n:h.Ns1 dx mA):∃od,h.get? dx=some od/\∀name,K0 name od=some (mA name):=by
 obtain⟨o,es,ep,ho,hd,hk,_,hm⟩:=n;refine⟨o,ho,λname=>?_⟩;have e:=hm name;unfold nsFind findBy at e;rw[←TL] at e;unfold K0;rw[hd];dsimp only;split
 ·rename_i y q
  rw[q] at e;exact congrArg some e
 ·rename_i q
  rw[q] at e
  have a:es.toList.any (·.refKey)=false:=by
   rw[CZ];intro y hy;obtain⟨z,t,ajd⟩:=hk y (SX.mp hy);simp[zN.refKey,ajd]
  have a':¬es.toList.any (·.refKey)=true:=by rw[a];exact dY
  rw[if_neg a'];exact congrArg some e
theorem uD.look(I:uD h x dx C mA):∃od,PySem.W.InstAt h x (qj C dx) C (some od)/\∀name,K0 name od=some (mA name):=
 let ⟨od,ho,hl⟩:=abI I.ns
 ⟨od,⟨I.obj,rfl,rfl,ho⟩,hl⟩
section
variable{prog:bL}{w:aR}{A:cK}{E:Value->ao->Prop}{s:ao}{K:aD}{x dx C f:Addr}{mA:Str->Option Value}{name:Str}{v:Value}
theorem get_map(X:K.In s.heap)(I:uD s.heap x dx C mA)(hg:Dm K C name=true)(hh:C0 K C=true)(ha:jr K (.ref C) name=some none)(hv:mA name=some v)(Bv:U5 v=true)(h:Q v {s with toks:=s.toks+1}):
 aj (model prog w) A (getAttr (.ref x) name expr) Q E s:=by
 obtain⟨od,J,hl⟩:=I.look;exact PySem.W.get_value X J (PySem.W.plainGet_of hg).1 (PySem.W.findObj_own hh ha rfl (by rw[hl,hv])) Bv h
theorem aeP(X:K.In s.heap)(I:uD s.heap x dx C mA)(hs:jr K (.ref C) "__setattr__"=some (some (.builtin "object.__setattr__")))(hp:Ko K C=true)(ht:KI K C name=some none)(hh:C0 K C=true)(hw:Lm mA ns)(hsz:ns.length<=sizeLine)(h:∀h',uD h' x dx C (λy=>if y=name then some v else mA y)->lF dx s.heap h'->Q () {s with heap:=h',toks:=s.toks+2}):
 aj (model prog w) A (setAttr (.ref x) name v) Q E s:=by
 obtain⟨od,J,hl⟩:=I.look;refine PySem.W.set_plain X J hs (PySem.W.osa_open (s:={s with toks:=s.toks+1}) (r:=none) X J hp ht λb=>?_);obtain⟨cd,hc,IC⟩:=PySem.W.any_some hh;have hx:s.heap.get? x=some ⟨.ref C,some dx,.plain,#[]⟩:=I.obj;refine ai (aW (ai (ai (wpAny_loadPart hx (ai (an8 (s:={s with toks:=s.toks+1}) (PySem.W.looks_clsIn X hc) ?_))))));rw[IC];refine aW (a:=some dx) (ai (aW (ai ?_)));refine wpAny_nsSet1 (s:={s with toks:=s.toks+1}) I.ns λh' QL pS=>?_;obtain⟨oD,esD,epD,hoD,hdD,hcD⟩:=QL.count (aoM name v hw);refine ai (wpAny_lookBehind hoD (by rw[hdD];exact pastItsLine_dict (eU hcD (by rw[ck];simp[*]))) ?_);exact aW (h _ ⟨(pS.2 _ (i9 I.ne)).trans I.obj,QL,I.ne⟩ pS)
theorem adp(X:K.In s.heap)(hm:DI K C=true)(hi:jr K (.ref C) "__init__"=some (some (.ref f)))(hf:PySem.W.typeIn K (.ref f)=some (.type "function"))(h:qU (model prog w) (A.under (.builtin "type.__call__" ⟨.ref C::vs,kw⟩)) (.call (.ref f) ⟨.ref (s.heap.objs.size+1)::vs,kw⟩) (PySem.W.InitBack (s.heap.objs.size+1) R)
 {s with heap:=(s.heap.push n_).push (qj C s.heap.objs.size)}):
 qU (model prog w) A (.call (.ref C) ⟨vs,kw⟩) R s:=by
 obtain⟨hh,g,d,t,os⟩:=s;exact PySem.W.make_core (PySem.W.makes_of X hm) (PySem.W.looks_findIn X hi) (λself=>PySem.W.bind_fn X self hf) (.inl rfl) h
end
noncomputable def dU(f:Str)(v:V):List (Str×V)->List (Str×V)
 |[]=>[(f,v)]
 |(g,x)::r=>if g=f then (g,v)::r else (g,x)::dU f v r
theorem Lx(f g:Str)(v:V):∀fs:List (Str×V),(dU f v fs).lookup g=if g=f then some v else fs.lookup g
 |[]=>by
  show qz g [(f,v)]=_
  by_cases h:g=f
  ·have hb:(g==f)=true:=beq_iff_eq.mpr h
   simp only[qz,hb,if_pos h]
  ·have hb:(g==f)=false:=beq_eq_false_iff_ne.mpr h
   simp only[qz,hb,if_neg h]
 |(k,x)::r=>by
  have ih:=Lx f g v r;rw[show dU f v ((k,x)::r)=(if k=f then (k,v)::r else (k,x)::dU f v r) from rfl]
  by_cases hk:k=f
  ·rw[if_pos hk]
   by_cases h:g=k
   ·have hb:(g==k)=true:=beq_iff_eq.mpr h
    simp only[qz,hb,if_pos (h.trans hk)]
   ·have hb:(g==k)=false:=beq_eq_false_iff_ne.mpr h
    simp only[qz,hb,if_neg (λe:g=f=>h (e.trans hk.symm))]
  ·rw[if_neg hk]
   by_cases h:g=k
   ·have hb:(g==k)=true:=beq_iff_eq.mpr h
    simp only[qz,hb,if_neg (λe:g=f=>hk (h.symm.trans e))]
   ·have hb:(g==k)=false:=beq_eq_false_iff_ne.mpr h
    simp only[qz,hb];exact ih
theorem Gj(f:Str)(v:V):∀fs:List (Str×V),f∈(dU f v fs).map (·.1)/\∀g,g∈fs.map (·.1)->g∈(dU f v fs).map (·.1)
 |[]=>⟨by simp[dU],λg h=>by simp at h⟩
 |(k,x)::r=>by
  obtain⟨i1,i2⟩:=Gj f v r;rw[show dU f v ((k,x)::r)=(if k=f then (k,v)::r else (k,x)::dU f v r) from rfl]
  by_cases hk:k=f
  ·rw[if_pos hk]
   subst hk;exact⟨by simp,λg h=>by simpa using h⟩
  ·rw[if_neg hk]
   refine⟨?_,λg h=>?_⟩
   ·rw[aV]
    exact fD _ i1
   ·rw[aV] at h ⊢
    rcases cH.mp h with e|e
    ·exact cH.mpr (.inl e)
    ·exact fD _ (i2 g e)
theorem Ly(f:Str)(v:V):∀fs:List (Str×V),(dU f v fs).length<=fs.length+1
 |[]=>by simp[dU]
 |(k,x)::r=>by
  have ih:=Ly f v r;rw[show dU f v ((k,x)::r)=(if k=f then (k,v)::r else (k,x)::dU f v r) from rfl]
  by_cases hk:k=f
  ·rw[if_pos hk,ck,ck];simp
  ·rw[if_neg hk,ck,ck];simp[*]
theorem rH.some_of(r:rH (some v) o):∃u,o=some u/\RelV v u:=by
 cases o with
 |none=>exact(show False from r).elim
 |some u=>exact⟨u,rfl,r⟩
theorem abJ(r:RelV v u):U5 u=true:=by
 cases v with
 |az=>cases(show u=oB from r);rfl
 |bl b=>cases(show u=qF b from r);rfl
 |int i=>obtain⟨t,e⟩:=(show ∃t,u=v_ i t from r);cases e;rfl
 |str x=>obtain⟨t,e⟩:=(show ∃t,u=MU x t from r);cases e;rfl
 |gC b=>obtain⟨t,e⟩:=(show ∃t,u=aal b t from r);cases e;rfl
 |Bh b=>obtain⟨t,e⟩:=(show ∃t,u=aam b t from r);cases e;rfl
 |ref a=>cases(show u=f7 a from r);rfl
 |ty n=>cases(show u=oE n from r);rfl
section
variable{P:bL}{w:aR}{H H':Hp}{h h':aS}{a C dx:Addr}{fs fs':List (Str×V)}
theorem NW(aE:dg P w H h)(e:H a=some (.ins C dx fs)):∃mA,uD h a dx C mA/\(∀f,rH (fs.lookup f) (mA f))/\Lm mA (fs.map (·.1))/\fs.length<=1000/\H dx=some (.own a):=by
 obtain⟨d,z,ne,ob,mA,n,r,q⟩:=(show fk P w H h a (.ins C dx fs) from aE a _ e);exact⟨mA,⟨ob,n,ne⟩,r,q,z,d⟩
end
structure mw(K:aD)(C:Addr):Prop where
 pg:Dm K C Str.empty=true
 hd:C0 K C=true
 po:Ko K C=true
 sa:jr K (.ref C) "__setattr__"=some (some (.builtin "object.__setattr__"))
theorem mw.get{K:aD}(c:mw K C)(f:Str):Dm K C f=true:=c.pg
def m7(K:aD)(C:Addr)(f:Str):Prop:=jr K (.ref C) f=some none
theorem m7.aii{K:aD}{f:Str}(n:m7 K C f):KI K C f=some none:=by
 unfold KI;rw[show jr K (.ref C) f=some none from n];rfl
section
variable{X:Cx}{pins:List (Addr×Obj)}{σ:St}{H:Hp}{s:ao}{a C dx:Addr}{fs:List (Str×V)}{f:Str}{v:V}{A:cK}{E:Value->ao->Prop}
theorem aay(I:Inv X pins σ H s)(e:H a=some (.ins C dx fs))(c:mw X.K C)(n:m7 X.K C f)(l:fs.lookup f=some v)(h:∀u s',Inv X pins σ H s'->RelV v u->Q u s'):aj (model X.prog X.w) A (getAttr (.ref a) f b) Q E s:=by
 obtain⟨mA,O,r,_,_,_⟩:=NW I.aE e;obtain⟨u,hu,ru⟩:=rH.some_of (v:=v) (o:=mA f) (by rw[←l];exact r f);exact get_map I.iP O (c.get f) c.hd n hu (abJ ru) (h u _ (I.tok _) ru)
theorem aaz(I:Inv X pins σ H s)(e:H a=some (.ins C dx fs))(c:mw X.K C)(n:m7 X.K C f)(hl:fs.length<1000)(ry:RelV y u)(h:∀s',Inv X pins σ (upd H a (.ins C dx (dU f y fs))) s'->Q () s'):aj (model X.prog X.w) A (setAttr (.ref a) f u) Q E s:=by
 obtain⟨mA,O,r,wi,_,ho⟩:=NW I.aE e;have hz:(fs.map (·.1)).length<=sizeLine:=by rw[aU,FH];lia
 refine aeP I.iP O c.sa c.po n.aii c.hd wi hz λh' O' sb=>h _ ?_;have hd:∃o,h'.get? dx=some o:=let ⟨o,_,_,e',_⟩:=O'.ns;⟨o,e'⟩;refine I.write (x:=a) (e:=dx) (by rw[e];exact True.intro) (.inr ho) (λb q hb z=>(sb.2 b hb).trans z) hd ?_;refine⟨by rw[aI O.ne];exact ho,?_,O.ne,O'.obj,_,O'.ns,λg=>?_,λg hg=>?_⟩
 ·have:=Ly f y fs;lia
 ·show rH ((dU f y fs).lookup g) (if g=f then some u else mA g)
  rw[Lx]
  by_cases q:g=f
  ·rw[if_pos q,if_pos q];exact ry
  ·rw[if_neg q,if_neg q];exact r g
 ·by_cases q:g=f
  ·rw[q];exact(Gj f y fs).1
  ·refine(Gj f y fs).2 g (wi g λz=>hg ?_)
   show(if g=f then some u else mA g)=none;rw[if_neg q];exact z
theorem Inv.made(I:Inv X pins σ H s):Inv X pins σ (upd (upd H s.heap.objs.size (.own (s.heap.objs.size+1))) (s.heap.objs.size+1) (.ins C s.heap.objs.size []))
 {s with heap:=(s.heap.push n_).push (qj C s.heap.objs.size)}:=by
 have e1:(s.heap.push n_).get? s.heap.objs.size=some n_:=d9 s.heap rfl
 have e2:((s.heap.push n_).push (qj C s.heap.objs.size)).get? (s.heap.objs.size+1)=some (qj C s.heap.objs.size):=by
  have:=d9 (s.heap.push n_) (o:=qj C s.heap.objs.size) rfl
  rwa[d_] at this
 have e3:(s.heap.push n_).Ns s.heap.objs.size (λz=>none):=⟨n_,#[],_,e1,rfl,(λe he=>absurd he (by simp)),λz=>rfl⟩;have I1:=I.laid (a:=s.heap.objs.size) (o:=.own (s.heap.objs.size+1)) (h':=s.heap.push n_) (t':=s.toks) (λb u q=>cj _ q) (aY _) ⟨_,e1⟩;refine I1.laid (a:=s.heap.objs.size+1) (o:=.ins C s.heap.objs.size []) (t':=s.toks) (λb u q=>cj _ q) (vR (d_ _ _)) ?_;have ne:s.heap.objs.size≠s.heap.objs.size+1:=gw (Kx _);refine⟨by rw[aI ne,au],dH _,ne,e2,λz=>none,(aS.Ns1.of_empty e3).at λo q=>cj _ q,λz=>True.intro,λy hy=>absurd rfl hy⟩
theorem aeQ(hb:EB e f env (eval e env)=eval e env)(h:aj (model prog w) A (eval e env) (λo bI=>aj (model prog w) A (getAttr o f true) Q E bI) E s):aj (model prog w) A (eval (.Attribute e f pos) env) Q E s:=
 Attribute_any_ h (by rw[arm_eval_Attribute,hb])
end
def aje(K:aD)(ta:TE)(f:Str):TE:=λσ H Q=>ta σ H λx H1=>∃a C dx fs v,x=.ref a/\H1 a=some (.ins C dx fs)/\mw K C/\m7 K C f/\fs.lookup f=some v/\Q v H1
def ajf(K:aD)(ta tv:TE)(f:Str):TS:=λD σ H=>tv σ H λy H1=>ta σ H1 λx H2=>∃a C dx fs,x=.ref a/\H2 a=some (.ins C dx fs)/\mw K C/\m7 K C f/\fs.length<1000/\
 D.nx σ (upd H2 a (.ins C dx (dU f y fs)))
section
variable{X:Cx}{o e value:aN}{f:Str}{pos pos' kT:Pos}{ta tv:TE}
theorem agu(he:PE X e ta)(hb:EB e f X.env (eval e X.env)=eval e X.env):PE X (.Attribute e f pos) (aje X.K ta f):=by
 intro pins s σ H Q I h;refine aeQ hb (aJ (he pins s σ H _ I h) λu s1 ⟨x,H1,I1,rx,a,C,dx,fs,v,ex,ea,c,n,l,q⟩=>?_);subst ex;obtain rfl:u=f7 a:=rx;exact aay I1 ea c n l λu' s2 I2 ru=>⟨v,H1,I2,ru,q⟩
theorem agv(ha:PE X o ta)(hv:PE X value tv)(hs:qG value (some (.Attribute o f pos')) pos.line X.env=pure false):PS X (.Assign [.Attribute o f pos'] value pos) (ajf X.K ta tv f):=by
 intro pins s σ H D I h;refine plainObj_wpAny_Assign_Attribute (aJ (hv pins s σ H _ I h) λu s1 ⟨y,H1,I1,ry,q⟩=>aJ (ha pins s1 σ H1 _ I1 q) λov s2 ⟨x,H2,I2,rx,a,C,dx,fs,ex,ea,c,n,l,q2⟩=>?_) hs;subst ex;obtain rfl:ov=f7 a:=rx;exact aaz I2 ea c n l ry λs3 I3=>⟨σ,_,I3,q2⟩
end
structure dD(k:Nat)(A:cK):Prop where
 hd:A.handled=none
 dp:A.depth+3*k+5<W5
 un:A.units+16*k+200<xx
theorem dD.mono(r:dD k A)(h:j<=k):dD j A:=⟨r.hd,by have:=r.dp;lia,by have:=r.un;lia⟩
theorem dD.deeper(r:dD (k+1) A)(env:Env):dD k (A.deeper env):=
 ⟨r.hd,by have:=r.dp;show A.depth+1+3*k+5<_;lia,by have:=r.un;show A.units+3+16*k+200<_;lia⟩
theorem aaA{A:cK}{C:Addr}{us:List Value}:(A.under (.builtin "type.__call__" ⟨.ref C::us,kw⟩)).depth=A.depth+1:=by
 first|rfl|simp[Lp,Code.weight,Code.isCreation,Code.isGuard,Code.isCaller,aao,Lq,guardIds]
theorem aaB{A:cK}{C:Addr}{us:List Value}:(A.under (.builtin "type.__call__" ⟨.ref C::us,kw⟩)).units=A.units+1:=by
 first|rfl|simp[Lp,Code.cUnits,aao,Lq]
theorem dD.make(r:dD (k+1) A)(C:Addr)(us:List Value)(kw:List (Str×Value)):dD k (A.under (.builtin "type.__call__" ⟨.ref C::us,kw⟩)):=
 ⟨r.hd,by have:=r.dp;rw[aaA];(simp;lia),by have:=r.un;rw[aaB];(simp;lia)⟩
theorem dD.depth(r:dD k A):A.depth<W5:=by have:=r.dp;lia
theorem dD.units(r:dD k A):A.units+64<xx:=by have:=r.un;lia
def AS:TA:=λz H Q=>Q [] H
def Pq(ta:TE)(tr:TA):TA:=λσ H Q=>ta σ H λx H1=>tr σ H1 λxs H2=>Q (x::xs) H2
section
variable{X:Cx}{e:aN}{es:List aN}{te:TE}{t:TA}{pos:Pos}
theorem j4:PA X [] AS:=λz z z z H Q I h=>Uk ⟨[],H,I,.nil,h⟩
theorem g9(ha:PE X e te)(hr:PA X es t)(hs:bK (e::es) X.env=(false,eval e X.env)::bK es X.env:=by rfl):PA X (e::es) (Pq te t):=by
 intro pos pins s σ H Q I h;rw[hs];show aj _ _ (spliced ((false,eval e X.env)::gy pos (bK es X.env))) _ _ s;refine TM (aJ (ha pins s σ H _ I h) λu s1 ⟨x,H1,I1,r1,q1⟩=>?_);exact aJ (hr pos pins s1 σ H1 _ I1 q1) λus s2 ⟨xs,H2,I2,r2,q2⟩=>⟨x::xs,H2,I2,.cons r1 r2,q2⟩
def ajg(t:TA):TE:=λσ H Q=>t σ H λxs H1=>xs.length<=sizeLine/\∀p,H1 p=none->Q (.ref p) (upd H1 p (.tup xs))
def ajh(t:TA):TE:=λσ H Q=>t σ H λxs H1=>xs.length<=sizeLine/\∀p,H1 p=none->Q (.ref p) (upd H1 p (.lst xs))
theorem agw(h:PA X es t):PE X (.Tuple es x1 pos) (ajg t):=by
 intro pins s σ H Q I hq;refine wpAny_Tuple_spliced (aJ (h pos pins s σ H _ I hq) λus s1 ⟨xs,H1,I1,r,z,q⟩=>⟨by rw[←r.length];exact z,?_⟩);have hf:H1 s1.heap.objs.size=none:=I1.aE.fresh (aY _);refine⟨.ref s1.heap.objs.size,upd H1 s1.heap.objs.size (.tup xs),I1.laid (t':=s1.toks) (λb u e=>cj _ e) (aY _) ?_,rfl,q _ hf⟩;exact⟨z,us,r,⟨_,d9 _ rfl,rfl,_,rfl⟩⟩
theorem agx(h:PA X es t):PE X (.List es pos) (ajh t):=by
 intro pins s σ H Q I hq;refine wpAny_List_spliced (aJ (h pos pins s σ H _ I hq) λus s1 ⟨xs,H1,I1,r,z,q⟩=>⟨by rw[←r.length];exact z,?_⟩);have hf:H1 s1.heap.objs.size=none:=I1.aE.fresh (aY _);refine⟨.ref s1.heap.objs.size,upd H1 s1.heap.objs.size (.lst xs),I1.laid (t':=s1.toks) (λb u e=>cj _ e) (aY _) ?_,rfl,q _ hf⟩;exact⟨z,us,0,r,d9 _ rfl⟩
end
noncomputable abbrev Sp:=List V->Hp->VK->XK->Prop
noncomputable abbrev kj:=List Env->Hp->ao->XK->Value->ao->Prop
structure rL(P:bL)(w:aR)(K:aD)(mg:Str->Option Value)(base:aS)(A:cK)(outer:List Env)(s:ao)(H:Hp):Prop where
 frames:A.frames=some outer
 mod:Mod K mg base
 bs:∀b o,base.get? b=some o->s.heap.get? b=some o/\H b=none
 l_:base.objs.size<=s.heap.objs.size
 j9:s.heap.FunFrames base outer
 rW:∀b∈kW outer,H b=none
 aE:dg P w H s.heap
 bare:ur s.gens
def CE(outer:List Env)(P:bL)(w:aR)(H:Hp)(s:ao)(Q:VK)(u:Value)(s':ao):Prop:=
 ∃v H',s'.os=s.os/\ur s'.gens/\Un (kW outer) [] H H' s.heap s'.heap/\dg P w H' s'.heap/\RelV v u/\Q v H'
def CR(CX:kj)(outer:List Env)(P:bL)(w:aR)(H:Hp)(s:ao)(Q:VK)(E:XK)(r:Result)(s':ao):Prop:=
 match r with
 | .ok (.ret u)=>CE outer P w H s Q u s'
 | .ok _=>False
 | .error e=>CX outer H s E e s'
structure eF(P:bL)(w:aR)(K:aD)(mg:Str->Option Value)(base:aS)(CX:kj)(k:Nat)(f:Addr)(fd:gY)(ps:List Str)(sp:Sp):Prop where
 len:∀vs H Q E,sp vs H Q E->vs.length=ps.length
 run:∀(A:cK)(outer:List Env)(s:ao)(H:Hp)(args:Args)(us:List Value)(vs:List V)(Q:VK)(E:XK),dD k A->rL P w K mg base A outer s H->Am s fd args (ps.zip us)->Vals vs us->sp vs H Q E->
  qU (model P w) A (.call (.ref f) args) (CR CX outer P w H s Q E) s
theorem rL.make{P:bL}{w:aR}{K:aD}{base:aS}{A:cK}{outer:List Env}{s:ao}{H:Hp}(e:rL P w K mg base A outer s H)(C:Addr)(us:List Value)(kw:List (Str×Value)):
 rL P w K mg base (A.under (.builtin "type.__call__" ⟨.ref C::us,kw⟩)) outer s H:=⟨by first|exact e.frames|(simpa[Lp,Code.envs,Lq,pushEnvs] using e.frames),e.mod,e.bs,e.l_,e.j9,e.rW,e.aE,e.bare⟩
section
variable{X:Cx}{pins:List (Addr×Obj)}{σ:St}{H:Hp}{s s':ao}
theorem Inv.Qh(I:Inv X pins σ H s):rL X.prog X.w X.K X.mg X.base X.A X.stack s H:=
 ⟨I.ok.frames,I.ok.mod,I.bs,eU I.ok.l_ I.sz,I.stack,I.NP,I.aE,I.bare⟩
theorem Inv.after(I:Inv X pins σ H s)(h:CE X.stack X.prog X.w H s Q u s'):EP X pins σ Q u s':=by
 obtain⟨v,H',os,bare,un,aE,r,q⟩:=h;obtain⟨hh,g,d,t,os'⟩:=s';obtain rfl:os'=s.os:=os;exact⟨v,H',I.call (h':=hh) (g':=g) (d':=d) (t':=t) (ch:=[]) un aE bare (λb z=>absurd z (by simp)),r,q⟩
end
def Pr(sp:Sp)(gh:List V)(E:XK)(t:TA):TE:=λσ H Q=>t σ H λvs H1=>sp (vs++gh) H1 Q E
def Pu(C:Addr)(sp:Sp)(gh:List V)(E:XK)(t:TA):TE:=λσ H Q=>t σ H λvs H1=>∀x dx,H1 x=none->H1 dx=none->dx≠x->
 sp (.ref x::(vs++gh)) (upd (upd H1 dx (.own x)) x (.ins C dx [])) (λv H2=>v=.az/\Q (.ref x) H2) E
def Binds(K:aD)(fd:gY)(ps:List Str)(ds:List Value):Prop:=
 ∀(s:ao)(us:List Value),K.In s.heap->(us++ds).length=ps.length->Am s fd ⟨us,[]⟩ (ps.zip (us++ds))
theorem Binds.all{K:aD}{ps:List Str}(h:∀us:List Value,us.length=ps.length->NL fd ⟨us,[]⟩=pure (ps.zip us)):Binds K fd ps []:=λs us z hl=>by
 rw[KJ] at hl ⊢;exact .of_eq (h us hl)
def Passes(CX:kj)(X:Cx)(E:XK):Prop:=∀(pins:List (Addr×Obj))(σ:St)(H:Hp)(s:ao)(e:Value)(s':ao),Inv X pins σ H s->CX X.stack H s E e s'->X.xe e s'
section
variable{X:Cx}{CX:kj}{k:Nat}{f C:Addr}{fd:gY}{ps:List Str}{sp:Sp}{gh:List V}{ds:List Value}{E:XK}{x m:Str}{p pos apos:Pos}{e o:aN}{es:List aN}{ta:TE}{t:TA}
theorem HK(F:eF X.prog X.w X.K X.mg X.base CX k f fd ps sp)(hr:dD k X.A)(hb:Binds X.K fd ps ds)(hd:Vals gh ds)(hx:Passes CX X E)(I:Inv X pins σ H s)(r:Vals vs us)(h:sp (vs++gh) H Q E):aj (model X.prog X.w) X.A (call (.ref f) us) (EP X pins σ Q) X.xe s:=by
 have r2:Vals (vs++gh) (us++ds):=r.append hd;have hl:(us++ds).length=ps.length:=by rw[←r2.length];exact F.len _ _ _ _ h
 refine Ma (vS (F.run X.A X.stack s H ⟨us,[]⟩ (us++ds) (vs++gh) Q E hr I.Qh (hb s us I.iP hl) r2 h) λr s' hq=>?_);cases r with
 |error e=>exact hx pins σ H s e s' I hq
 |ok fl=>
  cases fl with
  |ret u=>exact I.after hq
  |next=>exact eV hq
  |brk=>exact eV hq
  |cont=>exact eV hq
theorem aeR(F:eF X.prog X.w X.K X.mg X.base CX k f fd ps sp)(hr:dD k X.A)(hg:Gl X x)(hm:X.mg x=some (.ref f))(hk:lA X.K (.ref f)=true)(hb:Binds X.K fd ps ds)(hd:Vals gh ds)(hx:Passes CX X E)
 (ha:PA X (e::es) t) (k7:(x==("__debug__":Str))=false:=by decide) (he:bK (e::es) X.env=(false,eval e X.env)::bK es X.env:=by rfl) (iQ:(gy pos (bK es X.env)).any (·.1)=false:=by rfl):
 PE X (.Call (.Name x p) (e::es) [] pos) (Pr sp gh E t):=by
 intro pins s σ H Q I h;refine k_ (wC I hg hm ?_ k7);refine Kd (h₀:=X.base) I.ok.mod.xQ hk (aJ (ha pos pins s σ H _ I h) λus s1 ⟨vs,H1,I1,r,q⟩=>⟨I1.iP,?_⟩) he iQ;exact HK F hr hb hd hx I1 r q
theorem adq(F:eF X.prog X.w X.K X.mg X.base CX k f fd ps sp)(hr:dD k X.A)(hg:Gl X x)(hm:X.mg x=some (.ref f))(hk:lA X.K (.ref f)=true)(hb:Binds X.K fd ps ds)(hd:Vals gh ds)(hx:Passes CX X E)
 (k7:(x==("__debug__":Str))=false:=by decide):PE X (.Call (.Name x p) [] [] pos) (Pr sp gh E AS):=by
 intro pins s σ H Q I h;refine k_ (wC I hg hm ?_ k7);exact Th I.iP hk (HK (us:=[]) F hr hb hd hx I .nil h)
structure Mk(K:aD)(C f:Addr):Prop where
 makes:DI K C=true
 init:jr K (.ref C) "__init__"=some (some (.ref f))
 fn:PySem.W.isFn K (.ref f)=true
 kp:lA K (.ref C)=true
theorem M4(M:Mk X.K C f)(F:eF X.prog X.w X.K X.mg X.base CX k f fd ps sp)(hr:dD (k+1) X.A)(hb:Binds X.K fd ps ds)(hd:Vals gh ds)(hx:Passes CX X E)(I:Inv X pins σ H s)(r:Vals vs us)(h:∀x dx,H x=none->H dx=none->dx≠x->sp (.ref x::(vs++gh)) (upd (upd H dx (.own x)) x (.ins C dx [])) (λv H2=>v=.az/\Q (.ref x) H2) E):
 aj (model X.prog X.w) X.A (call (.ref C) us) (EP X pins σ Q) X.xe s:=by
 have hq:=h (s.heap.objs.size+1) s.heap.objs.size (I.aE.fresh (Nat.le_succ _)) (I.aE.fresh (aY _)) (gw (Kx _));have I2:=Inv.made (C:=C) I;have r2:Vals (V.ref (s.heap.objs.size+1)::(vs++gh)) (f7 (s.heap.objs.size+1)::(us++ds)):=.cons rfl (r.append hd)
 have hl:(f7 (s.heap.objs.size+1)::us++ds).length=ps.length:=by
  have e:=r2.length;rw[F.len _ _ _ _ hq] at e;exact e.symm
 refine Ma (adp (f:=f) I.iP M.makes M.init (beq_iff_eq.mp M.fn) (vS (F.run _ X.stack _ _ ⟨f7 (s.heap.objs.size+1)::us,[]⟩ (f7 (s.heap.objs.size+1)::(us++ds)) _ _ E (hr.make C us [])
  (I2.Qh.make C us []) (hb _ (f7 (s.heap.objs.size+1)::us) I2.iP hl) r2 hq) λr s' nH=>?_))
 cases r with
 |error e=>exact hx pins σ _ _ e s' I2 nH
 |ok fl=>
  cases fl with
  |ret u=>
   obtain⟨v,H',I3,rv,ev,q3⟩:=I2.after nH;subst ev;exact⟨rv,⟨V.ref (s.heap.objs.size+1),H',I3,rfl,q3⟩⟩
  |next=>exact eV nH
  |brk=>exact eV nH
  |cont=>exact eV nH
theorem aeS(M:Mk X.K C f)(F:eF X.prog X.w X.K X.mg X.base CX k f fd ps sp)(hr:dD (k+1) X.A)(hg:Gl X x)(hm:X.mg x=some (.ref C))(hb:Binds X.K fd ps ds)(hd:Vals gh ds)(hx:Passes CX X E)
 (ha:PA X (e::es) t) (k7:(x==("__debug__":Str))=false:=by decide) (he:bK (e::es) X.env=(false,eval e X.env)::bK es X.env:=by rfl) (iQ:(gy pos (bK es X.env)).any (·.1)=false:=by rfl):
 PE X (.Call (.Name x p) (e::es) [] pos) (Pu C sp gh E t):=by
 intro pins s σ H Q I h;refine k_ (wC I hg hm ?_ k7);refine Kd (h₀:=X.base) I.ok.mod.xQ M.kp (aJ (ha pos pins s σ H _ I h) λus s1 ⟨vs,H1,I1,r,q⟩=>⟨I1.iP,?_⟩) he iQ;exact M4 M F hr hb hd hx I1 r q
theorem ads(M:Mk X.K C f)(F:eF X.prog X.w X.K X.mg X.base CX k f fd ps sp)(hr:dD (k+1) X.A)(hg:Gl X x)(hm:X.mg x=some (.ref C))(hb:Binds X.K fd ps ds)(hd:Vals gh ds)(hx:Passes CX X E)
 (k7:(x==("__debug__":Str))=false:=by decide):PE X (.Call (.Name x p) [] [] pos) (Pu C sp gh E AS):=by
 intro pins s σ H Q I h;refine k_ (wC I hg hm ?_ k7);exact Th I.iP M.kp (M4 (us:=[]) M F hr hb hd hx I .nil h)
end
def PK(X:Cx)(kws:List An)(t:TA):Prop:=
 ∀(pos:Pos)(pins:List (Addr×Obj))(s:ao)(σ:St)(H:Hp)(Q:List V->Hp->Prop),Inv X pins σ H s->t σ H Q->aj (model X.prog X.w) X.A (HH ((jZ pos (jT kws X.env)).map (·.2))) (AP X pins σ Q) X.xe s
section
variable{X:Cx}{CX:kj}{k:Nat}{f C:Addr}{fd:gY}{ps ks:List Str}{sp:Sp}{E:XK}{x m:Str}{p pos apos kpos:Pos}{e o:aN}{es:List aN}{kws:List An}{te ta:TE}{t tk:TA}{nm:Option Str}
theorem OW:PK X [] AS:=λz z z z H Q I h=>wpAny_evalAll_nil ⟨[],H,I,.nil,h⟩
theorem NX(ha:PE X e te)(hr:PK X kws t):PK X (⟨nm,e,kpos⟩::kws) (Pq te t):=by
 intro pos pins s σ H Q I h;show aj _ _ (HH ((do let v ←eval e X.env;HG pos;pure v)::(jZ pos (jT kws X.env)).map (·.2))) _ _ s;refine wpAny_evalAll_cons (ai (aJ (ha pins s σ H _ I h) λu s1 ⟨x,H1,I1,r1,q1⟩=>ai (vN (aW ?_))));exact aJ (hr pos pins s1 σ H1 _ I1 q1) λus s2 ⟨xs,H2,I2,r2,q2⟩=>⟨x::xs,H2,I2,.cons r1 r2,q2⟩
variable{g:List Value->List Value->List Value}{gV:List V->List V->List V}
end
structure wD(N P:List Str)(sc:bN):Prop where
 kind:sc.kind=.function
 co:sc.isCoroutine=false
 gen:sc.isGenerator=false
 nd:N.Nodup
 pre:N.take P.length=P
 par:∀x∈P,sc.names.lookup x=some .local\/sc.names.lookup x=some .cell
 agy:∀y∈sc.names,y.2≠.free
theorem Mm{kindOf:Str->Option iJ}:∀{binds:List (Str×Value)}{m:Str->Option Value},(∀v,(x,v)∉binds)->rE kindOf binds m x=m x
 |[],_,_=>rfl
 |(n,v)::r,m,h=>by
  unfold rE;rw[Mm λw hw=>h w (fD _ hw)];split
  ·have:x≠n:=by rintro rfl;exact h v jN
   simp[this]
  ·rfl
theorem Mn{kindOf:Str->Option iJ}:∀{binds:List (Str×Value)}{m:Str->Option Value},(∀v,(x,v)∉binds)->rF kindOf binds m x=m x
 |[],_,_=>rfl
 |(n,v)::r,m,h=>by
  unfold rF;rw[Mn λw hw=>h w (fD _ hw)];split
  ·rfl
  ·have:x≠n:=by rintro rfl;exact h v jN
   simp[this]
theorem Mp{kindOf:Str->Option iJ}{x:Str}:∀{P:List Str}{vs:List Value}{i:Nat}{m:Str->Option Value},P.Nodup->P[i]?=some x->vs[i]?=some v->kindOf x=some .local->
 rE kindOf (P.zip vs) m x=some v
 |[],_,_,_,_,h,_,_=>by simp at h
 |_::_,[],_,_,_,_,h,_=>by simp at h
 |p::P,w::vs,0,m,nd,h1,h2,hk=>by
  simp at h1 h2;subst h1;subst h2;show rE kindOf ((p,w)::P.zip vs) m p=_;unfold rE;rw[Mm λv hv=>(DJ.mp nd).1 (KL hv).1,if_pos hk];simp
 |p::P,w::vs,i+1,m,nd,h1,h2,hk=>by
  show rE kindOf ((p,w)::P.zip vs) m x=_;unfold rE;exact Mp (i:=i) (DJ.mp nd).2 (by simpa using h1) (by simpa using h2) hk
theorem Mq{kindOf:Str->Option iJ}{x:Str}:∀{P:List Str}{vs:List Value}{i:Nat}{m:Str->Option Value},P.Nodup->P[i]?=some x->vs[i]?=some v->kindOf x≠some .local->
 rF kindOf (P.zip vs) m x=some v
 |[],_,_,_,_,h,_,_=>by simp at h
 |_::_,[],_,_,_,_,h,_=>by simp at h
 |p::P,w::vs,0,m,nd,h1,h2,hk=>by
  simp at h1 h2;subst h1;subst h2;show rF kindOf ((p,w)::P.zip vs) m p=_;unfold rF;rw[Mn λv hv=>(DJ.mp nd).1 (KL hv).1,if_neg hk];simp
 |p::P,w::vs,i+1,m,nd,h1,h2,hk=>by
  show rF kindOf ((p,w)::P.zip vs) m x=_;unfold rF;exact Mq (i:=i) (DJ.mp nd).2 (by simpa using h1) (by simpa using h2) hk
noncomputable def start(N:List Str)(vs:List V):St:=vs.map some++iY (N.length-vs.length) none
noncomputable def uE(CX:kj)(P:bL)(w:aR)(K:aD)(mg:Str->Option Value)(base:aS)(N:List Str)(qual:Str)(scope:bN)(f:Addr)(cd:Value)(A:cK)(outer:List Env)(s:ao)(H:Hp)(E:XK):Cx where
 prog:=P
 w:=w
 K:=K
 mg:=mg
 base:=base
 A:=A.deeper (o_ qual scope s.heap.objs.size f cd)
 N:=N
 fV:=s
 xR:=H
 env:=o_ qual scope s.heap.objs.size f cd
 outer:=outer
 stack:=o_ qual scope s.heap.objs.size f cd::outer
 ex:=[]
 calm:=true
 fn:=λz=>true
 pn:=[]
 xe:=λe s'=>aj (model P w) (A.deeper (o_ qual scope s.heap.objs.size f cd)) («leaving» (o_ qual scope s.heap.objs.size f cd) e) (λz IM=>CX outer H s E e IM) (λe' IM=>CX outer H s E e' IM) s'
theorem M5{sc:bN}{x:Str}(h:sc.names.lookup x=some .cell):∃c,(fJ n sc.names []).lookup x=some c:=by
 have q:=Sq sc.names n [] (.inl h);exact Option.isSome_iff_exists.mp q
theorem abK{CX:kj}{P:bL}{w:aR}{K:aD}{mg:Str->Option Value}{base:aS}{N ps:List Str}{qual:Str}{scope:bN}{f:Addr}{cd:Value}{A:cK}{outer:List Env}{s s1:ao}{H:Hp}{E:XK}{us:List Value}{vs:List V}
 (S:wD N ps scope) (hd:A.handled=none) (e0:rL P w K mg base A outer s H) (hl:vs.length=ps.length) (r:Vals vs us)
 (x:InCallC s s.heap.objs.size (rE (o_ qual scope s.heap.objs.size f cd).kindOf (ps.zip us) λt=>none) (fJ (s.heap.objs.size+1) scope.names []) (rF (o_ qual scope s.heap.objs.size f cd).kindOf (ps.zip us) λt=>none) s1):
 Inv (uE CX P w K mg base N qual scope f cd A outer s H E) [] (start N vs) H s1:=by
 have iQ:ps.length<=N.length:=by have:=congrArg vX S.pre;rw[vD] at this;lia
 obtain⟨h1,tk,rfl,hk⟩:=x.done;have uS:∀b:Addr,b∉(uE CX P w K mg base N qual scope f cd A outer s H E).ex:=λb z=>absurd (show b∈([]:List Addr) from z) (by simp)
 refine⟨⟨e0.mod,S.kind,rfl,rfl,aY _,λy z c h1 h2=>?_,λy hy=>?_,λy c t h=>?_,λt=>hd,cK.frames_deeper e0.frames,.inr ⟨rfl,rfl⟩,λb z=>absurd z (uS b),e0.bs,e0.l_,λb t t=>uS b,λb z=>absurd z (uS b),e0.j9,e0.rW⟩,
  rfl,e0.bare,Un.kept hk,⟨_,x.toInCall.ns,λi y v h1 h2 h3=>?_⟩,λy c h=>⟨_,x.cell y c h⟩,e0.aE.fresh (aY _),λy c h=>?_,λp hp=>absurd (show p∈([]:List (Addr×Obj)) from hp) (by simp),e0.aE.kept hk,?_⟩
 ·exact name_of_addr x.apart (iX h1) (iX h2)
 ·have hy:scope.names.lookup y=some .cell\/scope.names.lookup y=some .free:=hy
  rcases hy with hy|hy
  ·exact M5 hy
  ·exact absurd rfl (S.agy _ (iX hy))
 ·exact Ln (x.above y c (iX h))
 ·have hi:i<vs.length:=by
   unfold start at h2
   by_cases hi:i<vs.length
   ·exact hi
   ·rw[Ci (by simpa using hi)] at h2
    rw[List.getElem?_replicate] at h2;split at h2<;>cases h2
  have ha:vs[i]?=some v:=by
   unfold start at h2;rw[Cm (by simpa using hi),eS] at h2;cases e:vs[i]? with
   |none=>rw[e] at h2;cases h2
   |some a=>rw[e] at h2;cases h2;rfl
  obtain⟨u,hu,rv⟩:=r.get ha
  have hp:ps[i]?=some y:=by
   rw[←S.pre,List.getElem?_take_of_lt (by simp_all)];exact h1
  have QM:ps.Nodup:=by rw[←S.pre];exact S.nd.sublist (List.take_sublist _ _)
  refine⟨u,rv,?_⟩;rcases S.par y (eO hp) with k|k
  ·exact .inl ⟨k,Mp QM hp hu k⟩
  ·obtain⟨c,e⟩:=M5 (n:=s.heap.objs.size+1) k
   refine .inr ⟨.inl k,c,e,?_⟩;have q:=x.cell y c e;rw[Mq QM hp hu (by show scope.names.lookup y≠_;rw[k];decide)] at q;exact q
 ·exact e0.aE.fresh (Ln (x.above y c (iX h)))
 ·unfold start
  show _=N.length;rw[jq,aU,List.length_replicate];simp[*]
theorem aij{CX:kj}{P:bL}{w:aR}{K:aD}{mg:Str->Option Value}{base:aS}{k:Nat}{f:Addr}{name qual:Str}{params:Arguments}{body:List dQ}{scope:bN}{dV kV doc pm cM ct oc:Value}{an od:Option Addr}
 {nI:Array (Option Value)} {N ps:List Str} {sp:Sp} (lk:K.lookup f=some ⟨oc,od,.func (qt name qual params body scope dV kV doc pm an cM ct),nI⟩) (mj:Ei K cM qual=true) (S:wD N ps scope)
 (len:∀vs H Q E,sp vs H Q E->vs.length=ps.length)
 (HR:∀(A:cK)(outer:List Env)(s:ao)(H:Hp)(vs:List V)(Q:VK)(E:XK),dD k (A.deeper (o_ qual scope s.heap.objs.size f cM))->sp vs H Q E->
  ∃t,jG (uE CX P w K mg base N qual scope f cM A outer s H E) body t/\t {nx:=λz H'=>Q .az H',rt:=Q} (start N vs) H):
 eF P w K mg base CX (k+1) f (qt name qual params body scope dV kV doc pm an cM ct) ps sp:=by
 refine⟨len,λA outer s H args us vs Q E hr e0 hb r jg=>?_⟩;have hl:=len _ _ _ _ jg;have KX:K.In s.heap:=e0.mod.xQ.keeps λb o e=>(e0.bs b o e).1;have lim:s.heap.NoLimit:=e0.mod.nolimit.keeps λb o e=>(e0.bs b o e).1
 have aik:∀y∈ps.zip us,scope.names.lookup y.1=some .local\/(scope.names.lookup y.1=some .cell/\((fJ (s.heap.objs.size+1) scope.names []).lookup y.1).isSome=true):=λ⟨n,v⟩ hy=>by
  rcases S.par n (KL hy).1 with q|q
  ·exact .inl q
  ·exact .inr ⟨q,Sq _ _ _ (.inl q)⟩
 refine codeAny_call_function hr.depth (KX _ _ lk) rfl S.co S.gen rfl (PySem.W.codeRec_of KX mj) (hb _ _ _ _ ?_);refine wpAny_newFunctionEnv_cells S.kind aik λenv he s1 x=>?_;subst he;refine⟨lim.keeps x.toInCall.keep,codeAny_func ?_⟩;obtain⟨t,ht,hq⟩:=HR A outer s H vs Q E (hr.deeper _) jg;have I:Inv (uE CX P w K mg base N qual scope f cM A outer s H E) [] (start N vs) H s1:=abK S hr.hd e0 hl r x;refine gX (ht [] s1 (start N vs) H _ I hq) (λfl s' hs=>?_) λe s' hs=>hs
 have fin:∀{aF:St}{H':Hp}{v:V}{u:Value},Inv (uE CX P w K mg base N qual scope f cM A outer s H E) [] aF H' s'->RelV v u->Q v H'->CE outer P w H s Q u s':=
  λ{aF H' v u} J rv q=>⟨v,H',J.os,J.bare,J.base,J.aE,rv,q⟩
 cases fl with
 |ret u=>
  obtain⟨v,aF,H',J,rv,q⟩:=hs;exact fin J rv q
 |next=>
  obtain⟨aF,H',J,q⟩:=hs;exact fin (v:=V.az) (u:=oB) J rfl q
 |brk=>
  obtain⟨_,_,_,q⟩:=hs;exact eV q
 |cont=>
  obtain⟨_,_,_,q⟩:=hs;exact eV q
section
variable{X:Cx}{x:Str}{p pos:Pos}{e:aN}{es:List aN}{t:TA}{id T:String}{r:List V->Hp->VK->Prop}
def QN(r:List V->Hp->VK->Prop)(t:TA):TE:=λσ H Q=>t σ H λvs H1=>r vs H1 Q
theorem qJ(hc:fm X (.builtin id) r)(hg:Gl X x)(hm:X.mg x=none)(hv:vQ x=some (.builtin id))(ha:PA X (e::es) t)(hn:x≠"__name__":=by decide)(k7:(x==("__debug__":Str))=false:=by decide)
 (he:bK (e::es) X.env=(false,eval e X.env)::bK es X.env:=by rfl) (iQ:(gy pos (bK es X.env)).any (·.1)=false:=by rfl):PE X (.Call (.Name x p) (e::es) [] pos) (QN r t):=by
 intro pins s σ H Q I h;refine k_ (kN I hg hm hv ?_ hn k7);exact alx (aJ (ha pos pins s σ H _ I h) λus s1 ⟨vs,H1,I1,r1,q1⟩=>hc pins s1 σ H1 vs us Q I1 r1 q1) he iQ
theorem Mr(hc:fm X (.type T) r)(hg:Gl X x)(hm:X.mg x=none)(hv:vQ x=some (.type T))(ha:PA X (e::es) t)(hn:x≠"__name__":=by decide)(k7:(x==("__debug__":Str))=false:=by decide)
 (he:bK (e::es) X.env=(false,eval e X.env)::bK es X.env:=by rfl) (iQ:(gy pos (bK es X.env)).any (·.1)=false:=by rfl):PE X (.Call (.Name x p) (e::es) [] pos) (QN r t):=by
 intro pins s σ H Q I h;refine k_ (kN I hg hm hv ?_ hn k7);exact p8 (aJ (ha pos pins s σ H _ I h) λus s1 ⟨vs,H1,I1,r1,q1⟩=>hc pins s1 σ H1 vs us Q I1 r1 q1) he iQ
end
end L2
namespace HT
open PySem PyProof.Rows
section
variable{prog:bL}{w:aR}{A:cK}{E:Value->ao->Prop}{s:ao}
noncomputable def bu(n d:Nat):Option Int->Nat
 |none=>d
 |some v=>if v<0 then (v+(n:Int)).toNat else min v.toNat n
theorem M6(n d:Nat):bu n d none=d:=rfl
theorem wF(n d k:Nat):bu n d (some (k:Int))=min k n:=by
 show(if (k:Int)<0 then ((k:Int)+(n:Int)).toNat else min (k:Int).toNat n)=min k n;rw[if_neg (by simp),fG]
theorem agz(n d:Nat)(hd:d<=n)(o:Option Int):bu n d o<=n:=by
 cases o with
 |none=>exact hd
 |some v=>
  show(if v<0 then (v+(n:Int)).toNat else min v.toNat n)<=n
  by_cases hv:v<0
  ·rw[if_pos hv];(simp;lia)
  ·rw[if_neg hv];exact U6 _ _
theorem NY(v:Int)(n d:Nat):(if v<0 then max (v+(n:Int)) 0 else min v (n:Int))=((bu n d (some v):Nat):Int):=by
 show(if v<0 then max (v+(n:Int)) 0 else min v (n:Int))=(((if v<0 then (v+(n:Int)).toNat else min v.toNat n):Nat):Int)
 by_cases hv:v<0
 ·simp only[if_pos hv];simp
 ·simp only[if_neg hv];grind
theorem aaC(lo hi:Option Int)(n:Nat):JV lo hi 1 (n:Int)=(((bu n 0 lo:Nat):Int),((bu n n hi:Nat):Int)):=by
 have h1:¬((1:Int)<0):=by simp
 unfold JV;simp only[h1,if_false];refine oO ?_ ?_
 ·cases lo with
  |none=>rfl
  |some v=>exact NY v n 0
 ·cases hi with
  |none=>rfl
  |some v=>exact NY v n n
theorem aaD(i j:Nat):Cn (i:Int) (j:Int) 1=j-i:=by
 unfold Cn;have h1:(1:Int)>0:=by simp
 simp only[h1,if_true,Int.ediv_one];split<;>simp_all
theorem LM(p:rm v o)(h:Q o s):aj (model prog w) A (alz v) Q E s:=by
 cases p with
 |none=>exact W6 h
 |int i t=>exact slicePart_int h
theorem Uq{sl:Addr}{vl vu:Value}{lo hi:Option Int}{n:Nat}(hs:s.heap.IsSliceOf sl vl vu .none)(pl:rm vl lo)(pu:rm vu hi)(h:Q (((bu n 0 lo:Nat):Int),1,bu n n hi-bu n 0 lo) s):aj (model prog w) A (R7 (.ref sl) (pure (n:Int))) Q E s:=by
 obtain⟨os,xX,QO,uT⟩:=id hs;unfold R7 alR;refine ai (ai (fH xX uT (x:=vl) rfl (ai (fH xX uT (x:=vu) rfl (ai (fH xX uT (x:=.none) rfl (aW ?_)))))));refine ai (W6 ?_);show aj _ _ (if ((1:Int)==0)=true then _ else _) _ _ s;rw[if_neg (by decide)];refine ai (LM pl (ai (LM pu (ai (aW ?_)))));show aj _ _ (match JV lo hi 1 (n:Int) with|(lo,hi)=>pure (lo,(1:Int),Cn lo hi 1)) _ _ s;rw[aaC lo hi n];show aj _ _ (pure (((bu n 0 lo:Nat):Int),(1:Int),Cn ((bu n 0 lo:Nat):Int) ((bu n n hi:Nat):Int) 1)) _ _ s;rw[aaD];exact aW h
theorem adt(xs:Array Value)(i k:Nat):((cS k).filterMap λ(m:Nat)=>xs[((i:Int)+(m:Int)*1).toNat]?).toArray=((xs.toList.drop i).take k).toArray:=by
 have e:(λ(m:Nat)=>xs[((i:Int)+(m:Int)*1).toNat]?)=λm=>xs[i+m]?:=by
  funext m;have:((i:Int)+(m:Int)*1).toNat=i+m:=by lia
  rw[this]
 rw[e];have:=pick_run xs i k;rw[Ke] at this;have e2:((λx=>xs[x]?) ∘ λx=>i+x)=λm=>xs[i+m]?:=rfl;rw[e2] at this;rw[this]
theorem T3{t sl:Addr}{items:Array Value}{vl vu:Value}{lo hi:Option Int}(ht:IsTup s.heap t items)(hs:s.heap.IsSliceOf sl vl vu .none)(pl:rm vl lo)(pu:rm vu hi)(hw:¬(bu items.size 0 lo=0/\bu items.size items.size hi=items.size))(h:Q (.ref s.heap.objs.size) {s with heap:=s.heap.push {cls:=.type "tuple",data:=.seq ((items.toList.drop (bu items.size 0 lo)).take (bu items.size items.size hi-bu items.size 0 lo)).toArray}})(hsz:items.size<=sizeLine):aj (model prog w) A (uu (.ref t) (.ref sl)) Q E s:=by
 have AB:sizeOk (.seq ((items.toList.drop (bu items.size 0 lo)).take (bu items.size items.size hi-bu items.size 0 lo)).toArray):=by
  show((items.toList.drop (bu items.size 0 lo)).take (bu items.size items.size hi-bu items.size 0 lo)).toArray.size<=sizeLine;rw[cW,vD,lu,yL]
  omega
 have hj:bu items.size items.size hi<=items.size:=agz _ _ (aY _) hi;obtain⟨os,xX,QO,uT⟩:=id hs;have hTs:s.TypeIs (.ref sl) "slice":=⟨os,xX,QO⟩;unfold uu
 try with_reducible refine mQ ?_
 first|refine ai (aW ?_)|skip
 refine ai (wpAny_sequenceKey ht.typeIs (by decide) ?_)
 refine ai (sU (name:=kK "__getitem__") ht.typeIs Ce
  (s_ Ce ht.typeIs entry_tuple_getitem ?_ (args_tuple_getitem _ _)))
 show aj _ _ (alD (.ref t) >>= _) _ _ s;refine ai (tupleItemsOf_ ht ?_);refine ai (wpAny_typeOf hTs ?_);rw[if_pos (by decide)];refine ai (Uq hs pl pu ?_)
 have xY:¬((((bu items.size 0 lo:Nat):Int)==0&&(1:Int)==1&&(bu items.size items.size hi-bu items.size 0 lo)==items.size)=true):=by
  intro q;rw[bx,bx] at q;have q1:((bu items.size 0 lo:Nat):Int)=0:=eq_of_beq q.1.1;have q2:bu items.size items.size hi-bu items.size 0 lo=items.size:=eq_of_beq q.2;exact hw ⟨by simp_all,by simp_all⟩
 show aj _ _ (if (((bu items.size 0 lo:Nat):Int)==0&&(1:Int)==1&&(bu items.size items.size hi-bu items.size 0 lo)==items.size)=true then _ else _) _ _ s;rw[if_neg xY,adt]
 first
  |exact ai (m:=Cp _) (qd (aW ⟨_,rfl,aW h⟩) AB)
  |exact ai (m:=Cp _) (qd (ai (aW (aW ⟨_,rfl,aW h⟩))) AB)
  |exact ai (ai (m:=Cp _) (qd (aW (aW ⟨_,rfl,aW h⟩)) AB))
  |exact ai (ai (m:=Cp _) (qd (aW ⟨_,rfl,aW h⟩) AB))
end
end HT
namespace L2
open PySem PySem.Spec PyProof.Rows
noncomputable abbrev TO:=St->Hp->(Option Int->Hp->Prop)->Prop
def PO(X:Cx)(e:Option aN)(t:TO):Prop:=
 ∀(pins:List (Addr×Obj))(s:ao)(σ:St)(H:Hp)(Q:Option Int->Hp->Prop),Inv X pins σ H s->t σ H Q->
  aj (model X.prog X.w) X.A (evalPart e X.env) (λu s'=>∃o H',Inv X pins σ H' s'/\rm u o/\Q o H') X.xe s
def aeT:TO:=λz H Q=>Q none H
section
variable{X:Cx}{e:aN}{te:TE}{lo hi:Option aN}{tl th:TO}{pos p2:Pos}
theorem NZ:PO X none aeT:=by
 intro pins s σ H Q I h;rw[X5];exact aW ⟨none,H,I,.none,h⟩
def iR(X:Cx)(r:V->Option Int->Option Int->Hp->VK->Prop):Prop:=
 ∀(pins:List (Addr×Obj))(s:ao)(σ:St)(H:Hp)(x:V)(v vl vu:Value)(lo hi:Option Int)(sl:Addr)(Q:VK),Inv X pins σ H s->RelV x v->s.heap.IsSliceOf sl vl vu .none->rm vl lo->rm vu hi->r x lo hi H Q->
  ∃T id,Mb (.type T) "__getitem__"=pure (some (.builtin id))/\s.TypeIs v T/\aj (model X.prog X.w) X.A (uu v (.ref sl)) (EP X pins σ Q) X.xe s
theorem iR.or(h:iR X r)(h':iR X r'):iR X (λx lo hi H Q=>r x lo hi H Q\/r' x lo hi H Q):=by
 intro pins s σ H x v vl vu lo hi sl Q I rx hs pl pu q;rcases q with q|q
 ·exact h pins s σ H x v vl vu lo hi sl Q I rx hs pl pu q
 ·exact h' pins s σ H x v vl vu lo hi sl Q I rx hs pl pu q
def tSl(r:V->Option Int->Option Int->Hp->VK->Prop)(te:TE)(tl th:TO):TE:=λσ H Q=>te σ H λx H1=>tl σ H1 λl H2=>th σ H2 λu H3=>r x l u H3 Q
theorem M7(hr:iR X r)(he:PE X e te)(hl:PO X lo tl)(hu:PO X hi th):PE X (.Subscript e (.Slice lo hi none p2) pos) (tSl r te tl th):=by
 intro pins s σ H Q I h;refine Mc (aJ (he pins s σ H _ I h) λv s1 ⟨x,H1,I1,r1,q1⟩=>?_);refine wpAny_Slice (aJ (hl pins s1 σ H1 _ I1 q1) λvl s2 ⟨l,H2,I2,pl,q2⟩=>aJ (hu pins s2 σ H2 _ I2 q2) λvu s3 ⟨u,H3,I3,pu,q3⟩=>?_);rw[X5];refine aW ?_;have I4:Inv X pins σ H3 {s3 with heap:=s3.heap.push {cls:=.type "slice",data:=.fields #[vl,vu,.none]}}:=I3.kept (t':=s3.toks) λb ob q=>cj _ q;obtain⟨T,id,hT,ht,hg⟩:=hr pins {s3 with heap:=s3.heap.push {cls:=.type "slice",data:=.fields #[vl,vu,.none]}} σ H3 x v vl vu l u s3.heap.objs.size Q I4 r1 (aod ..) pl pu q3;show aj (model X.prog X.w) X.A (K8 e (.Slice lo hi none p2) v (.ref s3.heap.objs.size)) (EP X pins σ Q) X.xe {s3 with heap:=s3.heap.push {cls:=.type "slice",data:=.fields #[vl,vu,.none]}};exact tail_any (ops:=[.ref s3.heap.objs.size,v]) ht hT hg (by with_unfolding_all rfl)
noncomputable def fz(xs:List V)(lo hi:Option Int):List V:=(xs.drop (HT.bu xs.length 0 lo)).take (HT.bu xs.length xs.length hi-HT.bu xs.length 0 lo)
theorem Lz(xs:List V)(lo hi:Option Int):(fz xs lo hi).length<=xs.length:=by
 unfold fz;rw[vD,lu]
 omega
def aji(K:aD):V->Option Int->Option Int->Hp->VK->Prop:=λx lo hi H Q=>∃a xs,x=.ref a/\aP K H a xs/\
 ¬(HT.bu xs.length 0 lo=0/\HT.bu xs.length xs.length hi=xs.length)/\∀p,H p=none->Q (.ref p) (upd H p (.tup (fz xs lo hi)))
theorem agA:iR X (aji X.K):=by
 intro pins s σ H x v vl vu lo hi sl Q I rx hs pl pu h;obtain⟨a,xs,rfl,hx,hw,q⟩:=h;cases rx;obtain⟨its,r,ht,hz⟩:=I.tuple hx;have hlen:its.toArray.size=xs.length:=by rw[cW];exact r.length.symm
 refine⟨"tuple",_,Ce.lookup,ht.typeIs,?_⟩;refine HT.T3 ht hs pl pu (by rw[hlen];exact hw) ?_ (by rw[hlen];exact hz);rw[hlen];refine⟨.ref s.heap.objs.size,_,I.laid (t':=s.toks) (o:=.tup (fz xs lo hi)) (λb ob q=>cj _ q) (aY _) ?_,rfl,q _ (I.aE.fresh (aY _))⟩;exact⟨eU (Lz xs lo hi) hz,_,(r.drop (HT.bu xs.length 0 lo)).take (HT.bu xs.length xs.length hi-HT.bu xs.length 0 lo),IsTup.new _ _⟩
end
noncomputable def iS(n:Nat)(i:Int):Option Nat:=if 0<=i then (if i<n then some i.toNat else none) else if -(n:Int)<=i then some (i+n).toNat else none
noncomputable def cF{α:Type}(xs:List α)(i:Int):Option α:=(iS xs.length i).bind λj=>xs[j]?
theorem N1(h:iS n i=some j):seqIndex? i n=some j/\j<n/\ -(n:Int)<=i/\i<n:=by
 unfold iS at h
 by_cases h0:0<=i
 ·rw[if_pos h0] at h
  by_cases h1:i<n
  ·rw[if_pos h1] at h
   have e:i.toNat=j:=dM h;exact⟨by rw[LI h0 h1,e],by(subst_vars;omega),by lia,h1⟩
  ·rw[if_neg h1] at h;cases h
 ·rw[if_neg h0] at h
  by_cases h1: -(n:Int)<=i
  ·rw[if_pos h1] at h
   have e:(i+n).toNat=j:=dM h;exact⟨by rw[Lr (by simp_all) h1,e],by(subst_vars;lia),h1,by lia⟩
  ·rw[if_neg h1] at h;cases h
theorem N2{α:Type}{xs:List α}{v:α}(h:cF xs i=some v):∃j,seqIndex? i xs.length=some j/\xs[j]?=some v/\j<xs.length/\ -(xs.length:Int)<=i/\i<xs.length:=by
 unfold cF at h;cases e:iS xs.length i with
 |none=>rw[e] at h;cases h
 |some j=>
  rw[e] at h;obtain⟨h1,h2,h3,h4⟩:=N1 e;exact⟨j,h1,h,h2,h3,h4⟩
theorem qO{α:Type}{xs:List α}{j:Nat}{v:α}(h:xs[j]?=some v):cF xs (j:Int)=some v:=by
 have hj:j<xs.length:=(dF.mp h).1
 have e:iS xs.length (j:Int)=some j:=by
  unfold iS;rw[if_pos (by simp),if_pos (by simp[*])];simp
 unfold cF;rw[e];exact h
def Hi(b:aN):Prop:=∀o i,subscripted b false o i=operate [o,i] (uu o i)
def iw(X:Cx)(r:R2):Prop:=
 ∀(value slice:aN)(pins:List (Addr×Obj))(s:ao)(σ:St)(H:Hp)(x y:V)(v u:Value)(Q:VK),Inv X pins σ H s->RelV x v->RelV y u->r x y H Q->
  subscripted slice false v u=operate [v,u] (uu v u)->aj (model X.prog X.w) X.A (K8 value slice v u) (EP X pins σ Q) X.xe s
def QS(X:Cx)(id:String)(r:V->List V->Hp->VK->Prop):Prop:=
 ∀(pins:List (Addr×Obj))(s:ao)(σ:St)(H:Hp)(x:V)(xs:List V)(v:Value)(us:List Value)(Q:VK),Inv X pins σ H s->RelV x v->Vals xs us->r x xs H Q->
  aj (model X.prog X.w) X.A (call (.builtin id) (v::us)) (EP X pins σ Q) X.xe s
section
variable{X:Cx}{a b:aN}{ta tb:TE}{pos:Pos}
theorem iw.or(h:iw X r)(h':iw X r'):iw X (λx y H Q=>r x y H Q\/r' x y H Q):=by
 intro value slice pins s σ H x y v u Q I rx ry q hs;rcases q with q|q
 ·exact h value slice pins s σ H x y v u Q I rx ry q hs
 ·exact h' value slice pins s σ H x y v u Q I rx ry q hs
theorem HS(hr:iw X r)(ha:PE X a ta)(hb:PE X b tb)(hs:Hi b):PE X (.Subscript a b pos) (Bu r ta tb):=by
 intro pins s σ H Q I h;exact Mc (Ii ha hb I h λv u s2 x y H2 I2 rx ry q=>hr a b pins s2 σ H2 x y v u Q I2 rx ry q (hs _ _))
noncomputable def Qi(K:aD):R2:=λx y H Q=>∃p xs i v,x=.ref p/\y=.int i/\aG K H p xs/\cF xs i=some v/\Q v H
noncomputable def Qj(K:aD):R2:=λx y H Q=>∃p xs i v,x=.ref p/\y=.int i/\aP K H p xs/\cF xs i=some v/\Q v H
noncomputable def ajj:R2:=λx y H Q=>∃z i c,x=.str z/\y=.int i/\z.length<=sizeLine/\cF z.cps.toList i=some c/\Q (.str ⟨#[c]⟩) H
theorem N3:iw X (Qi X.K):=by
 intro value slice pins s σ H x y v u Q I rx ry h hs;obtain⟨p,xs,i,z,rfl,rfl,hq,he,q⟩:=h;cases rx;obtain⟨t,rfl⟩:=ry;obtain⟨its,r,pl,hz⟩:=I.list hq;obtain⟨j,h1,h2,h3,h4,h5⟩:=N2 he;obtain⟨w,ew,IP⟩:=r.get h2;have hl:=r.length;have hn:=wQ;have fin:EP X pins σ Q w s:=⟨z,H,I,IP,q⟩
 by_cases h0:0<=i
 ·have hj:i.toNat=j:=by
   rw[LI h0 h5] at h1;exact dM h1
  exact item_listR pl.isList h0 (by lia) (by rw[hj];simpa using ew) fin hs
 ·have hj:(i+(its.toArray.size:Int)).toNat=j:=by
   rw[Lr (by lia) h4] at h1;rw[cW,←hl];exact dM h1
  exact Su (x:=w) pl.isList.typeIs Ul.lookup
   (wpAny_getItem_list_neg (Q:=λr s'=>r=w/\EP X pins σ Q r s') pl.isList (by lia) (by rw[cW]<;>simp_all) (by lia) (by rw[hj];simpa using ew) ⟨rfl,fin⟩) hs
theorem HL:iw X (Qj X.K):=by
 intro value slice pins s σ H x y v u Q I rx ry h hs;obtain⟨p,xs,i,z,rfl,rfl,hq,he,q⟩:=h;cases rx;obtain⟨t,rfl⟩:=ry;obtain⟨its,r,pl,hz⟩:=I.tuple hq;obtain⟨j,h1,h2,h3,h4,h5⟩:=N2 he;obtain⟨w,ew,IP⟩:=r.get h2;have hl:=r.length;have hn:=wQ;have fin:EP X pins σ Q w s:=⟨z,H,I,IP,q⟩
 exact Su (x:=w) pl.typeIs Ce.lookup
  (getItem_tuple (j:=j) (Q:=λr s'=>r=w/\EP X pins σ Q r s') pl (by lia) (by lia) (by rw[cW,←hl];exact h1) (by simpa using ew) ⟨rfl,fin⟩) hs
noncomputable def jH(K:aD):R2:=λx y H Q=>Qi K x y H Q\/Qj K x y H Q\/ajj x y H Q
theorem aaE(its:List Value)(n j:Nat)(u:Value):zy (·.setIfInBounds j u) {cls:=.type "list",data:=.seq its.toArray n}={cls:=.type "list",data:=.seq (its.set j u).toArray n}:=by
 simp[zy]
theorem Inv.lst(I:Inv X pins σ H s)(h:H p=some (.lst xs)):
 ∃(its:List Value)(n:Nat),Vals xs its/\s.heap.get? p=some {cls:=.type "list",data:=.seq its.toArray n}/\xs.length<=sizeLine:=by
 obtain⟨z,its,n,r,e⟩:=I.aE p _ h;exact⟨its,n,r,e,z⟩
theorem Inv.agB{σ:St}{H:Hp}{s:ao}{p:Addr}{xs ys:List V}{its its':List Value}{n n':Nat}{f:Obj->Obj}(I:Inv X pins σ H s)(h:H p=some (.lst xs))(ho:s.heap.get? p=some {cls:=.type "list",data:=.seq its.toArray n})(hf:f {cls:=.type "list",data:=.seq its.toArray n}={cls:=.type "list",data:=.seq its'.toArray n'})(r:Vals ys its')(hz:ys.length<=sizeLine)(t:Nat):
 Inv X pins σ (upd H p (.lst ys)) {s with heap:=s.heap.update p f,toks:=t}:=by
 have e:(s.heap.update p f).get? p=some {cls:=.type "list",data:=.seq its'.toArray n'}:=by
  rw[Cv f ho (by rw[hf]<;>rfl),hf]
 refine I.write (x:=p) (e:=p) (by rw[h];trivial) (.inl rfl) (λb u hb q=>(sV _ _ (i9 hb)).trans q) ⟨_,e⟩ ?_;exact⟨hz,its',n',r,e⟩
def ail:V->V->V->Hp->(Hp->Prop)->Prop:=λo i v H Q=>∃p xs k j,o=.ref p/\i=.int k/\H p=some (.lst xs)/\iS xs.length k=some j/\Q (upd H p (.lst (xs.set j v)))
theorem set_list:Ig X ail:=by
 intro pins s σ H o i v ov iv u Q I ro ri rv h;obtain⟨p,xs,k,j,rfl,rfl,hp,hj,q⟩:=h;cases ro;obtain⟨t,rfl⟩:=ri;obtain⟨its,n,r,ho,hz⟩:=I.lst hp;obtain⟨h1,h2,h3,h4⟩:=N1 hj;have hl:=r.length;have hn:=wQ
 have I':Inv X pins σ (upd H p (.lst (xs.set j v))) {s with heap:=s.heap.update p (zy (·.setIfInBounds j u))}:=
  I.agB hp ho (aaE its n j u) (r.set rv j) (by rw[VZ];exact hz) s.toks
 by_cases h0:0<=k
 ·have hk:k.toNat=j:=by
   rw[LI h0 h4] at h1;exact dM h1
  exact PySem.W.ki_setAt ho h0 (by lia) (by rw[cW,←hl];exact h4) (by rw[hk];exact⟨_,I',q⟩)
 ·have hk:(k+(its.toArray.size:Int)).toNat=j:=by
   rw[Lr (by lia) h3] at h1;rw[cW,←hl];exact dM h1
  exact PySem.W.ki_setBack ho (by lia) (by rw[cW,←hl];exact h3) (by lia) (by rw[hk];exact⟨_,I',q⟩)
theorem Yd(lo hi:Option Int)(n:Nat):(tO lo hi none n).1=((HT.bu n 0 lo:Nat):Int)/\(tO lo hi none n).2.1=((HT.bu n n hi:Nat):Int)/\(tO lo hi none n).2.2=1:=by
 refine⟨?_,?_,rfl⟩
 ·cases lo with
  |none=>simp[tO,HT.bu]
  |some i=>
   simp only[tO,HT.bu,U7,show(1:Int)>0 by decide,if_true]
   by_cases h:i<0
   ·simp only[h,if_true]<;>grind
   ·simp only[h,if_false]<;>grind
 ·cases hi with
  |none=>simp[tO,HT.bu]
  |some i=>
   simp only[tO,HT.bu,U7,show(1:Int)>0 by decide,if_true]
   by_cases h:i<0
   ·simp only[h,if_true]<;>lia
   ·simp only[h,if_false]<;>lia
theorem Xi(its:List Value)(lo hi:Option Int):slicePick its.toArray lo hi none=((its.drop (HT.bu its.length 0 lo)).take (HT.bu its.length its.length hi-HT.bu its.length 0 lo)).toArray:=by
 obtain⟨h1,h2,h3⟩:=Yd lo hi its.toArray.size;unfold slicePick;rw[h1,h2,h3];simp only[sliceRange_one,pick_run,cW]<;>rfl
def ajk(K:aD):V->Option Int->Option Int->Hp->VK->Prop:=λx lo hi H Q=>∃a xs,x=.ref a/\aG K H a xs/\∀p,H p=none->Q (.ref p) (upd H p (.lst (fz xs lo hi)))
theorem N4:iR X (ajk X.K):=by
 intro pins s σ H x v vl vu lo hi sl Q I rx hs pl pu h;obtain⟨a,xs,rfl,hx,q⟩:=h;cases rx;obtain⟨its,r,ht,hz⟩:=I.list hx;have hlen:=r.length;refine⟨"list",_,Ul.lookup,ht.isList.typeIs,?_⟩;refine wpAny_getItem_list_slice ht.isList hs pl pu .none (by simp) ?_ (by rw[cW]<;>simp_all);rw[Xi,←hlen];refine⟨.ref s.heap.objs.size,_,I.laid (t':=s.toks) (o:=.lst (fz xs lo hi)) (λb ob q=>cj _ q) (aY _) ?_,rfl,q _ (I.aE.fresh (aY _))⟩;exact⟨eU (Lz xs lo hi) hz,_,0,(r.drop (HT.bu xs.length 0 lo)).take (HT.bu xs.length xs.length hi-HT.bu xs.length 0 lo),d9 _ rfl⟩
noncomputable def nc:V->Bool
 | .az=>true
 | .bl _=>true
 | .int _=>true
 | .str _=>true
 |_=>false
noncomputable def mz:V->V->Bool
 | .az,.az=>true
 | .bl a,.bl b=>a==b
 | .bl a,.int b=>(if a then 1 else 0)==b
 | .int a,.bl b=>a==(if b then 1 else 0)
 | .int a,.int b=>a==b
 | .str a,.str b=>a==b
 |_,_=>false
theorem agC(ry:RelV y u)(rx:RelV x v)(fy:nc y=true)(fx:nc x=true):abv A s u v (mz y x):=by
 cases y with
 |az=>
  cases ry;cases x with
  |az=>cases rx;exact abv.same _
  |bl b=>cases rx;exact abv.none_bool b
  |int b=>obtain⟨t,rfl⟩:=rx;exact abv.none_int b t
  |str b=>obtain⟨t,rfl⟩:=rx;exact abv.none_str b t
  |_=>exact absurd (show false=true from fx) dY
 |bl a=>
  cases ry;cases x with
  |az=>cases rx;exact abv.bool_none a
  |bl b=>cases rx;exact abv.bool_bool a b
  |int b=>obtain⟨t,rfl⟩:=rx;exact abv.bool_int a b t
  |str b=>obtain⟨t,rfl⟩:=rx;exact abv.bool_str a b t
  |_=>exact absurd (show false=true from fx) dY
 |int a=>
  obtain⟨t',rfl⟩:=ry;cases x with
  |az=>cases rx;exact abv.int_none a t'
  |bl b=>cases rx;exact abv.int_bool a t' b
  |int b=>obtain⟨t,rfl⟩:=rx;exact abv.int_int a t' b t
  |str b=>obtain⟨t,rfl⟩:=rx;exact TF a t' b t
  |_=>exact absurd (show false=true from fx) dY
 |str a=>
  obtain⟨t',rfl⟩:=ry;cases x with
  |az=>cases rx;exact abv.str_none a t'
  |bl b=>cases rx;exact abv.str_bool a t' b
  |int b=>obtain⟨t,rfl⟩:=rx;exact TH a t' b t
  |str b=>obtain⟨t,rfl⟩:=rx;exact abv.str_str a t' b t
  |_=>exact absurd (show false=true from fx) dY
 |_=>exact absurd (show false=true from fy) dY
noncomputable def iT(x:V)(u:Value):Bool:=match u with
 | .none=>mz .az x
 | .bool b=>mz (.bl b) x
 | .int i _=>mz (.int i) x
 | .str z _=>mz (.str z) x
 |_=>false
theorem OX(r:RelV y u)(f:nc y=true):iT x u=mz y x:=by
 cases y with
 |az=>cases r;rfl
 |bl b=>cases r;rfl
 |int i=>obtain⟨t,rfl⟩:=r;rfl
 |str z=>obtain⟨t,rfl⟩:=r;rfl
 |_=>exact absurd (show false=true from f) dY
theorem wG:∀{xs:List V}{us:List Value},Vals xs us->xs.all nc=true->us.any (iT x)=xs.any λy=>mz y x
 |_,_,.nil,_=>rfl
 |y::xs,u::us,.cons r t,f=>by
  rw[kJ,bx] at f;rw[lE,lE,OX r f.1,wG t f.2]
theorem wg(rx:RelV x v)(fx:nc x=true):∀{xs:List V}{us:List Value},Vals xs us->xs.all nc=true->∀u∈us,abv A s u v (iT x u)
 |_,_,.nil,_=>λu hu=>by cases hu
 |y::xs,u::us,.cons r t,f=>λu' hu=>by
  rw[kJ,bx] at f;rcases cH.mp hu with rfl|hu
  ·rw[OX r f.1];exact agC r rx f.1 fx
  ·exact wg rx fx t f.2 u' hu
noncomputable def Bw(x:V)(xs:List V):Bool:=xs.any λy=>mz y x
noncomputable def Bx(K:aD)(neg:Bool):R2:=λx y H Q=>∃p xs,y=.ref p/\(aG K H p xs\/aP K H p xs)/\nc x=true/\xs.all nc=true/\Q (.bl (if neg then !Bw x xs else Bw x xs)) H
theorem Ms:br X (compareOp .In) (Bx X.K false):=by
 intro pins s σ H x y v u Q I rx ry h;obtain⟨p,xs,rfl,hq,fx,fs,q⟩:=h;cases ry;rcases hq with hq|hq
 ·obtain⟨its,r,pl,hz⟩:=I.list hq
  refine SeqAt.in_listAt (iT x) pl.isList (λw hw=>wg rx fx r fs w (by simpa using hw)) ⟨.bl _,H,I,rfl,?_⟩;rw[show its.toArray.any (iT x)=its.any (iT x) by simp,wG r fs];exact q
 ·obtain⟨its,r,pl,hz⟩:=I.tuple hq
  refine SeqAt.in_tupleAt (iT x) pl (λw hw=>wg rx fx r fs w (by simpa using hw)) ⟨.bl _,H,I,rfl,?_⟩;rw[show its.toArray.any (iT x)=its.any (iT x) by simp,wG r fs];exact q
theorem Lc:br X (compareOp .NotIn) (Bx X.K true):=by
 intro pins s σ H x y v u Q I rx ry h;obtain⟨p,xs,rfl,hq,fx,fs,q⟩:=h;cases ry;rcases hq with hq|hq
 ·obtain⟨its,r,pl,hz⟩:=I.list hq
  refine SeqAt.notIn_listAt (iT x) pl.isList (λw hw=>wg rx fx r fs w (by simpa using hw)) ⟨.bl _,H,I,rfl,?_⟩;rw[show its.toArray.any (iT x)=its.any (iT x) by simp,wG r fs];exact q
 ·obtain⟨its,r,pl,hz⟩:=I.tuple hq
  refine SeqAt.notIn_tupleAt (iT x) pl (λw hw=>wg rx fx r fs w (by simpa using hw)) ⟨.bl _,H,I,rfl,?_⟩;rw[show its.toArray.any (iT x)=its.any (iT x) by simp,wG r fs];exact q
theorem Ld:fm X (.builtin "len") (λxs H Q=>∃p ys,xs=[.ref p]/\(aG X.K H p ys\/aP X.K H p ys)/\Q (.int ys.length) H):=by
 intro pins s σ H xs us Q I r h;obtain⟨p,ys,rfl,hq,q⟩:=h;obtain⟨u,rfl,rx⟩:=vals1 r;cases rx;have hn:=wQ;rcases hq with hq|hq
 ·obtain⟨its,r',pl,hz⟩:=I.list hq
  have hlen:=r'.length;exact Calls.call_len_list pl.isList (by simp only[cW]<;>lia) ⟨.int ys.length,H,I.tok _,⟨s.toks+1,by rw[cW,hlen]⟩,q⟩
 ·obtain⟨its,r',pl,hz⟩:=I.tuple hq
  have hlen:=r'.length;exact len_tuple pl (by simp only[cW]<;>lia) ⟨.int ys.length,H,I.tok _,⟨s.toks+1,by rw[cW,hlen]⟩,q⟩
theorem Ye:fm X (.type "list") (λxs H Q=>∃p ys,xs=[.ref p]/\(aG X.K H p ys\/aP X.K H p ys)/\∀l,H l=none->Q (.ref l) (upd H l (.lst ys))):=by
 intro pins s σ H xs us Q I r h;obtain⟨p,ys,rfl,hq,q⟩:=h;obtain⟨u,rfl,rx⟩:=vals1 r;cases rx
 have fin:∀(its:List Value),Vals ys its->ys.length<=sizeLine->∀(h':aS)(c':Nat),(∀b o',s.heap.get? b=some o'->h'.get? b=some o')->
  h'.get? s.heap.objs.size=some {cls:=.type "list",dict:=none,data:=.seq its.toArray c',slots:=#[]}->EP X pins σ Q (.ref s.heap.objs.size) {s with heap:=h'}:=λits r' hz h' c' kp e=>
  ⟨.ref s.heap.objs.size,_,I.laid (t':=s.toks) kp (aY _) (show fk X.prog X.w _ h' _ (.lst ys) from⟨hz,its,c',r',e⟩),rfl,q _ (I.aE.fresh (aY _))⟩
 rcases hq with hq|hq
 ·obtain⟨its,r',pl,hz⟩:=I.list hq
  have hlen:=r'.length;obtain⟨o,ho,hc,n,hd⟩:=pl.isList;exact X6 p (.inl rfl) ho hc hd (λh' c' kp e=>fin its r' hz h' c' kp e) (by simp only[cW]<;>lia)
 ·obtain⟨its,r',pl,hz⟩:=I.tuple hq
  have hlen:=r'.length;obtain⟨o,ho,hc,n,hd⟩:=pl;exact X6 p (.inr rfl) ho hc hd (λh' c' kp e=>fin its r' hz h' c' kp e) (by simp only[cW]<;>lia)
theorem Xj:fm X (.type "tuple") (λxs H Q=>∃p ys,xs=[.ref p]/\((aG X.K H p ys/\∀l,H l=none->Q (.ref l) (upd H l (.tup ys)))\/(aP X.K H p ys/\Q (.ref p) H))):=by
 intro pins s σ H xs us Q I r h;obtain⟨p,ys,rfl,h⟩:=h;obtain⟨u,rfl,rx⟩:=vals1 r;cases rx;rcases h with⟨hq,q⟩|⟨hq,q⟩
 ·obtain⟨its,r',pl,hz⟩:=I.list hq
  have hlen:=r'.length;refine call_tuple_list pl.isList (λh' kp=>?_) (by simp only[cW]<;>lia);have I1:Inv X pins σ H {s with heap:=h'}:=I.kept (t':=s.toks) kp
  have I2:Inv X pins σ (upd H h'.objs.size (.tup ys)) {s with heap:=h'.push {cls:=.type "tuple",data:=.seq its.toArray}}:=
   I1.laid (t':=s.toks) (λb o e=>cj _ e) (aY _) (show fk X.prog X.w _ _ _ (.tup ys) from⟨hz,its,r',IsTup.new _ _⟩)
  exact⟨.ref h'.objs.size,_,I2,rfl,q _ (I1.aE.fresh (aY _))⟩
 ·obtain⟨its,r',pl,hz⟩:=I.tuple hq
  exact call_tuple_same pl ⟨.ref p,H,I,rfl,q⟩
def QT(K:aD)(T:String)(x:V)(H:Hp):Prop:=match x with
 | .str _=>T="str"
 | .int _=>T="int"
 | .ref p=>(T="list"/\∃xs,aG K H p xs)\/(T="tuple"/\∃o,K.lookup p=some o/\o.cls=.type "tuple"/\o.dict=none)\/
  (T="dict"/\((∃bw,H p=some (.dK bw))\/∃bw,H p=some (.dT bw)))\/(T="set"/\∃S n,H p=some (.set S n))
 |_=>False
theorem agD(I:Inv X pins σ H s)(r:RelV x v)(ty:QT X.K T x H):
 s.TypeIs v T/\∀a,v=.ref a->∃ob,s.heap.get? a=some ob/\ob.dict=none:=by
 cases x with
 |str z=>
  obtain⟨t,rfl⟩:=r;cases(show T="str" from ty);exact⟨typeIs_str s z t,λy e=>nomatch e⟩
 |int i=>
  obtain⟨t,rfl⟩:=r;cases(show T="int" from ty);exact⟨Me s i t,λy e=>nomatch e⟩
 |ref p=>
  cases r;rcases ty with⟨rfl,xs,hq⟩|⟨rfl,o,hk,hc,hd⟩|⟨rfl,hk⟩|⟨rfl,S,n,hk⟩
  ·obtain⟨its,_,pl,_⟩:=I.list hq
   refine⟨pl.isList.typeIs,λa e=>?_⟩;cases e;obtain⟨o,n,e,c,hd,_⟩:=pl;exact⟨o,e,hd⟩
  ·refine⟨⟨o,I.iP p o hk,hc⟩,λa e=>?_⟩
   cases e;exact⟨o,I.iP _ o hk,hd⟩
  ·have z:∃o,s.heap.get? p=some o/\o.ExactDict:=by
    rcases hk with⟨bw,hk⟩|⟨bw,hk⟩
    ·obtain⟨_,_,_,_,o,_,_,e,ex,_⟩:=I.aE p _ hk
     exact⟨o,e,ex⟩
    ·obtain⟨_,_,_,_,o,_,_,e,ex,_⟩:=I.aE p _ hk
     exact⟨o,e,ex⟩
   obtain⟨o,e,ex⟩:=z;refine⟨⟨o,e,ex.1⟩,λa e2=>?_⟩;cases e2;exact⟨o,e,ex.2.1⟩
  ·obtain⟨o,_,_,_,e,ex,_⟩:=I.aE p _ hk
   refine⟨⟨o,e,ex.1⟩,λa e2=>?_⟩;cases e2;exact⟨o,e,ex.2.1⟩
 |_=>exact eV ty
def tBM(K:aD)(T:String)(r:V->List V->Hp->VK->Prop)(to:TE)(t:TA):TE:=λσ H Q=>to σ H λx H1=>QT K T x H1/\t σ H1 λxs H2=>r x xs H2 Q
variable{o e:aN}{es:List aN}{to:TE}{t:TA}{name:Str}{apos rM:Pos}{T id:String}{r:V->List V->Hp->VK->Prop}
theorem aim(pa:PlainAttrs T)(slot:Slot T name id)(IQ:typeOf (.builtin id)=pure (.type "method_descriptor"))(hm:QS X id r)(ho:PE X o to)(ha:PA X (e::es) t)
 (ain:EB o name X.env (eval o X.env)=eval o X.env:=by rfl)
 (ajl:((gy rM (bK (e::es) X.env)).all (λx=> !x.1)&&(jZ rM (jT [] X.env)).all (λx=>x.1.isSome)
  &&decide ((e::es).length+([]:List An).length+(if ([]:List An).isEmpty then 0 else 1)<30))=true:=by rfl)
 (aio:(apos.endLine==rM.line)=true:=by rfl) (hs:bK (e::es) X.env=(false,eval e X.env)::bK es X.env:=by rfl) (agE:(gy rM (bK es X.env)).any (·.1)=false:=by rfl):
 PE X (.Call (.Attribute o name apos) (e::es) [] rM) (tBM X.K T r to t):=by
 intro pins s σ H Q I h;refine wpAny_Call_method_late ain ajl aio rfl (aJ (ho pins s σ H _ I h) λv s1 ⟨x,H1,I1,r1,ty,q1⟩=>?_);obtain⟨h1,h2⟩:=agD I1 r1 ty;refine⟨T,id,pa,slot,IQ,h1,h2,?_⟩;have hA:=ha rM pins s1 σ H1 _ I1 q1;rw[hs] at hA ⊢;refine Calls.callWith_builtin (by show(false||(gy rM (bK es X.env)).any (·.1))=false;rw[agE]<;>rfl) (Calls.evalArgs_plain ?_);exact aJ hA λus s2 ⟨vs,H2,I2,r2,q2⟩=>hm pins s2 σ H2 x vs v us Q I2 r1 r2 q2
end
def QU(X:Cx)(id:String)(r:V->List V->Hp->VK->Prop):Prop:=
 ∀(pins:List (Addr×Obj))(s:ao)(σ:St)(H:Hp)(x:V)(xs:List V)(v:Value)(us:List Value)(Q:VK),Inv X pins σ H s->RelV x v->Vals xs us->r x xs H Q->
  aj (model X.prog X.w) X.A (call (.builtin id) (v::us)) (EP X pins σ Q) X.xe s
theorem Vals.one:∀{x:V}{us:List Value},Vals [x] us->∃u,us=[u]/\RelV x u
 |_,_,.cons r .nil=>⟨_,rfl,r⟩
theorem Vals.rep(h:Vals xs us):∀k:Nat,Vals (iY k xs).flatten (iY k us).flatten
 |0=>.nil
 |k+1=>by
  rw[yM,yM,C1,C1];exact Vals.append h (Vals.rep h k)
theorem foldl_rep(its:List Value):∀(k:Nat)(acc:List Value),
 Mf (λx1 x2=>x1++x2) acc.toArray (iY k its.toArray)=(acc++(iY k its).flatten).toArray
 |0,acc=>by simp
 |k+1,acc=>by
  have e:acc.toArray++its.toArray=(acc++its).toArray:=by simp
  have e2:(acc++its)++(iY k its).flatten=acc++(iY (k+1) its).flatten:=by
   rw[yM,C1,C2]
  rw[←e2,←foldl_rep its k (acc++its),←e,yM,oi]
section
variable{X:Cx}{pins:List (Addr×Obj)}{σ:St}{H:Hp}{s:ao}{l b:Addr}{xs ys zs:List V}
theorem Inv.gQ{its its':List Value}{n:Nat}{t':Nat}(I:Inv X pins σ H s)(hH:H l=some (.lst xs))(e:s.heap.get? l=some {cls:=.type "list",data:=.seq its.toArray n})(hf:f its.toArray=its'.toArray)(hv:Vals ys its')(hz:ys.length<=sizeLine):
 Inv X pins σ (upd H l (.lst ys)) {s with heap:=s.heap.update l (zy f),toks:=t'}:=by
 have q:=PySem.IsL.update e f;rw[hf] at q;refine I.write (x:=l) (e:=l) (by rw[hH];exact trivial) (.inl rfl) (λb' u hb hu=>(sV s.heap (zy f) (i9 hb)).trans hu) ⟨_,q⟩ ?_;exact⟨hz,its',_,hv,q⟩
theorem Inv.Qk(I:Inv X pins σ H s)(hv:Vals ys its)(hz:ys.length<=sizeLine):
 Inv X pins σ (upd H s.heap.objs.size (.lst ys)) {s with heap:=s.heap.push {cls:=.type "list",data:=.seq its.toArray},toks:=t'}:=
 I.laid (λz z q=>cj _ q) (aY _) ⟨hz,its,0,hv,d9 _ rfl⟩
theorem Inv.fresh(I:Inv X pins σ H s):H s.heap.objs.size=none:=I.aE.fresh (aY _)
theorem Inv.uF(I:Inv X pins σ H s)(hH:H l=some (.lst xs)):xs.length<=sizeLine/\∃(its:List Value)(n:Nat),Vals xs its/\xs.length=its.length/\s.heap.get? l=some {cls:=.type "list",data:=.seq its.toArray n}:=by
 obtain⟨z,its,n,r,e⟩:=I.aE l _ hH;exact⟨z,its,n,r,r.length,e⟩
theorem M8(h:n<=sizeLine):Cq n=false:=by
 unfold Cq;exact decide_eq_false (by simp[*])
end
section
variable{X:Cx}
def N5:V->List V->Hp->VK->Prop:=λx vs H Q=>∃l xs y,x=.ref l/\vs=[y]/\H l=some (.lst xs)/\xs.length<sizeLine/\Q .az (upd H l (.lst (xs++[y])))
theorem abL:QU X "list.append" N5:=by
 intro pins s σ H x vs v us Q I rx rv h;obtain⟨l,xs,y,rfl,rfl,hH,hz,q⟩:=h;cases rx;obtain⟨u,rfl,ru⟩:=rv.one;obtain⟨z,its,n,r,hl,e⟩:=I.uF hH;refine Gh Sg ⟨_,e,rfl⟩ F.entry_list_append (F.args_list_append_2 _ _) (PySem.list_append l its.toArray n u (by rw[cW];simp_all)) ⟨e,?_⟩;refine⟨.az,_,I.gQ (its':=its++[u]) hH e (by simp) (r.append (.cons ru .nil)) ?_,rfl,q⟩;rw[jq,List.length_singleton]
 trivial
def N6:V->List V->Hp->VK->Prop:=λx vs H Q=>∃l b xs zs,x=.ref l/\vs=[.ref b]/\H l=some (.lst xs)/\H b=some (.lst zs)/\xs.length+zs.length<=sizeLine/\Q .az (upd H l (.lst (xs++zs)))
theorem abM:QU X "list.extend" N6:=by
 intro pins s σ H x vs v us Q I rx rv h;obtain⟨l,b,xs,zs,rfl,rfl,hH,hB,hz,q⟩:=h;cases rx;obtain⟨u,rfl,ru⟩:=rv.one;cases ru;obtain⟨z,its,n,r,hl,e⟩:=I.uF hH;obtain⟨z2,kU,n2,r2,mC,e2⟩:=I.uF hB;have hsz:its.toArray.size+kU.toArray.size<=sizeLine:=by rw[cW,cW];simp_all
 have HU:¬(!its.toArray.isEmpty&&Cq (its.toArray.size+kU.toArray.size))=true:=by
  rw[M8 hsz,oj];exact dY
 refine Gh Sh ⟨_,e,rfl⟩ F.entry_list_extend (F.args_list_extend_2 _ _)
  (AutoSeq1.list_extend_list_list_0 l its.toArray n b kU.toArray n2 HU (by rw[cW];simp_all) (by(constructor<;>omega))) ⟨e,e2,?_⟩
 refine⟨.az,_,I.gQ (its':=its++kU) hH e (by simp) (r.append r2) ?_,rfl,q⟩;rw[jq]
 omega
noncomputable def ajm:R2:=λx y H Q=>∃l b xs zs,x=.ref l/\y=.ref b/\H l=some (.lst xs)/\H b=some (.lst zs)/\xs.length+zs.length<=sizeLine/\∀p,H p=none->Q (.ref p) (upd H p (.lst (xs++zs)))
theorem agF:br X (binaryOp .Add) ajm:=by
 intro pins s σ H x y v u Q I rx ry h;obtain⟨l,b,xs,zs,rfl,rfl,hH,hB,hz,q⟩:=h;cases rx;cases ry;obtain⟨z,its,n,r,hl,e⟩:=I.uF hH;obtain⟨z2,kU,n2,r2,mC,e2⟩:=I.uF hB;refine PySem.P.add_list e e2 ?_ (by rw[cW,cW];lia);have ea:its.toArray++kU.toArray=(its++kU).toArray:=by simp
 rw[ea];exact⟨.ref _,_,I.Qk (t':=s.toks) (r.append r2) (by rw[jq];lia),rfl,q _ I.fresh⟩
noncomputable def ajn:R2:=λx y H Q=>∃l k xs,x=.ref l/\y=.int k/\H l=some (.lst xs)/\ -(2^63)<=k/\k<2^63/\xs.length*k.toNat<=sizeLine/\
 ∀p,H p=none->Q (.ref p) (upd H p (.lst (iY k.toNat xs).flatten))
theorem len_rep{α:Type}(xs:List α)(k:Nat):(iY k xs).flatten.length=k*xs.length:=by
 induction k with
 |zero=>simp
 |succ k ih=>rw[yM,C1,jq,ih,Y3,vU]
theorem agG:br X (binaryOp .Mult) ajn:=by
 intro pins s σ H x y v u Q I rx ry h;obtain⟨l,k,xs,rfl,rfl,hH,h1,h2,hz,q⟩:=h;cases rx;obtain⟨t,rfl⟩:=ry;obtain⟨z,its,n,r,hl,e⟩:=I.uF hH;have hlen:its.toArray.size*k.toNat<=sizeLine:=by rw[cW,←hl];exact hz
 have ajo:¬its.toArray.size*k.toNat>(2^63-1)/8:=by
  have:(sizeLine:Nat)<=(2^63-1)/8:=by decide
  grind
 have ajp:¬(!alE k)=true:=by
  rw[fitsIndex_both h1 h2];exact dY
 have HU:¬Cq (its.toArray.size*k.toNat)=true:=by
  rw[M8 hlen];exact dY
 have ajq:Mf (λx1 x2=>x1++x2) #[] (iY (if its.toArray.isEmpty=true then 0 else k.toNat) its.toArray)=(iY k.toNat its).flatten.toArray:=by
  have f0:∀m:Nat,Mf (λx1 x2=>x1++x2) #[] (iY m its.toArray)=(iY m its).flatten.toArray:=λm=>by
   have:=foldl_rep its m [];rw[KN] at this;exact this
  rw[f0];cases its with
  |nil=>simp
  |cons a r'=>rw[if_neg (by simp)]
 refine wpAny_binaryOp_repeat_ref (T:="list") (U:="int") (by decide) ⟨_,e,rfl⟩ (λs'=>Me s' k t) noFill_list_mul F.fills_int_mul V0 repeat_list F.slot_int_index.lookup
  (Gh V0 (Me s k t) F.entry_int_rmul (F.args_int_rmul_2 _ _) (int___rmul___int_list k t l its.toArray n)
   ⟨e,rfl,⟨_,e,rfl⟩,Gh F.slot_list_mul ⟨_,e,rfl⟩ F.entry_list_mul (F.args_list_mul_2 _ _) (AutoListH.list___mul___list_int_3 l its.toArray n k t ajp ajo HU) ⟨e,?_⟩⟩)
 rw[ajq];exact⟨.ref _,_,I.Qk (t':=s.toks) (r.rep k.toNat) (by rw[len_rep,zd];exact hz),rfl,q _ I.fresh⟩
end
theorem Vals.ints:∀{ns:List Int}{us:List Value},Vals (ns.map V.int) us->IntsAre us ns
 |[],us,h=>by
  rw[bB] at h;cases h;exact IntsAre.nil
 |n::ns,us,h=>by
  rw[aV] at h;cases h with
  |cons r t=>
   obtain⟨k,rfl⟩:=r;exact IntsAre.cons n k (Vals.ints t)
theorem Vals.IS:∀{bs:List Bool}{us:List Value},Vals (bs.map V.bl) us->us=bs.map qF
 |[],us,h=>by
  rw[bB] at h;cases h;rfl
 |b::bs,us,h=>by
  rw[aV] at h;cases h with
  |cons r t=>
   cases r;rw[Vals.IS t,aV]
theorem Vals.AU(r:Vals [V.ref a] us):us=[f7 a]:=by
 cases r with
 |cons r t=>
  cases t;cases r;rfl
theorem Vals.ajr(r:Vals [V.int i,V.int j] us):∃t u,us=[v_ i t,v_ j u]:=by
 cases r with
 |cons r t=>
  cases t with
  |cons r2 t2=>
   cases t2;obtain⟨t,rfl⟩:=r;obtain⟨u,rfl⟩:=r2;exact⟨t,u,rfl⟩
section
variable{prog:bL}{w:aR}{A:cK}{E:Value->ao->Prop}{s:ao}{l:Addr}{its:List Value}{ns:List Int}{Q:Value->ao->Prop}
theorem aeU(hh:A.handled=none)(hl:s.heap.IsList l its.toArray)(hi:IntsAre its ns)
 (h:∀h' tk t',(∀b o,s.heap.get? b=some o->h'.get? b=some o)->Q (.int ns.sum t') {s with heap:=h',toks:=tk}):aj (model prog w) A (call (.builtin "sum") [.ref l]) Q E s:=by
 obtain⟨xs,e⟩:=hi.allInts.items;have hn:numsOf (t_ xs).toList=ns:=by rw[←e];exact hi.numsOf
 rw[X7] at hn;rw[e] at hl;refine PySem.sum_intListG hh hl λh' tk t' hk=>?_;have:=h h' tk t' hk;rw[preSum_eq,jo (by simp),hn];exact this
end
section
variable{X:Cx}
def ajs(K:aD):List V->Hp->VK->Prop:=λvs H Q=>∃(a:Addr)(ns:List Int),vs=[V.ref a]/\aG K H a (ns.map V.int)/\Q (.int ns.sum) H
theorem agH(hc:X.calm=true):fm X (.builtin "sum") (ajs X.K):=by
 intro pins s σ H vs us Q I r h;obtain⟨a,ns,rfl,hs,q⟩:=h;obtain⟨its,rv,hl,_⟩:=I.list hs;rw[Vals.AU r];exact aeU (I.ok.hd hc) hl.isList rv.ints λh' tk t' hk=>⟨.int _,H,I.kept hk,⟨_,rfl⟩,q⟩
end
theorem M9(hl:s.heap.IsList l items)(h:∀gA:ao,gA={s with heap:=s.heap.push {cls:=.type "list_iterator",data:=.fields #[.ref l,.int 0 0]}}->
 (gA.heap.IsListIter s.heap.objs.size l 0/\gA.heap.IsList l items)->l≠s.heap.objs.size->Q (.ref s.heap.objs.size) gA):aj (model prog w) A (Ax (.ref l)) Q E s:=by
 have aM:l<s.heap.objs.size:=by obtain⟨_,e,_⟩:=hl;exact bT e
 exact Kp hl (h _ rfl ⟨⟨_,d9 _ rfl,rfl,rfl⟩,hl.push _⟩ (gw aM))
theorem LA{prog:bL}{w:aR}{A:cK}{bs:List Bool}(e:its=bs.map qF):
 TruthOf prog w A (λi v=>its.toArray[i]?=some v) (λi=>bs.getD i false):=λi v s Q E hv hq=>by
 have Bv:its[i]?=some v:=by simpa using hv
 rw[e,eS] at Bv;obtain⟨b,hb,rfl⟩:=mO.mp Bv;have hg:bs.getD i false=b:=by rw[nX,hb]<;>rfl
 have nH:Q (bs.getD i false) s:=hq;rw[hg] at nH;exact qc nH
theorem any_range:∀bs:List Bool,(cS bs.length).any (λi=>bs.getD i false)=bs.any id
 |[]=>rfl
 |b::bs=>by
  rw[ck,yJ,lE,qu,lE,←any_range bs]
  all_goals rfl
theorem all_range:∀bs:List Bool,(cS bs.length).all (λi=>bs.getD i false)=bs.all id
 |[]=>rfl
 |b::bs=>by
  rw[ck,yJ,kJ,qv,kJ,←all_range bs]
  all_goals rfl
section
variable{X:Cx}
def ajt(K:aD):List V->Hp->VK->Prop:=λvs H Q=>∃(a:Addr)(bs:List Bool),vs=[V.ref a]/\aG K H a (bs.map V.bl)/\Q (.bl (bs.any id)) H
def aju(K:aD):List V->Hp->VK->Prop:=λvs H Q=>∃(a:Addr)(bs:List Bool),vs=[V.ref a]/\aG K H a (bs.map V.bl)/\Q (.bl (bs.all id)) H
theorem agI(hc:X.calm=true):fm X (.builtin "any") (ajt X.K):=by
 intro pins s σ H vs us Q I r h;obtain⟨a,bs,rfl,hs,q⟩:=h;obtain⟨its,rv,hl,_⟩:=I.list hs;rw[Vals.AU r];have hb:=rv.IS;refine call_any_walk (M9 hl.isList λgA e2 st dJ=>?_);subst e2;refine⟨_,_,_,_,_,_,_,rfl,Mg (A:=X.A.in1) (I.ok.hd hc) _ a dJ its.toArray,st,LA hb,λh' tk hk=>?_⟩;refine⟨.bl _,H,I.kept λb o eo=>hk b o (λni=>?_) (cj _ eo),?_,q⟩
 ·rcases cH.mp ni with e1|ni
  ·exact absurd (e1▸bT eo) (jQ _)
  ·cases ni
 ·show qF _=qF _
  rw[←any_range,hb,cW,aU]
theorem agJ(hc:X.calm=true):fm X (.builtin "all") (aju X.K):=by
 intro pins s σ H vs us Q I r h;obtain⟨a,bs,rfl,hs,q⟩:=h;obtain⟨its,rv,hl,_⟩:=I.list hs;rw[Vals.AU r];have hb:=rv.IS;refine call_all_walk (M9 hl.isList λgA e2 st dJ=>?_);subst e2;refine⟨_,_,_,_,_,_,_,rfl,Mg (A:=X.A.in1) (I.ok.hd hc) _ a dJ its.toArray,st,LA hb,λh' tk hk=>?_⟩;refine⟨.bl _,H,I.kept λb o eo=>hk b o (λni=>?_) (cj _ eo),?_,q⟩
 ·rcases cH.mp ni with e1|ni
  ·exact absurd (e1▸bT eo) (jQ _)
  ·cases ni
 ·show qF _=qF _
  rw[←all_range,hb,cW,aU]
end
mutual
inductive Dp (K:aD) (H:Hp):V->rq->Prop
 |az:Dp K H .az .none
 |bl (b:Bool):Dp K H (.bl b) (.bool b)
 |int (i:Int):Dp K H (.int i) (.int i)
 |str (x:Str):Dp K H (.str x) (.str x)
 |lst {a:Addr} {xs:List V} {ds:List rq}:aG K H a xs->pq K H xs ds->Dp K H (.ref a) (.list ds)
 |tup {a:Addr} {xs:List V} {ds:List rq}:aP K H a xs->pq K H xs ds->Dp K H (.ref a) (.tuple ds)
inductive pq (K:aD) (H:Hp):List V->List rq->Prop
 |nil:pq K H [] []
 |cons {v:V} {vs:List V} {d:rq} {ds:List rq}:Dp K H v d->pq K H vs ds->pq K H (v::vs) (d::ds)
end
section
variable{X:Cx}{pins:List (Addr×Obj)}{σ:St}{H:Hp}{s:ao}
mutual
theorem Dp.reads(I:Inv X pins σ H s):∀(d:rq)(v:V)(u:Value),Dp X.K H v d->RelV v u->∃as,Reads s.heap u d as
 | .none,_,_,h,r=>by
   cases h;cases r;exact⟨_,Reads.none⟩
 | .bool b,_,_,h,r=>by
   cases h;cases r;exact⟨_,Reads.bool b⟩
 | .int i,_,_,h,r=>by
   cases h;obtain⟨t,rfl⟩:=r;exact⟨_,Reads.int i t⟩
 | .str x,_,_,h,r=>by
   cases h;obtain⟨t,rfl⟩:=r;exact⟨_,Reads.str x t⟩
 | .list ds,_,_,h,r=>by
   cases h with
   |lst hs ha=>
    cases r;obtain⟨its,rv,⟨o,n,ho,hc,_,hd⟩,_⟩:=I.list hs;obtain⟨as,hr⟩:=Dp.readsAll I ds _ its ha rv;exact⟨_,Reads.list ho hc hd hr⟩
 | .tuple ds,_,_,h,r=>by
   cases h with
   |tup hs ha=>
    cases r;obtain⟨its,rv,⟨o,ho,hc,n,hd⟩,_⟩:=I.tuple hs;obtain⟨as,hr⟩:=Dp.readsAll I ds _ its ha rv;exact⟨_,Reads.tuple ho hc hd hr⟩
 | .dict _,_,_,h,_=>by cases h
theorem Dp.readsAll(I:Inv X pins σ H s):∀(ds:List rq)(vs:List V)(us:List Value),pq X.K H vs ds->Vals vs us->∃as,ReadsAll s.heap us ds as
 |[],_,_,h,r=>by
  cases h;cases r;exact⟨_,ReadsAll.nil⟩
 |d::ds,_,_,h,r=>by
  cases h with
  |cons h1 h2=>
   cases r with
   |cons r1 r2=>
    obtain⟨as,q1⟩:=Dp.reads I d _ _ h1 r1;obtain⟨bs,q2⟩:=Dp.readsAll I ds _ _ h2 r2;exact⟨_,ReadsAll.cons q1 q2⟩
end
end
section
variable{X:Cx}
noncomputable def ajv(K:aD):R2:=λx y H Q=>∃d e,Dp K H x d/\Dp K H y e/\EZ d=true/\EZ e=true/\Q (.bl (zA d e)) H
theorem agK(hu:X.A.units+64<xx):br X (compareOp .Eq) (ajv X.K):=by
 intro pins s σ H x y v u Q I rx ry h;obtain⟨d,e,hd,he,sd,se,q⟩:=h;obtain⟨as,r1⟩:=Dp.reads I d x v hd rx;obtain⟨bs,r2⟩:=Dp.reads I e y u he ry;exact SeqAt.compareEq_shaped r1 r2 sd se hu ⟨.bl _,H,I,rfl,q⟩
end
end L2
namespace L2
open PySem PySem.Spec PyProof.Rows
abbrev OY(h:aS)(c:Addr)(v:Option Value):Prop:=h.IsCell c v
noncomputable def jc(scope sc:bN):bN:=
 {scope with names:=scope.names.map λ(n,k)=>if (k==.free&&sc.kind==.function&&sc.names.lookup n==some .cell) then (n,.cell) else (n,k)}
noncomputable def fh(cells:List (Str×Addr)):List (Str×iJ)->List (Str×Addr)->List (Str×Addr)
 |[],acc=>acc
 |(n,k)::r,acc=>if k==.free then fh cells r ((n,(cells.lookup n).getD 0)::acc) else fh cells r acc
theorem Le(env:Env)(f:Str×iJ->List (Str×Addr)->Sem (ForInStep (List (Str×Addr))))
 (hf:∀n k c,f (n,k) c=if k==.free then (do let a ←cellOf env n;pure (.yield ((n,a)::c))) else pure (.yield c)):
 ∀(names:List (Str×iJ))(acc:List (Str×Addr)),(∀y∈names,y.2=.free->∃c,env.cells.lookup y.1=some c)->forIn names acc f=pure (fh env.cells names acc)
 |[],acc,_=>by rw[Ej];rfl
 |(n,k)::r,acc,h=>by
  rw[KO,hf];have ih:=λacc=>Le env f hf r acc λy hy=>h y (fD _ hy);unfold fh
  by_cases hk:(k==vO)=true
  ·rw[if_pos hk,if_pos hk]
   obtain⟨c,hc⟩:=h (n,k) jN (by simpa using hk);have e:cellOf env n=pure c:=by unfold cellOf;rw[hc]
   rw[e];have e2:(env.cells.lookup n).getD 0=c:=by rw[hc];rfl
   rw[e2];exact ih _
  ·rw[if_neg hk,if_neg hk]
   exact ih _
theorem aaF(h:∀y∈scope.names,y.2=.free->∃c,env.cells.lookup y.1=some c):closureFor scope env=pure (fh env.cells scope.names []):=by
 simp only[closureFor];rw[Le env _ (λn k c=>rfl) scope.names [] h];rfl
theorem mem_lookup{α:Type}:∀{l:List (Str×α)}{n:Str}{c:α},(n,c)∈l->∃c',l.lookup n=some c'
 |(k,v)::r,n,c,h=>by
  rw[lq];cases hb:n==k with
  |true=>exact⟨_,rfl⟩
  |false=>
   rcases cH.mp h with e|h
   ·cases e;simp at hb
   ·exact mem_lookup h
theorem zh:∀{names:List (Str×iJ)}{acc:List (Str×Addr)}{n:Str}{c:Addr},(n,c)∈fh cells names acc->(n,c)∈acc\/((n,.free)∈names/\c=(cells.lookup n).getD 0)
 |[],_,_,_,h=>.inl h
 |(m,k)::r,acc,n,c,h=>by
  unfold fh at h;split at h
  ·rename_i hk
   have hk:k=.free:=by simpa using hk
   rcases zh h with h|⟨h1,h2⟩
   ·rcases cH.mp h with e|h
    ·cases e;exact .inr ⟨hk▸jN,rfl⟩
    ·exact .inl h
   ·exact .inr ⟨fD _ h1,h2⟩
  ·rcases zh h with h|⟨h1,h2⟩
   ·exact .inl h
   ·exact .inr ⟨fD _ h1,h2⟩
theorem E4:∀{names:List (Str×iJ)}{acc:List (Str×Addr)}{p:Str×Addr},p∈acc->p∈fh cells names acc
 |[],_,_,h=>h
 |(m,k)::r,acc,p,h=>by
  unfold fh;split
  ·exact E4 (fD _ h)
  ·exact E4 h
theorem E5:∀{names:List (Str×iJ)}{acc:List (Str×Addr)}{n:Str},(n,.free)∈names->(n,(cells.lookup n).getD 0)∈fh cells names acc
 |(m,k)::r,acc,n,h=>by
  unfold fh;rcases cH.mp h with e|h
  ·cases e
   exact E4 jN
  ·split
   ·exact E5 h
   ·exact E5 h
theorem v7:∀{names:List (Str×iJ)}{h:aS}{acc:List (Str×Addr)}{x:Str}{c:Addr},(x,c)∈fJ h.objs.size names acc->
 (x,c)∈acc\/((x,.cell)∈names/\h.objs.size<=c/\OY (qH h names) c none)
 |[],_,_,_,_,h=>.inl h
 |(n,k)::r,h,acc,x,c,hm=>by
  unfold fJ at hm;unfold qH;split at hm
  ·rename_i hk
   rw[if_pos hk];have hk:k=.cell:=by simpa using hk
   rw[←d_ h {cls:=.type "cell",data:=.cell none}] at hm;rcases v7 hm with hm|⟨h1,h2,h3⟩
   ·rcases cH.mp hm with e|hm
    ·cases e
     exact .inr ⟨hk▸jN,aY _,_,DK r _ _ _ (d9 _ rfl),rfl⟩
    ·exact .inl hm
   ·rw[d_] at h2
    exact .inr ⟨fD _ h1,C3 h2,h3⟩
  ·rename_i hk
   rw[if_neg hk];rcases v7 hm with hm|⟨h1,h2,h3⟩
   ·exact .inl hm
   ·exact .inr ⟨fD _ h1,h2,h3⟩
theorem zD:∀{names:List (Str×iJ)}{n:Nat}{acc:List (Str×Addr)}{p:Str×Addr},p∈acc->p∈fJ n names acc
 |[],_,_,_,h=>h
 |(m,k)::r,n,acc,p,h=>by
  unfold fJ;split
  ·exact zD (fD _ h)
  ·exact zD h
theorem Gk:∀{names:List (Str×iJ)}{n:Nat}{acc:List (Str×Addr)}{x:Str},(x,.cell)∈names->∃c,(x,c)∈fJ n names acc
 |(m,k)::r,n,acc,x,h=>by
  unfold fJ;rcases cH.mp h with e|h
  ·cases e
   exact⟨n,zD jN⟩
  ·split
   ·exact Gk h
   ·exact Gk h
theorem Gm:∀{names:List (Str×iJ)}{h:aS}{acc:List (Str×Addr)}{x y:Str}{c:Addr},(∀p∈acc,p.2<h.objs.size)->(∀x y c,(x,c)∈acc->(y,c)∈acc->x=y)->
 (x,c)∈fJ h.objs.size names acc->(y,c)∈fJ h.objs.size names acc->x=y
 |[],_,_,_,_,_,_,hi,h1,h2=>hi _ _ _ h1 h2
 |(n,k)::r,h,acc,x,y,c,hl,hi,h1,h2=>by
  unfold fJ at h1 h2;split at h1
  ·rename_i hk
   rw[if_pos hk] at h2;rw[←d_ h {cls:=.type "cell",data:=.cell none}] at h1 h2;refine Gm (h:=h.push _) (λp hp=>?_) (λx y c a b=>?_) h1 h2
   ·rw[d_]
    rcases cH.mp hp with rfl|hp
    ·exact Kx _
    ·exact C4 (hl p hp)
   ·rcases cH.mp a with e|a<;>rcases cH.mp b with e'|b
    ·cases e;cases e';rfl
    ·cases e;exact absurd (hl _ b) (jQ _)
    ·cases e';exact absurd (hl _ a) (jQ _)
    ·exact hi _ _ _ a b
  ·rename_i hk
   rw[if_neg hk] at h2;exact Gm hl hi h1 h2
theorem Zd{M:xw}{A:cK}{E:Value->ao->Prop}{s:ao}{scope:bN}{globals:Addr}{qual:Str}{func:Option Addr}{code:Value}{around:Env}{builtins:Addr}{Q:Env->ao->Prop}(h:Q (newEnv scope s.heap.objs.size globals (fJ (s.heap.objs.size+1) scope.names closure) qual func code (some around) builtins)
 {s with heap:=qH (s.heap.push {cls:=.type "dict",data:=.dict #[]}) scope.names}):
 aj M A (W7 scope globals closure [] qual func code (some around) builtins) Q E s:=by
 simp only[W7,TN,if_true];refine ai (wpAny_alloc ?_);refine ai (wpAny_layCells _ (λn k c=>rfl) scope.names closure _ _ ?_);rw[show({s with heap:=s.heap.push {cls:=.type "dict",data:=.dict #[]}}:ao).heap.objs.size=s.heap.objs.size+1 from d_ ..];rw[Ej];exact ai (aW (aW h))
theorem E6{sc:bN}:∀{names:List (Str×iJ)}{x:Str}{k:iJ},
 (names.map λ(n,k)=>if (k==vO&&sc.kind==.function&&sc.names.lookup n==some .cell) then (n,K9) else (n,k)).lookup x=some k->
 ∃k',names.lookup x=some k'/\(k=k'\/(k'=.free/\k=.cell))
 |[],_,_,h=>by simp at h
 |(n,xF)::r,x,k,h=>by
  have ih:=@E6 sc r x k;have h':qz x ((if (xF==vO&&sc.kind==.function&&sc.names.lookup n==some .cell)=true then (n,K9) else (n,xF))::(r.map _))=some k:=h;cases hx:x==n with
  |true=>
   simp only[lq,hx]
   by_cases hc:(xF==vO&&sc.kind==.function&&sc.names.lookup n==some .cell)=true
   ·rw[if_pos hc] at h'
    simp only[lq,hx] at h';cases h';simp only[bx,beq_iff_eq] at hc;exact⟨xF,rfl,.inr ⟨hc.1.1,rfl⟩⟩
   ·rw[if_neg hc] at h'
    simp only[lq,hx] at h';cases h';exact⟨_,rfl,.inl rfl⟩
  |false=>
   simp only[lq,hx]
   by_cases hc:(xF==vO&&sc.kind==.function&&sc.names.lookup n==some .cell)=true
   ·rw[if_pos hc] at h'
    simp only[lq,hx] at h';exact ih h'
   ·rw[if_neg hc] at h'
    simp only[lq,hx] at h';exact ih h'
structure w_(N:List Str)(sc scope:bN)(own:List (Str×Nat)):Prop where
 kind:scope.kind=.function
 uniq:∀y∈scope.names,scope.names.lookup y.1=some y.2
 ix:∀p∈own,N[p.2]?=some p.1
 free:∀y∈scope.names,y.2=.free->sc.names.lookup y.1=some .cell\/sc.names.lookup y.1=some .free
 own:∀y∈scope.names,y.2=.local\/y.2=.cell->y.1∈own.map (·.1)\/y.1∉N
noncomputable def wipe(σ:St):List Nat->St
 |[]=>σ
 |v::vs=>(wipe σ vs).set v none
theorem E7(σ:St):∀vs:List Nat,(wipe σ vs).length=σ.length
 |[]=>rfl
 |v::vs=>by unfold wipe;rw[VZ,E7 σ vs]
theorem Gn:∀{vs:List Nat},(wipe σ vs)[i]?=some (some x)->σ[i]?=some (some x)/\i∉vs
 |[],h=>⟨h,by simp⟩
 |v::vs,h=>by
  unfold wipe at h
  by_cases hi:v=i
  ·subst hi
   by_cases hv:v<(wipe σ vs).length
   ·rw[JX hv] at h;cases h
   ·rw[SE (by simpa using hv)] at h;cases h
  ·rw[J5 hi] at h
   obtain⟨h1,h2⟩:=Gn h;exact⟨h1,by simp only[cH,not_or];exact⟨λe=>hi e.symm,h2⟩⟩
noncomputable abbrev Cx.dh(X:Cx)(s:ao)(H:Hp)(scope:bN)(cY:Env)(fp:List Addr):Cx:={X with fV:=s,xR:=H,env:=cY,outer:=X.stack,ex:=fp,fn:=λx=>scope.names.lookup x==some .cell,pn:=[],xe:=λz z=>False}
section
variable{X:Cx}{pins:List (Addr×Obj)}{σ:St}{H:Hp}{s:ao}
theorem Ze(I:Inv X pins σ H s)(ok:w_ X.N X.env.scope scope own)(hN:X.N.Nodup)(uU:∀b∈fp,j_ X pins H b/\b<s.heap.objs.size):
 Inv (X.dh s H scope (iK scope (fJ (s.heap.objs.size+1) scope.names (fh X.env.cells scope.names [])) s.heap.objs.size X.env) fp) [] (wipe σ (own.map (·.2))) H {s with heap:=qH (s.heap.push {cls:=.type "dict",data:=.dict #[]}) scope.names}:=by
 have uy:∀y∈scope.names,y.2=.free->∃c,X.env.cells.lookup y.1=some c:=λy hy e=>by
  rcases ok.free y hy e with k|k
  ·exact I.ok.has _ (.inl k)
  ·exact I.ok.has _ (.inr k)
 generalize xg:iK scope (fJ (s.heap.objs.size+1) scope.names (fh X.env.cells scope.names [])) s.heap.objs.size X.env=cY;have kp:∀b o,s.heap.get? b=some o->(qH (s.heap.push {cls:=.type "dict",data:=.dict #[]}) scope.names).get? b=some o:=λb o e=>DK _ _ _ _ (cj _ e);have hL:cY.locals=s.heap.objs.size:=by rw[←xg];rfl
 have ko:cY.cells=fJ (s.heap.objs.size+1) scope.names (fh X.env.cells scope.names []):=by rw[←xg];rfl
 have IT:cY.scope=jc scope X.env.scope:=by rw[←xg];rfl
 rw[←d_ s.heap {cls:=.type "dict",data:=.dict #[]}] at ko
 have cm:∀{y c},(y,c)∈fh X.env.cells scope.names []->X.env.cells.lookup y=some c/\c<s.heap.objs.size:=λ{y c} hm=>by
  rcases zh hm with hm|⟨h1,rfl⟩
  ·cases hm
  ·obtain⟨c,hc⟩:=uy _ h1 rfl
   rw[hc];obtain⟨w,z⟩:=I.cell _ _ hc;exact⟨rfl,z.lt⟩
 have mem:∀{y c},cY.cells.lookup y=some c->(X.env.cells.lookup y=some c/\c<s.heap.objs.size)\/(s.heap.objs.size+1<=c/\OY (qH (s.heap.push {cls:=.type "dict",data:=.dict #[]}) scope.names) c none):=λ{y c} e=>by
  rw[ko] at e;rcases v7 (iX e) with hm|⟨_,h2,h3⟩
  ·exact .inl (cm hm)
  ·rw[d_] at h2;exact .inr ⟨h2,h3⟩
 have look:∀{y},scope.names.lookup y=some .free->∃c,cY.cells.lookup y=some c/\X.env.cells.lookup y=some c:=λ{y} hl=>by
  have hy:(y,vO)∈scope.names:=iX hl;obtain⟨c',e'⟩:=mem_lookup (zD (names:=scope.names) (n:=(s.heap.push {cls:=.type "dict",data:=.dict #[]}).objs.size) (E5 (cells:=X.env.cells) (acc:=[]) hy));rw[←ko] at e';refine⟨c',e',?_⟩;rw[ko] at e';rcases v7 (iX e') with hm|⟨h1,_,_⟩
  ·exact(cm hm).1
  ·have:=ok.uniq _ h1
   rw[hl] at this;cases this
 have okB:(X.dh s H scope cY fp).Ok:=by
  refine⟨I.ok.mod,by show cY.scope.kind=_;rw[IT];exact ok.kind,by show cY.globals=_;rw[←xg];exact I.ok.glob,by show cY.builtins=_;rw[←xg];exact I.ok.blt,by show s.heap.objs.size<=cY.locals;rw[hL];exact aY _,
   λy z c e1 e2=>?_,λy hy=>?_,λy c z e=>?_,I.ok.hd,I.ok.frames,.inl rfl,λb hb=>⟨?_,λy c e z=>?_⟩,I.bs,eU I.ok.l_ I.sz,λb o e hb=>?_,λb hb z=>?_,I.stack,I.NP⟩
  ·have e1:cY.cells.lookup y=some c:=e1
   have e2:cY.cells.lookup z=some c:=e2;rw[ko] at e1 e2;refine Gm (λp hp=>?_) (λy z c a b=>I.ok.inj y z c (cm a).1 (cm b).1) (iX e1) (iX e2);rw[d_];exact C4 (cm (y:=p.1) (c:=p.2) hp).2
  ·show ∃c,cY.cells.lookup y=some c
   have key:∀k,cY.kindOf y=some k->(k=.cell\/k=.free)->∃c,cY.cells.lookup y=some c:=λk hk uV=>by
    unfold Mh at hk;rw[IT] at hk;obtain⟨k',e,r⟩:=E6 hk
    have:k'=.cell\/k'=.free:=by
     rcases r with rfl|⟨rfl,_⟩
     ·exact uV
     ·exact .inr rfl
    rcases this with rfl|rfl
    ·obtain⟨c,hm⟩:=Gk (n:=(s.heap.push {cls:=.type "dict",data:=.dict #[]}).objs.size) (acc:=fh X.env.cells scope.names []) (iX e)
     obtain⟨c',e'⟩:=mem_lookup hm;exact⟨c',by rw[ko];exact e'⟩
    ·obtain⟨c,h1,_⟩:=look e
     exact⟨c,h1⟩
   rcases hy with hy|hy
   ·exact key _ hy (.inl rfl)
   ·exact key _ hy (.inr rfl)
  ·have z:(scope.names.lookup y==some K9)=true:=z
   have z:scope.names.lookup y=some .cell:=by simpa using z
   have e:cY.cells.lookup y=some c:=e;rw[ko] at e;rcases v7 (iX e) with hm|⟨_,h2,_⟩
   ·rcases zh hm with hm|⟨h1,_⟩
    ·cases hm
    ·have q:=ok.uniq _ h1
     rw[z] at q;cases q
   ·rw[d_] at h2
    exact C3 h2
  ·show b≠cY.locals
   rw[hL];exact gw (uU b hb).2
  ·have e:cY.cells.lookup y=some c:=e
   rcases mem e with⟨h1,_⟩|⟨h1,_⟩
   ·exact(uU b hb).1.2.2.2.2.1 y c h1 z
   ·have h2:s.heap.objs.size+1<=b:=by rw[←z];exact h1
    exact absurd (gG (uU b hb).2 (C3 h2)) (jQ _)
  ·rcases(uU b hb).1.2.2.2.1 with z|z
   ·exact I.ok.xC b o e z
   ·exact absurd (gG (bT e) (eU I.ok.l_ z)) (jQ _)
  ·rcases cH.mp (I.HJ b z) with z|z
   ·exact(uU b hb).1.2.1 z
   ·exact(uU b hb).1.2.2.1 z
 refine⟨okB,rfl,I.bare,Un.kept kp,⟨λx=>none,?_,λi y av e1 e2 e3=>?_⟩,λy c e=>?_,?_,λy c e=>?_,λp hp=>?_,I.aE.kept kp,by rw[E7];exact I.len⟩
 ·show aS.Ns _ cY.locals _
  rw[hL];exact aS.Ns.keeps (aS.Ns.new ..) λb o e=>DK _ _ _ _ e
 ·obtain⟨e2,dJ⟩:=Gn e2
  have rZ:scope.names.lookup y=some .free/\(cY.kindOf y=some .cell\/cY.kindOf y=some .free):=by
   have key:∀k,cY.scope.names.lookup y=some k->k=.local\/k=.cell\/k=.free->scope.names.lookup y=some .free/\(cY.kindOf y=some .cell\/cY.kindOf y=some .free):=λk hk uV=>by
    have QV:=hk;rw[IT] at hk;obtain⟨k',e,r⟩:=E6 hk
    have no:¬(k'=.local\/k'=.cell):=λhh=>by
     rcases ok.own _ (iX e) hh with e'|e'
     ·obtain⟨p,hp,hpy⟩:=gH.mp e'
      have e3:=ok.ix p hp;have:p.1=y:=hpy;rw[this] at e3;exact dJ (gH.mpr ⟨p,hp,GW hN e3 e1⟩)
     ·exact e' (eO e1)
    rcases r with rfl|⟨rfl,rfl⟩
    ·rcases uV with rfl|rfl|rfl
     ·exact absurd (.inl rfl) no
     ·exact absurd (.inr rfl) no
     ·exact⟨e,.inr QV⟩
    ·exact⟨e,.inl QV⟩
   have e3:pQ cY.scope y:=e3;rcases e3 with e3|e3|e3
   ·exact key _ e3 (.inl rfl)
   ·exact key _ e3 (.inr (.inl rfl))
   ·exact key _ e3 (.inr (.inr rfl))
  obtain⟨m,hn,hl⟩:=I.loc;have ajw:pQ X.env.scope y:=(ok.free _ (iX rZ.1) rfl).elim (λk=>.inr (.inl k)) (λk=>.inr (.inr k));obtain⟨w,r,q⟩:=hl i y av e1 e2 ajw;refine⟨w,r,.inr ⟨rZ.2,?_⟩⟩;obtain⟨c,h1,h2⟩:=look rZ.1;rcases q with⟨k,_⟩|⟨_,c',e',z⟩
  ·have k:X.env.scope.names.lookup y=some .local:=k
   rcases ok.free _ (iX rZ.1) rfl with k'|k'<;>rw[show X.env.scope.names.lookup y=_ from k'] at k<;>cases k
  ·rw[h2] at e';cases e'
   exact⟨c,h1,z.keeps kp⟩
 ·have e:cY.cells.lookup y=some c:=e
  rcases mem e with⟨h1,_⟩|⟨_,z⟩
  ·obtain⟨w,z⟩:=I.cell y c h1
   exact⟨w,z.keeps kp⟩
  ·exact⟨_,z⟩
 ·show H cY.locals=none
  rw[hL];exact I.aE.fresh (aY _)
 ·have e:cY.cells.lookup y=some c:=e
  rcases mem e with⟨h1,_⟩|⟨h1,_⟩
  ·exact I.kR y c h1
  ·exact I.aE.fresh (C3 h1)
 ·exact absurd (show p∈([]:List (Addr×Obj))++[] from hp) (by simp)
theorem agL(I:Inv X pins σ H s)(hD:H D=some (.lst xs))(hz:xs.length<sizeLine)(r:RelV y v)(h:∀s',Inv X pins σ (upd H D (.lst (xs++[y]))) s'->Q .none s'):aj (model X.prog X.w) X.A (call (.builtin "list.append") [.ref D,v]) Q E s:=by
 obtain⟨r_,its,n,ri,e⟩:=I.aE D _ hD;have hl:=ri.length;refine append_at (hsz:=by rw[cW];lia) e λh' sb mh=>?_;refine h {s with heap:=h'} (I.write (t':=s.toks) (by rw[hD];trivial) (.inl rfl) (λb u hb q=>(sb.2 b hb).trans q) ⟨_,mh⟩ ⟨by rw[jq];exact hz,its++[v],n+1,ri.append (.cons r .nil),?_⟩);rw[mh];simp
def sj(X:Cx)(ifs:List aN)(t:TT):Prop:=
 ∀(pins:List (Addr×Obj))(s:ao)(σ:St)(H:Hp)(Q:Bool->Hp->Prop),Inv X pins σ H s->t σ H Q->
  aj (model X.prog X.w) X.A (forIn ifs true λc r=>if r=true then do let ok ←m9 c X.env (eval c X.env);pure (DL ok) else pure (DL r)) (TP X pins σ Q) X.xe s
def ajx:TT:=λz H Q=>Q true H
theorem N7:sj X [] ajx:=λz z z H z I h=>wpAny_tests_nil ⟨H,I,h⟩
theorem N8(h:PT X c t):sj X [c] t:=λpins s σ H Q I hw=>wpAny_tests_one (h pins s σ H Q I hw)
end
theorem uG{α:Type}{t:Sem α}{Q Q':α->ao->Prop}{M:xw}{A:cK}{E:Value->ao->Prop}{s:ao}(h:aj M A t Q (λy y=>False) s)(hQ:∀a s,Q a s->Q' a s):aj M A t Q' E s:=gX h hQ λy y z=>eV z
theorem Yg{prog:bL}{w:aR}{A:cK}{R:Result->ao->Prop}{s:ao}{elt target iter:aN}{ifs:List aN}{scope:bN}{pos:Pos}{it acc:Value}{env:Env}(I:Nat->ao->Prop)
 (turn:∀n s,I n s->aj (model prog w) A (jA it) (λr bI=>match r with
  |none=>R (.ok .next) bI
  |some v=>aj (model prog w) A (DH target it v) (λz Pw=>aj (model prog w) A (assign target env v) (λz gA=>
   aj (model prog w) A (forIn ifs true λc r=>if r=true then do let ok ←m9 c env (eval c env);pure (DL ok) else pure (DL r)) (λok pH=>
    if ok=true then aj (model prog w) A (eval elt env) (λx Ql=>
     aj (model prog w) A (call (.builtin "list.append") [acc,x]) (λz Qm=>∃m,m<n/\I m Qm) (wL (model prog w) A env λe s'=>R (.error e) s') Ql) (wL (model prog w) A env λe s'=>R (.error e) s') pH
    else ∃m,m<n/\I m pH) (wL (model prog w) A env λe s'=>R (.error e) s') gA) (wL (model prog w) A env λe s'=>R (.error e) s') Pw) (wL (model prog w) A env λe s'=>R (.error e) s') bI) (wL (model prog w) A env λe s'=>R (.error e) s') s)
 (n:Nat) (h:I n s):
 qU (model prog w) A (.compLoop (.ListComp elt [⟨target,iter,ifs,0⟩] scope pos) 0 it acc env) R s:=by
 refine codeAny_loop rfl I (λn s hI=>?_) n h;show aj _ A ((compTurn (.ListComp elt [⟨target,iter,ifs,0⟩] scope pos) 0 it acc env).onRaise (λx=>do noteFrame x env;theTreesLotGoes x)) _ _ s;refine wpAny_noted ?_;rw[compTurn_list];refine ai (vN (ai (gX (turn n s hI) (λr bI AV=>?_) λz z h'=>h')));cases r with
 |none=>exact aW AV
 |some v=>
  refine ai (gX AV (λz Pw aip=>?_) λz z h'=>h');refine ai (gX aip (λz gA xG=>ai (gX xG (λok pH AW=>?_) λz z h'=>h')) λz z h'=>h');cases ok with
  |false=>exact aW ⟨rfl,AW⟩
  |true=>
   exact ai (ai (gX AW (λx Ql ajy=>ai (gX ajy (λz Qm ajz=>aW (aW ⟨rfl,ajz⟩)) λz z h'=>h')) λz z h'=>h'))
section
variable{X:Cx}
def eZ(wi:TI)(g:TG)(tt:TT)(te:TE)(vs:List Nat):TE:=λσ H Q=>wi σ H λJ H1=>∀D,H1 D=none->∃W:Nat->Nat->Hp->Prop,(∃m,W 0 m (upd H1 D (.lst [])))/\∀i m H,W i m H->
 (J.stop i H/\Q (.ref D) H)\/(J.go i H/\∃Nx:Hp->Prop,(∀H',Nx H'->∃m',m'<m/\W (i+1) m' H')/\∀x H',J.nG i H x H'->g x (wipe σ vs) H' λcZ H2=>wipe cZ vs=wipe σ vs/\tt cZ H2 λb H3=>
  if b=true then te cZ H3 λy H4=>∃acc,H4 D=some (.lst acc)/\acc.length<sizeLine/\Nx (upd H4 D (.lst (acc++[y]))) else Nx H3)
theorem N9(hc:X.calm=true)(hN:X.N.Nodup)(I:Inv X pins σ H s)(hi:PI X tg iter wi)(ok:w_ X.N X.env.scope scope own)(hg:∀(s:ao)(H:Hp)(C:Addr)(cl:List (Str×Addr))(fp:List Addr),PG (X.dh s H scope (iK scope cl C X.env) fp) tg g)(ht:∀(s:ao)(H:Hp)(C:Addr)(cl:List (Str×Addr))(fp:List Addr),sj (X.dh s H scope (iK scope cl C X.env) fp) ifs tt)(he:∀(s:ao)(H:Hp)(C:Addr)(cl:List (Str×Addr))(fp:List Addr),PE (X.dh s H scope (iK scope cl C X.env) fp) elt te)(hs:∀x,yP iter X.env x=pure x)(h:eZ wi g tt te (own.map (·.2)) σ H Q)(hRR:∀D C s' m H',Inv X pins σ H' s'->Q (.ref D) H'->s'.heap.Ns C m->j_ X pins H' C->NN (model X.prog X.w) X.A X.xe use Qf (.ref D) C (.ok .next) s'):
 aj (model X.prog X.w) X.A (comprehension (.ListComp elt [⟨tg,iter,ifs,0⟩] scope pos) scope X.env pos' (newList []) false (eval iter X.env) use) Qf X.xe s:=by
 have uy:∀y∈scope.names,y.2=.free->∃c,X.env.cells.lookup y.1=some c:=λy hy e=>by
  rcases ok.free y hy e with k|k
  ·exact I.ok.has _ (.inl k)
  ·exact I.ok.has _ (.inr k)
 refine wpAny_comprehension_free (use:=use) rfl hs (aaF uy) ok.kind (λy hy e=>by rw[ok.uniq y hy,e])
  (aJ (hi pins s σ H _ I h) λxv s1 hx=>aJ hx λIK s2 h2=>?_)
 obtain⟨it,fp,tn,J,H2,e,I2,T,uQ,f2,q⟩:=h2;subst e;refine qd (Zd ?_) (by show 0<=sizeLine;decide);generalize hD:s2.heap.objs.size=D;have xZ:H2 D=none:=I2.aE.fresh (vR hD);obtain⟨W,⟨m0,w0⟩,turn⟩:=q D xZ;generalize x9:({s2 with heap:=s2.heap.push {cls:=.type "list",data:=.seq ([]:List Value).toArray}}:ao)=s3
 have I3:Inv X pins σ (upd H2 D (.lst [])) s3:=by
  rw[←x9];refine I2.laid (t':=s2.toks) (λb o e=>cj _ e) (vR hD) ⟨dH _,[],0,.nil,?_⟩;rw[←hD];exact d9 _ rfl
 have h3:s3.heap=s2.heap.push {cls:=.type "list",data:=.seq ([]:List Value).toArray}:=by rw[←x9]
 have sz:∀b∈fp,b<s2.heap.objs.size:=λb hb=>by
  obtain⟨o,e,_⟩:=T.obj _ _ uQ b hb;exact bT e
 have f3:∀b∈fp,j_ X pins (upd H2 D (.lst [])) b/\b<s3.heap.objs.size:=λb hb=>by
  have aM:=sz b hb;refine⟨⟨?_,(f2 b hb).2⟩,by rw[h3,d_];exact C4 aM⟩;rw[aI (by rw[←hD];exact gw aM)];exact(f2 b hb).1
 have uR:tn 0 s3.heap:=T.keep _ _ _ uQ λb t o e=>by rw[h3];exact cj _ e
 have I4:=Ze I3 ok hN f3;have pg:=hg s3 (upd H2 D (.lst [])) s3.heap.objs.size (fJ (s3.heap.objs.size+1) scope.names (fh X.env.cells scope.names [])) fp;have pt:=ht s3 (upd H2 D (.lst [])) s3.heap.objs.size (fJ (s3.heap.objs.size+1) scope.names (fh X.env.cells scope.names [])) fp;have pe:=he s3 (upd H2 D (.lst [])) s3.heap.objs.size (fJ (s3.heap.objs.size+1) scope.names (fh X.env.cells scope.names [])) fp;show qU _ _ (.compStart (.ListComp elt [⟨tg,iter,ifs,0⟩] scope pos) 0 (.ref it) (.ref D) (iK scope (fJ (s3.heap.objs.size+1) scope.names (fh X.env.cells scope.names [])) s3.heap.objs.size X.env)) (NN (model X.prog X.w) X.A X.xe use Qf (.ref D) s3.heap.objs.size) {s3 with heap:=qH (s3.heap.push {cls:=.type "dict",data:=.dict #[]}) scope.names};have QW:∀b∈fp,(upd H2 D (.lst [])) b=none:=λb hb=>(f3 b hb).1.1;generalize sr:iK scope (fJ (s3.heap.objs.size+1) scope.names (fh X.env.cells scope.names [])) s3.heap.objs.size X.env=ce at I4 pg pt pe ⊢;have cL:ce.locals=s3.heap.objs.size:=by subst sr;rfl
 generalize hH3:upd H2 D (.lst [])=H3 at I3 I4 pg pt pe w0 QW f3;generalize hs4:({s3 with heap:=qH (s3.heap.push {cls:=.type "dict",data:=.dict #[]}) scope.names}:ao)=s4 at I4 ⊢;have By:tn 0 s4.heap:=T.keep _ _ _ uR λb t o e=>by rw[←hs4];exact DK _ _ _ _ (cj _ e)
 have rK:∀{aF:St}{H':Hp}{s':ao},Inv (X.dh s3 H3 scope ce fp) [] aF H' s'->(∀b∈fp,H' b=none)->∀b∈fp,j_ (X.dh s3 H3 scope ce fp) [] H' b:=λ{aF H' s'} I' hn b hb=>
  ⟨hn b hb,(I'.ok.Bm b hb).1,I'.ok.xD b hb,.inl hb,λx c e=>(I'.ok.Bm b hb).2 x c e,λp hp=>absurd (show p∈([]:List (Addr×Obj))++[] from hp) (by simp)⟩
 have loop:qU (model X.prog X.w) X.A (.compLoop (.ListComp elt [⟨tg,iter,ifs,0⟩] scope pos) 0 (.ref it) (.ref D) ce) (NN (model X.prog X.w) X.A X.xe use Qf (.ref D) s3.heap.objs.size) s4:=by
  refine Yg (λn s'=>∃i H',Inv (X.dh s3 H3 scope ce fp) [] (wipe σ (own.map (·.2))) H' s'/\tn i s'.heap/\(∀b∈fp,H' b=none)/\W i n H') ?_ m0 ⟨0,H3,I4,By,QW,w0⟩;rintro n s5 ⟨i,H5,I5,pT,n5,w5⟩;rcases turn i n H5 w5 with⟨stop,qq⟩|⟨go,Nx,hNx,step⟩
  ·have td:=T.done (X.dh s3 H3 scope ce fp) rfl rfl rfl hc i [] s5 _ H5 (λt t=>False) I5 (rK I5 n5) pT stop
   refine uG td λr s6 ⟨hr,I6⟩=>?_;subst hr;have I7:Inv X pins σ H5 s6:=I3.ahZ (ch:=fp) I6.os I6.base I6.aE I6.bare λb hb=>⟨(f3 b hb).1.2.2.2.1,(f3 b hb).1.2.1,(f3 b hb).1.2.2.2.2.1,(f3 b hb).1.2.2.2.2.2⟩
   have nC:H5 s3.heap.objs.size=none:=by
    have z:H5 ce.locals=none:=I6.free;rw[cL] at z;exact z
   obtain⟨m,hn,_⟩:=I6.loc;have hn:s6.heap.Ns ce.locals m:=hn;rw[cL] at hn;exact hRR D s3.heap.objs.size s6 m H5 I7 qq hn (I3.pI (aY _) nC)
  ·have ti:=T.item (X.dh s3 H3 scope ce fp) rfl rfl rfl hc i [] s5 _ H5 (λt t=>False) I5 (rK I5 n5) pT go
   refine uG ti λr s6 ⟨u,hr,h6⟩=>?_;subst hr;refine uG h6 λ_ s7 ⟨x,H7,I7,r7,y7,x_,n7⟩=>?_;have I7':=I7.pinned (rK I7 n7) (T.obj _ _ x_);refine uG (pg _ s7 _ H7 x u _ I7' r7 (step x H7 y7)) λ_ s8 ⟨BA,H8,I8,QX,q8⟩=>?_;refine uG (pt _ s8 BA H8 _ I8 q8) λb s9 ⟨H9,I9,q9⟩=>?_
   have fin:∀{s':ao}{H':Hp},Inv (X.dh s3 H3 scope ce fp) ([]++wO fp s7.heap) BA H' s'->Nx H'->∃m,m<n/\∃i H',Inv (X.dh s3 H3 scope ce fp) [] (wipe σ (own.map (·.2))) H' s'/\tn i s'.heap/\(∀b∈fp,H' b=none)/\W i m H':=λ{s' H'} I' nx=>by
    obtain⟨m',hm,w'⟩:=hNx H' nx
    have Qn:∀b∈fp,∀o,s7.heap.get? b=some o->s'.heap.get? b=some o/\H' b=none:=λb hb o e=>
     let z:=I'.pin (b,o) (p_ _ (p_ _ (FO hb e)))
     ⟨z.1,z.2.1⟩
    have hl:(wipe σ (own.map (·.2))).length=BA.length:=by rw[←QX,E7]
    refine⟨m',hm,i+1,H',(I'.zQ (pins:=[])).weak hl (λj v e=>?_),T.keep _ _ _ x_ λb hb o e=>(Qn b hb o e).1,λb hb=>?_,w'⟩
    ·rw[←QX] at e
     exact(Gn e).1
    ·obtain⟨o,e,_⟩:=T.obj _ _ x_ b hb
     exact(Qn b hb o e).2
   cases b with
   |false=>
    simp only[aL,if_false] at q9 ⊢;exact fin I9 q9
   |true=>
    simp only[if_true] at q9 ⊢;refine uG (pe _ s9 BA H9 _ I9 q9) λz s10 ⟨yv,H10,I10,r10,acc,ajA,ajB,nx⟩=>?_;exact agL (X:=X.dh s3 H3 scope ce fp) I10 ajA ajB r10 λs11 I11=>fin I11 nx
 exact codeAny_compStart_list loop (T.self X.A 0 _ _ _ By loop)
theorem aiq(hc:X.calm=true)(hN:X.N.Nodup)(hi:PI X tg iter wi)(ok:w_ X.N X.env.scope scope own)(hg:∀(s:ao)(H:Hp)(C:Addr)(cl:List (Str×Addr))(fp:List Addr),PG (X.dh s H scope (iK scope cl C X.env) fp) tg g)(ht:∀(s:ao)(H:Hp)(C:Addr)(cl:List (Str×Addr))(fp:List Addr),sj (X.dh s H scope (iK scope cl C X.env) fp) ifs tt)(he:∀(s:ao)(H:Hp)(C:Addr)(cl:List (Str×Addr))(fp:List Addr),PE (X.dh s H scope (iK scope cl C X.env) fp) elt te)(hs:∀x,yP iter X.env x=pure x:=by intro _;rfl):
 PE X (.ListComp elt [⟨tg,iter,ifs,0⟩] scope pos) (eZ wi g tt te (own.map (·.2))):=by
 intro pins s σ H Q I h;rw[eval_ListComp];refine N9 hc hN I hi ok hg ht he hs h λD C s' m H' I' q hn f=>⟨m,hn,λBB sb=>?_⟩;obtain⟨f0,f1,f2,f3,f4,f5⟩:=f;exact⟨.ref D,H',I'.turned (t':=s'.toks) (λb o hb e=>(sb.2 b hb).trans e) f0 f1 f3 f4 f5,rfl,q⟩
theorem adu(hc:X.calm=true)(hN:X.N.Nodup)(hy:X.N[i]?=some y)(BC:X.env.scope.names.lookup y=some .local)(ya:qG (.ListComp elt [⟨tg,iter,ifs,0⟩] scope pos) (some (.Name y py)) ajC.line X.env=pure true)(hi:PI X tg iter wi)(ok:w_ X.N X.env.scope scope own)(hg:∀(s:ao)(H:Hp)(C:Addr)(cl:List (Str×Addr))(fp:List Addr),PG (X.dh s H scope (iK scope cl C X.env) fp) tg g)(ht:∀(s:ao)(H:Hp)(C:Addr)(cl:List (Str×Addr))(fp:List Addr),sj (X.dh s H scope (iK scope cl C X.env) fp) ifs tt)(he:∀(s:ao)(H:Hp)(C:Addr)(cl:List (Str×Addr))(fp:List Addr),PE (X.dh s H scope (iK scope cl C X.env) fp) elt te)(hs:∀x,yP iter X.env x=pure x:=by intro _;rfl):
 PS X (.Assign [.Name y py] (.ListComp elt [⟨tg,iter,ifs,0⟩] scope pos) ajC) (Ih (eZ wi g tt te (own.map (·.2))) (fO i)):=by
 intro pins s σ H D I h;rw[exec_Assign_Name_used _ _ _ _ ya];refine ai (vN (ai ?_));show aj _ X.A (do let _ ←comprehension (.ListComp elt [⟨tg,iter,ifs,0⟩] scope pos) scope X.env (firstIterPos [⟨tg,iter,ifs,0⟩] pos) (newList []) false (eval iter X.env) (some (assign (.Name y py) X.env))) _ _ s;have h:eZ wi g tt te (own.map (·.2)) σ H (λx H1=>fO i x σ H1 D.nx):=h;refine ai (aJ (N9 (Qf:=λw s'=>SP X pins D .next s') hc hN I hi ok hg ht he hs h λL C s' m H' I' q hn f=>?_) λw s' hq=>aW (aW hq));show aj _ _ (assign (.Name y py) X.env (.ref L)) _ _ _;refine Uj (Ml (v:=V.ref L) I' hN hy (.inl BC) rfl (λs2 I2 ⟨a,sb,ha⟩=>?_) (.inr BC));obtain⟨f0,f1,f2,f3,f4,f5⟩:=f
 have haC:C≠a:=by
  rcases ha with z|z
  ·rw[z];exact f1
  ·exact λe=>f4 y a z e.symm
 refine⟨m,hn.sameBut sb haC,λh3 sb3=>?_⟩;exact⟨_,H',I2.turned (t':=s2.toks) (λb o hb e=>(sb3.2 b hb).trans e) f0 f1 f3 f4 f5,q⟩
end
noncomputable def nj(N:List Str)(sc scope:bN)(own:List (Str×Nat)):Bool:=
 (match scope.kind with| .function=>true|_=>false)&&(scope.names.all λy=>decide (scope.names.lookup y.1=some y.2))&&(own.all λp=>decide (N[p.2]?=some p.1))&&
  (scope.names.all λy=>match y.2 with
   | .free=>(match sc.names.lookup y.1 with|some .cell=>true|some .free=>true|_=>false)
   | .local=>decide (y.1∈own.map (·.1))||decide (y.1∉N)
   | .cell=>decide (y.1∈own.map (·.1))||decide (y.1∉N)
   |_=>true)
theorem M_(h:nj N sc scope own=true):w_ N sc scope own:=by
 unfold nj at h;simp only[bx,fc,decide_eq_true_eq] at h;obtain⟨⟨⟨h1,h2⟩,h3⟩,h4⟩:=h;refine⟨?_,h2,h3,λy hy e=>?_,λy hy e=>?_⟩
 ·split at h1
  ·assumption
  ·cases h1
 ·have q:=h4 y hy
  simp only[e] at q;split at q<;>first|exact .inl (by assumption)|exact .inr (by assumption)|cases q
 ·have q:=h4 y hy
  rcases e with e|e<;>(simp only[e,V1,decide_eq_true_eq] at q;exact q)
section
variable{κ:Type} [DecidableEq κ]
noncomputable def pJ(bw:List (κ×V))(k:κ):Option V:=(bw.find? λkv=>decide (kv.1=k)).map (·.2)
noncomputable def putK(bw:List (κ×V))(k:κ)(v:V):List (κ×V):=
 if (bw.any λkv=>decide (kv.1=k))=true then bw.map (λkv=>if kv.1=k then (kv.1,v) else kv) else bw++[(k,v)]
noncomputable def au9(bw:List (κ×V))(k:κ):List (κ×V):=bw.filter λkv=>decide (kv.1≠k)
theorem adv{p:κ×V}{k:κ}(e:p.1=k):pJ (p::r) k=some p.2:=by simp[pJ,iD,e]
theorem adw{p:κ×V}{k:κ}(e:¬p.1=k):pJ (p::r) k=pJ r k:=by simp[pJ,iD,e]
theorem adx(k:κ):∀bw:List (κ×V),(bw.any λkv=>decide (kv.1=k))=(pJ bw k).isSome
 |[]=>rfl
 |p::r=>by
  rw[lE]
  by_cases e:p.1=k
  ·simp only[adv e,decide_eq_true e,Y4,TN]
  ·rw[adw e,decide_eq_false e,K_];exact adx k r
end
abbrev KT(H:Hp):List (List Key×V)->List (List Key×Addr×Value)->Prop:=o8 λp q=>p.1=q.1/\H q.2.1=some (.tup (p.1.map kV))/\RelV p.2 q.2.2
def avm(H:Hp)(a:Addr)(y:V)(r:Option V):Prop:=
 (∃bw k,Rd H a (.dK bw)/\y=kV k/\r=pJ bw k)\/∃bw k b,Rd H a (.dT bw)/\y=.ref b/\H b=some (.tup (k.map kV))/\r=pJ bw k
def avn(H:Hp)(a:Addr)(y v:V)(H':Hp):Prop:=
 (∃bw k,H a=some (.dK bw)/\y=kV k/\bw.length<sizeLine/\H'=upd H a (.dK (putK bw k v)))\/
 ∃bw k b,H a=some (.dT bw)/\y=.ref b/\H b=some (.tup (k.map kV))/\bw.length<sizeLine/\H'=upd H a (.dT (putK bw k v))
def Qo(i:aN):Prop:=∀ov iv,subscripted i false ov iv=operate [ov,iv] (uu ov iv)
theorem aeV{prog:bL}{w:aR}{A:cK}{s:ao}{env:Env}{value slice:aN}{pos:Pos}{T id:String}{Q:Value->ao->Prop}(hl:Mb (.type T) "__getitem__"=pure (some (.builtin id)))(hs:Qo slice)(h:aj (model prog w) A (eval value env) (λo bI=>aj (model prog w) A (eval slice env) (λi gA=>gA.TypeIs o T/\aj (model prog w) A (uu o i) Q E gA) E bI) E s):
 aj (model prog w) A (eval (.Subscript value slice pos) env) Q E s:=by
 refine Mc (gX h (λo bI AV=>gX AV (λi gA xG=>?_) λz z x=>x) λz z x=>x);obtain⟨hT,xG⟩:=xG;unfold K8;refine ai ?_;rw[getitemInPython_of_ne hT.not_modules];refine ai (wpAny_specialOf hT hl ?_)
 have fin:aj (model prog w) A (subscripted slice false o i) (λr pH=>aj (model prog w) A (letTemporaryGo value o r >>= λz=>pure r) Q E pH) E gA:=by
  rw[hs o i];exact wpAny_operating (gX xG (λr pH AW=>ai (wpAny_letTemporaryGo (aW AW))) λz z x=>x)
 first
  |exact aW (ai fin)
  |exact ai (aW (ai fin))
  |exact ai fin
section
variable{X:Cx}{pins:List (Addr×Obj)}{σ:St}{H:Hp}{s:ao}{h':aS}
theorem Inv.aeW{ch:List Addr}(I:Inv X pins σ H s)(k:∀b o,b∉ch->s.heap.get? b=some o->h'.get? b=some o)(hf:∀b∈ch,j_ X pins H b):Inv X pins σ H {s with heap:=h',toks:=t'}:=by
 have pR:∀b u,H b=some u->b∉ch:=λb u e z=>by
  have q:=(hf b z).1;rw[q] at e;cases e
 refine I.step (g':=s.gens) (d':=s.drawn) (ch:=ch) (λb hb=>⟨(hf b hb).2.2.2.1,(hf b hb).2.1,(hf b hb).2.2.2.2.1,(hf b hb).2.2.2.2.2⟩) (λb o y y hc e y=>k b o hc e) (λb o y y hc e y=>⟨o.slots,k b o hc e⟩)
  (λy y y y n=>n) (λb o hc e=>⟨o,k b o hc e⟩) (λy y e=>e) (λy y y e=>e) (λb ps e=>⟨#[],by rw[e];simp⟩) (λm hm=>?_) (λb u e=>?_) I.bare
 ·obtain⟨o,es,ep,ho,r⟩:=hm
  exact⟨o,es,ep,k _ o (λz=>(hf _ z).2.1 rfl) ho,r⟩
 ·refine(I.aE b u e).rJ (λc v hc q=>k c v ?_ q) (λy q=>q) λy y q=>q
  rcases hc with z|z
  ·rw[z];exact pR b u e
  ·exact pR c _ z
theorem Inv.Gp{ch:List Addr}{T:Addr}{ob:HO}(I:Inv X pins σ H s)(k:∀b o,b∉ch->s.heap.get? b=some o->h'.get? b=some o)(hf:∀b∈ch,j_ X pins H b)(hT:s.heap.objs.size<=T)(new:fk X.prog X.w (upd H T ob) h' T ob):Inv X pins σ (upd H T ob) {s with heap:=h',toks:=t'}:=by
 have hn:H T=none:=I.aE.fresh hT
 have pR:∀b u,H b=some u->b∉ch:=λb u e z=>by
  have q:=(hf b z).1;rw[q] at e;cases e
 refine I.step (g':=s.gens) (d':=s.drawn) (ch:=ch) (λb hb=>⟨(hf b hb).2.2.2.1,(hf b hb).2.1,(hf b hb).2.2.2.2.1,(hf b hb).2.2.2.2.2⟩) (λb o y y hc e y=>k b o hc e) (λb o y y hc e y=>⟨o.slots,k b o hc e⟩)
  (λb o y e n=>?_) (λb o hc e=>⟨o,k b o hc e⟩) (λb xs e=>?_) (λb o u e=>?_) (λb ps e=>⟨#[],?_⟩) (λm hm=>?_) (λb u e=>?_) I.bare
 ·rw[aI (gw (gG (bT e) hT))];exact n
 ·rw[aI (bV e hn)];exact e
 ·rw[aI (bV e hn)];exact e
 ·rw[aI (bV e hn),e];simp
 ·obtain⟨o,es,ep,ho,r⟩:=hm
  exact⟨o,es,ep,k _ o (λz=>(hf _ z).2.1 rfl) ho,r⟩
 ·by_cases hb:b=T
  ·subst hb
   rw[au] at e;cases e;exact new
  ·rw[aI hb] at e
   refine(I.aE b u e).rJ (λc v hc q=>k c v ?_ q) (λc q=>by rw[aI (bV q hn)];exact q) λc xs q=>by rw[aI (bV q hn)];exact q
   rcases hc with z|z
   ·rw[z];exact pR b u e
   ·exact pR c _ z
end
section
variable{X:Cx}
theorem agM(I:Inv X pins σ H s)(o:Obj)(T:Turn X.prog X.w X.K tg J [s.heap.objs.size] s.heap.objs.size tn)(st:tn 0 (s.heap.push o))(q:R J H):Bt X pins σ tg R (.ref s.heap.objs.size) {s with heap:=s.heap.push o,toks:=tk}:=by
 refine⟨s.heap.objs.size,[s.heap.objs.size],tn,J,H,rfl,I.kept λb ob e=>cj _ e,T,st,λb hb=>?_,q⟩;have e:b=s.heap.objs.size:=by simpa using hb
 subst e;exact I.pI (aY _) (I.aE.fresh (aY _))
end
noncomputable def BD(lo c:Int)(n:Nat):It:=⟨λi z=>i<n,λi H x H'=>H'=H/\x=.int (lo+(i:Nat)*c),λi z=>n<=i⟩
theorem Zf{w:aR}{K:aD}{tg:aN}(it:Addr)(lo c:Int)(n:Nat):Turn P w K tg (BD lo c n) [it] it (λi h=>FG h it (lo+(i:Nat)*c) ((n:Int)-(i:Nat)) c) where
 mem:=by simp
 obj:=λi h st b hb=>by
  have e:b=it:=by simpa using hb
  subst e;exact⟨_,st,λv z=>nomatch z⟩
 keep:=λi h h' st k=>k it (by simp) _ st
 item:=by
  intro X hP hw hK hc i pins s σ H E I hf st hg;subst hP hw hK;obtain⟨f0,f1,f2,f3,f4,f5⟩:=hf it (by simp);have W:=aan (prog:=X.prog) (w:=X.w) (I.ok.hd hc) it lo c n;refine W.item i s _ _ hg st λv h' tk hv kZ kk=>?_;obtain⟨t,rfl⟩:=hv;have I1:Inv X pins σ H {s with heap:=h',toks:=tk}:=I.turned (λb o hb e=>kk b o (by simpa using hb) e) f0 f1 f3 f4 f5;exact⟨_,rfl,AA (s:={s with heap:=h',toks:=tk}) (n:="range_iterator") kZ rfl rfl (by decide) ⟨.int (lo+(i:Nat)*c),H,I1,⟨t,rfl⟩,⟨rfl,rfl⟩,kZ,λb hb=>(hf b hb).1⟩⟩
 done:=by
  intro X hP hw hK hc i pins s σ H E I hf st hg;subst hP hw hK;obtain⟨f0,f1,f2,f3,f4,f5⟩:=hf it (by simp);exact Sm (I.ok.hd hc) st (by have:n<=i:=hg;lia) λh' eb=>⟨rfl,I.turned (t':=s.toks) (λb o hb e=>eb b o hb e) f0 f1 f3 f4 f5⟩
 self:=λA i s Q E st h=>Sn st h
def IU(i j c:Int)(n:Nat):Prop:=c≠0/\c.natAbs<1073741824/\Ti i j c=true/\yI i j c=n
def air(ta:TA):TI:=λσ H R=>ta σ H λvs H1=>∃(i j c:Int)(n:Nat),vs=[.int i,.int j,.int c]/\IU i j c n/\R (BD i c n) H1
section
variable{X:Cx}{tg:aN}
theorem abN(hg:Gl X "range")(hm:X.mg "range"=none)(ha:PA X [a,b,c] ta)(hs:bK [a,b,c] X.env=(false,eval a X.env)::bK [b,c] X.env:=by rfl)(iQ:(gy pos (bK [b,c] X.env)).any (·.1)=false:=by rfl):
 PI X tg (.Call (.Name "range" p) [a,b,c] [] pos) (air ta):=by
 intro pins s σ H R I h;refine AM (kN I hg hm Gg (p8 (aJ (ha pos pins s σ H _ I h) λus s1 ⟨vs,H1,I1,r1,q1⟩=>?_) hs iQ));obtain⟨i,j,k,n,e,⟨c0,c1,c2,c3⟩,q⟩:=q1;subst e;cases r1 with
 |cons r rr=>
  cases rr with
  |cons r' rr=>
   cases rr with
   |cons r'' rr=>
    cases rr;obtain⟨t,rfl⟩:=r;obtain⟨t',rfl⟩:=r';obtain⟨t'',rfl⟩:=r'';refine call_range_3 c0 ?_ (.inl (So c1));refine TJ (LH ..) c2 ?_;have I2:Inv X pins σ H1 {s1 with heap:=s1.heap.push {cls:=.type "range",data:=.fields #[.int i t,.int j t',.int k t'']}}:=I1.kept (t':=s1.toks) λb o e=>cj _ e;refine agM (tk:=s1.toks) I2 _ (Zf _ i k n) ?_ q;have e1:i+((0:Nat):Int)*k=i:=by simp
    have e2:(n:Int)-((0:Nat):Int)=yI i j k:=by rw[c3];simp
    show FG _ _ (i+((0:Nat):Int)*k) ((n:Int)-((0:Nat):Int)) k;rw[e1,e2];exact d9 _ rfl
end
noncomputable def nJ(K:aD)(a:Addr):It:=
 ⟨λi H=>∃(xs:List V)(x:V),aG K H a xs/\xs[i]?=some x,λi H v H'=>∃T x,v=.ref T/\H T=none/\H'=upd H T (.tup [.int (i:Nat),x])/\∀xs,aG K H a xs->xs[i]?=some x,λi H=>∃xs:List V,aG K H a xs/\xs.length<=i⟩
theorem abO{P:bL}{w:aR}{K:aD}{kk:Nat}{kT:Pos}(a e it:Addr):
 Turn P w K (.Tuple elts kk kT) (nJ K a) [e,it] e (λi h=>(∃old,jB h e it ((i:Nat):Int) old)/\h.IsListIter it a i/\e≠it) where
 mem:=by simp
 obj:=λi h st b hb=>by
  obtain⟨⟨old,he⟩,⟨o,ho,hc,hd⟩,_⟩:=st;have e':b=e\/b=it:=by simpa using hb
  rcases e' with z|z
  ·rw[z];exact⟨_,he,λv q=>nomatch q⟩
  ·rw[z];exact⟨o,ho,λv q=>by rw[hd] at q;cases q⟩
 keep:=λi h h' st k=>let ⟨⟨old,he⟩,hi,dJ⟩:=st;⟨⟨old,k e (by simp) _ he⟩,hi.at λo q=>k it (by simp) o q,dJ⟩
 item:=by
  intro X hP hw hK hc i pins s σ H E I hf st hg;subst hP hw hK;obtain⟨⟨old,he⟩,hit,dJ⟩:=st;obtain⟨xs,x,hq,hx⟩:=hg;obtain⟨its,rv,p,hz⟩:=I.list hq;obtain⟨u,hu,ru⟩:=rv.get hx;have QY:e<s.heap.objs.size:=bT he;have IV:it<s.heap.objs.size:=by obtain⟨_,q,_⟩:=hit;exact bT q
  refine wpAny_pyNext_enum_item he hit p.isList (x:=u) (by simpa using hu) dJ λh' ho ajD hT hsz hk=>?_;refine⟨_,rfl,R8 (s:={s with heap:=h',toks:=s.toks+1}) ho λBB he' sb=>?_⟩;have yb:BB.get? s.heap.objs.size=some {cls:=.type "tuple",data:=.seq #[.int i s.toks,u]}:=(sb.2 _ (mT QY)).trans hT
  have new:fk X.prog X.w (upd H s.heap.objs.size (.tup [.int (i:Nat),x])) BB s.heap.objs.size (.tup [.int (i:Nat),x]):=
   ⟨by show 2<=sizeLine;decide,[.int i s.toks,u],.cons ⟨_,rfl⟩ (.cons ru .nil),⟨_,yb,rfl,_,rfl⟩⟩
  have I1:Inv X pins σ (upd H s.heap.objs.size (.tup [.int (i:Nat),x])) {s with heap:=BB,toks:=s.toks+1}:=
   I.Gp (ch:=[e,it]) (λb ob hb q=>(sb.2 b (λz=>hb (by simp[z]))).trans (hk b ob (λz=>hb (by simp[z])) (λz=>hb (by simp[z])) q)) hf (aY _) new
  refine⟨.ref s.heap.objs.size,_,I1,rfl,⟨_,x,rfl,I.aE.fresh (aY _),rfl,λys hy=>by rw[I.GY hy hq];exact hx⟩,⟨⟨u,?_⟩,ajD.at λo q=>(sb.2 it (i9 dJ)).trans q,dJ⟩,λb hb=>?_⟩
  ·have e1:((i+1:Nat):Int)=(i:Int)+1:=by simp
   rw[e1];exact he'
  ·have IW:b<s.heap.objs.size:=by
    have e':b=e\/b=it:=by simpa using hb
    rcases e' with z|z
    ·rw[z];exact QY
    ·rw[z];exact IV
   rw[aI (gw IW)];exact(hf b hb).1
 done:=by
  intro X hP hw hK hc i pins s σ H E I hf st hg;subst hP hw hK;obtain⟨⟨old,he⟩,hit,dJ⟩:=st;obtain⟨xs,hq,hx⟩:=hg;obtain⟨its,rv,p,hz⟩:=I.list hq;obtain⟨f0,f1,f2,f3,f4,f5⟩:=hf it (by simp);have hl:=rv.length;exact wpAny_pyNext_enum_end (I.ok.hd hc) he hit p.isList (by simp;lia) λh' eb=>⟨rfl,I.turned (t':=s.toks) (λb o hb q=>eb b o hb q) f0 f1 f3 f4 f5⟩
 self:=λA i s Q E st h=>let ⟨⟨_,he⟩,_⟩:=st;yQ he h
theorem abP:vQ "zip"=some (.type "zip"):=by decide+kernel
end L2
section
namespace TL
open PySem PySem.Builtin PySem.Builtin.Str PySem.StrLaws
noncomputable abbrev tl(x:Str):List Nat:=x.cps.toList
noncomputable def pre(S l:List Nat):Bool:=l.take S.length==S
noncomputable def par(S:List Nat):List Nat->List Nat->Option (List Nat×List Nat)
 |_,[]=>none
 |acc,c::r=>if pre S (c::r)=true then some (acc,(c::r).drop S.length) else par S (acc++[c]) r
end TL
end
namespace Att
open PySem PySem.W PySem.Calls PyProof.Rows
section
variable{prog:bL}{w:aR}{A:cK}{E:Value->ao->Prop}{s:ao}{K:aD}
noncomputable def ledger(h:aS)(L d:Addr):List (Addr×Obj):=(cS h.objs.size).filterMap λa=>if a=L\/a=d then none else (h.get? a).map λo=>(a,o)
end
end Att
namespace L2
open PySem PySem.Spec PyProof.Rows
noncomputable def inClass(s:dQ)(j:Nat):dQ:=match s with
 | .ClassDef _ _ _ body _ _ _ _ _ _ _=>body.getD j (.Pass ⟨0,0,0,0⟩)
 |_=>.Pass ⟨0,0,0,0⟩
noncomputable def ud(s:dQ):Arguments:=match s with
 | .FunctionDef _ a _ _ _ _ _ _ _ _=>a
 |_=>{posonlyargs:=[],args:=[],vararg:=none,kwonlyargs:=[],kw_defaults:=[],kwarg:=none,defaults:=[]}
noncomputable def lR(s:dQ):List dQ:=match s with
 | .FunctionDef _ _ b _ _ _ _ _ _ _=>b
 |_=>[]
noncomputable def iI(s:dQ):bN:=match s with
 | .FunctionDef _ _ _ _ _ _ sc _ _ _=>sc
 |_=>{kind:=.function,names:=[],isGenerator:=false,isCoroutine:=false}
noncomputable abbrev iy:kj:=λz z z z z z=>False
abbrev E0:XK:=λz z z=>False
theorem xh:Passes iy X E0:=λz z z z z z z h=>h.elim
structure jh(K:aD)(x qual:Str)(st:dQ)(f:Addr)(fd:gY):Prop where
 ex:∃(oc:Value)(od:Option Addr)(kV doc pm:Value)(an:Option Addr)(cM ct:Value)(nI:Array (Option Value)),
  fd=qt x qual (ud st) (lR st) (iI st) .none kV doc pm an cM ct/\K.lookup f=some ⟨oc,od,.func fd,nI⟩/\Ei K cM qual=true
 kp:lA K (.ref f)=true
section
variable{P:bL}{w:aR}{K:aD}{mg:Str->Option Value}{base:aS}
theorem jh.ok{x qual:Str}{st:dQ}{f:Addr}{fd:gY}{N ps:List Str}{k:Nat}{sp:Sp}(F:jh K x qual st f fd)(S:wD N ps (iI st))(len:∀vs H Q E,sp vs H Q E->vs.length=ps.length)
 (HR:∀(cM:Value)(A:cK)(outer:List Env)(s:ao)(H:Hp)(vs:List V)(Q:VK)(E:XK),dD k (A.deeper (o_ qual (iI st) s.heap.objs.size f cM))->sp vs H Q E->
  ∃t,jG (uE iy P w K mg base N qual (iI st) f cM A outer s H E).Br (lR st) t/\t {nx:=λz H'=>Q .az H',rt:=Q} (start N vs) H):eF P w K mg base iy (k+1) f fd ps sp:=by
 obtain⟨oc,od,kV,doc,pm,an,cM,ct,nI,rfl,lk,mj⟩:=F.ex;refine aij lk mj S len λA outer s H vs Q E hr jg=>?_;obtain⟨t,h,q⟩:=HR cM A outer s H vs Q E hr jg;exact⟨t,h.Br,q⟩
theorem jh.binds{x qual:Str}{st:dQ}{f:Addr}{ps:List Str}(F:jh K x qual st f fd)(h:∀(kV doc pm:Value)(an:Option Addr)(cM ct:Value)(us:List Value),us.length=ps.length->NL (qt x qual (ud st) (lR st) (iI st) .none kV doc pm an cM ct) ⟨us,[]⟩=pure (ps.zip us)):Binds K fd ps []:=by
 obtain⟨oc,od,kV,doc,pm,an,cM,ct,nI,rfl,lk,mj⟩:=F.ex;exact .all (h kV doc pm an cM ct)
theorem agN{x qual:Str}{st:dQ}{f:Addr}{oc:Value}{od an:Option Addr}{kV doc pm cM ct:Value}(l:K.lookup f=some ⟨oc,od,.func (qt x qual (ud st) (lR st) (iI st) .none kV doc pm an cM ct),nI⟩)(c:Ei K cM qual=true)(k:lA K (.ref f)=true):jh K x qual st f (qt x qual (ud st) (lR st) (iI st) .none kV doc pm an cM ct):=⟨⟨oc,od,kV,doc,pm,an,cM,ct,nI,rfl,l,c⟩,k⟩
end
section
variable{X:Cx}
theorem pv(i:Nat)(hN:X.N[i]?=some x:=by rfl)(hv:pQ X.env.scope x:=by first|exact Or.inl rfl|exact Pk (Or.inl rfl)|exact Pk (Pk rfl))(hd:(x==("__debug__":Str))=false:=by decide)(mj:(x==("__classdict__":Str))=false:=by decide):PE X (.Name x pos) (P_ i):=OQ hN hv hd mj
end
def ah(H H':Hp):Prop:=∀b o,H b=some o->H' b=some o
theorem ah.refl(H:Hp):ah H H:=λz z h=>h
theorem ah.trans(a:ah H H1)(b:ah H1 H2):ah H H2:=λc o h=>b c o (a c o h)
end L2
section
namespace L2
open PySem PySem.Spec PyProof.Rows
open PySem.W (WData Codec OpenSpec Well WellAll ReadsW ReadsAllW)
mutual
inductive Dw (K:aD) (H:Hp):V->gc->Prop
 |az:Dw K H .az .none
 |bl (b:Bool):Dw K H (.bl b) (.bool b)
 |int (i:Int):Dw K H (.int i) (.int i)
 |str (x:Str):Dw K H (.str x) (.str x)
 |gC (b:Array UInt8):Dw K H (.gC b) (.bytes b.toList)
 |lst {a:Addr} {xs:List V} {ds:List gc}:aG K H a xs->j5 K H xs ds->Dw K H (.ref a) (.list ds)
 |tup {a:Addr} {xs:List V} {ds:List gc}:aP K H a xs->j5 K H xs ds->Dw K H (.ref a) (.tuple ds)
inductive j5 (K:aD) (H:Hp):List V->List gc->Prop
 |nil:j5 K H [] []
 |cons {v:V} {vs:List V} {d:gc} {ds:List gc}:Dw K H v d->j5 K H vs ds->j5 K H (v::vs) (d::ds)
end
theorem N_{K:aD}:∀ns:List Int,j5 K H (ns.map V.int) (ns.map gc.int)
 |[]=>.nil
 |n::r=>.cons (.int n) (N_ r)
theorem Oa{K:aD}:∀(ns:List Int)(xs:List V),j5 K H xs (ns.map gc.int)->xs=ns.map V.int
 |[],xs,h=>by
  cases h;rfl
 |n::r,xs,h=>by
  cases h with
  |cons h1 h2=>
   cases h1;rw[Oa r _ h2]<;>rfl
section
variable{P:bL}{w:aR}{K:aD}{H:Hp}{h:aS}{R:U8}{cl:Str->Option Addr}
theorem agO(aE:dg P w H h)(KX:K.In h)(q:aG K H a xs):∃(its:List Value)(o:Obj)(n:Nat),Vals xs its/\h.get? a=some o/\o.cls=.type "list"/\o.data=.seq its.toArray n:=by
 rcases q with q|⟨o,its,n,e,hc,_,hd,_,hv⟩
 ·obtain⟨_,its,n,hv,e⟩:=(show fk P w H h a (.lst xs) from q.ok aE)
  exact⟨its,_,n,hv,e,rfl,rfl⟩
 ·exact⟨its.toList,o,n,hv,KX _ _ e,hc,by simp[hd]⟩
theorem agP(aE:dg P w H h)(KX:K.In h)(q:aP K H a xs):∃(its:List Value)(o:Obj)(n:Nat),Vals xs its/\h.get? a=some o/\o.cls=.type "tuple"/\o.data=.seq its.toArray n:=by
 rcases q with q|⟨o,its,n,e,hc,hd,_,hv⟩
 ·obtain⟨_,its,hv,o,e,hc,n,hd⟩:=(show fk P w H h a (.tup xs) from q.ok aE)
  exact⟨its,o,n,hv,e,hc,hd⟩
 ·exact⟨its.toList,o,n,hv,KX _ _ e,hc,by simp[hd]⟩
mutual
theorem Dw.reads(aE:dg P w H h)(KX:K.In h):∀(d:gc)(v:V)(u:Value),Dw K H v d->RelV v u->∃as,ReadsW R cl h u d as
 | .none,_,_,x,r=>by
   cases x;cases r;exact⟨_,ReadsW.none⟩
 | .bool b,_,_,x,r=>by
   cases x;cases r;exact⟨_,ReadsW.bool b⟩
 | .int i,_,_,x,r=>by
   cases x;obtain⟨t,rfl⟩:=r;exact⟨_,ReadsW.int i t⟩
 | .str s,_,_,x,r=>by
   cases x;obtain⟨t,rfl⟩:=r;exact⟨_,ReadsW.str s t⟩
 | .bytes b,_,_,x,r=>by
   cases x;obtain⟨t,rfl⟩:=r;exact⟨_,ReadsW.bytes _ t⟩
 | .list ds,_,_,x,r=>by
   cases x with
   |lst hs ha=>
    cases r;obtain⟨its,o,n,rv,ho,hc,hd⟩:=agO aE KX hs;obtain⟨as,hr⟩:=Dw.readsAll aE KX ds _ its ha rv;exact⟨_,ReadsW.list ho hc hd hr⟩
 | .tuple ds,_,_,x,r=>by
   cases x with
   |tup hs ha=>
    cases r;obtain⟨its,o,n,rv,ho,hc,hd⟩:=agP aE KX hs;obtain⟨as,hr⟩:=Dw.readsAll aE KX ds _ its ha rv;exact⟨_,ReadsW.tuple ho hc hd hr⟩
 | .float _,_,_,x,_=>by cases x
 | .dict _,_,_,x,_=>by cases x
 | .bytearray _,_,_,x,_=>by cases x
 | .set _,_,_,x,_=>by cases x
 | .frozenset _,_,_,x,_=>by cases x
 | .obj _ _,_,_,x,_=>by cases x
theorem Dw.readsAll(aE:dg P w H h)(KX:K.In h):∀(ds:List gc)(vs:List V)(us:List Value),j5 K H vs ds->Vals vs us->∃as,ReadsAllW R cl h us ds as
 |[],_,_,x,r=>by
  cases x;cases r;exact⟨_,ReadsAllW.nil⟩
 |d::ds,_,_,x,r=>by
  cases x with
  |cons h1 h2=>
   cases r with
   |cons r1 r2=>
    obtain⟨as,q1⟩:=Dw.reads aE KX d _ _ h1 r1;obtain⟨bs,q2⟩:=Dw.readsAll aE KX ds _ _ h2 r2;exact⟨_,ReadsAllW.cons q1 q2⟩
end
end
mutual
noncomputable def jj:gc->Bool
 | .none=>true
 | .bool _=>true
 | .int _=>true
 | .str _=>true
 | .bytes _=>true
 | .list xs=>kc xs
 | .tuple xs=>kc xs
 |_=>false
noncomputable def kc:List gc->Bool
 |[]=>true
 |x::r=>jj x&&kc r
end
theorem Na{α:Type}{f:α->gc}(h:∀a,jj (f a)=true):∀l:List α,kc (l.map f)=true
 |[]=>rfl
 |x::r=>by
  show(jj (f x)&&kc (r.map f))=true;rw[h x,Na h r]<;>rfl
theorem oY:∀(c:Codec)(a:c.denote),jj (c.enc a)=true
 | .unit,_=>rfl
 | .bool,_=>rfl
 | .int _ _,_=>rfl
 | .nat _ _,_=>rfl
 | .u8,_=>rfl
 | .bytes _ _,_=>rfl
 | .text _ _ _ _,_=>rfl
 | .list _ _ c,a=>Na (λx=>oY c x) a
 | .pair c d,a=>by
   show(jj (c.enc a.1)&&(jj (d.enc a.2)&&true))=true;rw[oY c a.1,oY d a.2]<;>rfl
 | .triple c d e,a=>by
   show(jj (c.enc a.1)&&(jj (d.enc a.2.1)&&(jj (e.enc a.2.2)&&true)))=true;rw[oY c a.1,oY d a.2.1,oY e a.2.2]<;>rfl
 | .option c,none=>rfl
 | .option c,some x=>oY c x
theorem Mt:∀(cs:List Codec)(a:DM cs),kc (vV cs a)=true
 |[],_=>rfl
 |c::cs,a=>by
  show(jj (c.enc a.1)&&kc (vV cs a.2))=true;rw[oY c a.1,Mt cs a.2]<;>rfl
theorem FP:∀{xs:List gc}{d:gc},d∈xs->d.weight<=DO xs
 |[],d,h=>absurd h (by simp)
 |x::r,d,h=>by
  show d.weight<=x.weight+1+DO r;rcases cH.mp h with e|m
  ·rw[e]
   simp+arith
  ·have z:=FP m
   lia
noncomputable def toV:Value->V
 | .none=>.az
 | .bool b=>.bl b
 | .int i _=>.int i
 | .str x _=>.str x
 | .bytes b _=>.gC b
 | .ref a=>.ref a
 |_=>.az
def jI(A:List Addr):Value->Prop
 | .none=>True
 | .bool _=>True
 | .int _ _=>True
 | .str _ _=>True
 | .bytes _ _=>True
 | .ref a=>a∈A
 |_=>False
theorem jI.mono(h:∀a∈A,a∈B):∀{u:Value},jI A u->jI B u:=λ{u} x=>by
 cases u with
 |ref a=>exact h a x
 |none=>trivial
 |bool b=>trivial
 |int i t=>trivial
 |str s t=>trivial
 |bytes b t=>trivial
 |_=>exact eV x
theorem ady(x:jI A u):RelV (toV u) u:=by
 cases u with
 |ref a=>rfl
 |none=>rfl
 |bool b=>rfl
 |int i t=>exact⟨t,rfl⟩
 |str s t=>exact⟨t,rfl⟩
 |bytes b t=>exact⟨t,rfl⟩
 |_=>exact eV x
theorem tY:∀{vs:List Value},(∀u∈vs,jI A u)->Vals (vs.map toV) vs
 |[],_=>.nil
 |u::r,h=>.cons (ady (h u (jN ..))) (tY λx hx=>h x (fD _ hx))
def j6(h:aS)(A:List Addr)(a:Addr):Prop:=∃vs:List Value,vs.length<=sizeLine/\(∀u∈vs,jI A u)/\
 (h.get? a=some {cls:=.type "list",data:=.seq vs.toArray}\/h.get? a=some {cls:=.type "tuple",data:=.seq vs.toArray})
theorem j6.mono(k:∀a∈A,a∈B)(x:j6 h A a):j6 h B a:=by
 obtain⟨vs,h1,h2,h3⟩:=x;exact⟨vs,h1,λu hu=>(h2 u hu).mono k,h3⟩
theorem zj:∀{vs:List Value}{ds:List gc},qV P h vs ds->vs.length=ds.length
 |_,_,.nil=>rfl
 |_,_,.cons _ b=>by
  show _+1=_+1;rw[zj b]
theorem Mu(x:Well P h v (.list ds)):∃(a:Addr)(vs:List Value),v=.ref a/\h.get? a=some {cls:=.type "list",data:=.seq vs.toArray}/\qV P h vs ds:=by
 cases x with
 |list ho jD=>exact⟨_,_,rfl,ho,jD⟩
theorem LN(x:Well P h v (.tuple ds)):∃(a:Addr)(vs:List Value),v=.ref a/\h.get? a=some {cls:=.type "tuple",data:=.seq vs.toArray}/\qV P h vs ds:=by
 cases x with
 |tuple ho jD=>exact⟨_,_,rfl,ho,jD⟩
theorem Mv(x:qV P h us (d::ds)):∃(v:Value)(vs:List Value),us=v::vs/\Well P h v d/\qV P h vs ds:=by
 cases x with
 |cons a b=>exact⟨_,_,rfl,a,b⟩
theorem Ob(h:n<=1048576):n<=sizeLine:=eU h (by decide)
section
variable{P:aq}{h:aS}
mutual
theorem adz:∀(d:gc)(v:Value),Well P h v d->jj d=true->d.weight<=1048576->∃A:List Addr,jI A v/\∀a∈A,j6 h A a
 | .none,_,x,_,_=>by
   cases x;exact⟨[],trivial,λa m=>absurd m (by simp)⟩
 | .bool b,_,x,_,_=>by
   cases x;exact⟨[],trivial,λa m=>absurd m (by simp)⟩
 | .int i,_,x,_,_=>by
   cases x;exact⟨[],trivial,λa m=>absurd m (by simp)⟩
 | .str s,_,x,_,_=>by
   cases x;exact⟨[],trivial,λa m=>absurd m (by simp)⟩
 | .bytes b,_,x,_,_=>by
   cases x;exact⟨[],trivial,λa m=>absurd m (by simp)⟩
 | .list ds,_,x,p,z=>by
   obtain⟨a,vs,rfl,ho,jD⟩:=Mu x;have z2:DO ds<=1048576:=z;obtain⟨A,h1,h2⟩:=zR ds _ jD p λd hd=>eU (FP hd) z2;have k:∀b∈A,b∈a::A:=λb hb=>fD _ hb;refine⟨a::A,jN ..,λb hb=>?_⟩;rcases cH.mp hb with e|m
   ·rw[e]
    exact⟨vs,Ob (by rw[zj jD];exact eU (RS ds) z2),λu hu=>(h1 u hu).mono k,.inl ho⟩
   ·exact(h2 b m).mono k
 | .tuple ds,_,x,p,z=>by
   obtain⟨a,vs,rfl,ho,jD⟩:=LN x;have z2:DO ds<=1048576:=z;obtain⟨A,h1,h2⟩:=zR ds _ jD p λd hd=>eU (FP hd) z2;have k:∀b∈A,b∈a::A:=λb hb=>fD _ hb;refine⟨a::A,jN ..,λb hb=>?_⟩;rcases cH.mp hb with e|m
   ·rw[e]
    exact⟨vs,Ob (by rw[zj jD];exact eU (RS ds) z2),λu hu=>(h1 u hu).mono k,.inr ho⟩
   ·exact(h2 b m).mono k
 | .float _,_,_,p,_=>gW (show false=true from p)
 | .dict _,_,_,p,_=>gW (show false=true from p)
 | .bytearray _,_,_,p,_=>gW (show false=true from p)
 | .set _,_,_,p,_=>gW (show false=true from p)
 | .frozenset _,_,_,p,_=>gW (show false=true from p)
 | .obj _ _,_,_,p,_=>gW (show false=true from p)
theorem zR:∀(ds:List gc)(vs:List Value),qV P h vs ds->kc ds=true->(∀d∈ds,d.weight<=1048576)->∃A:List Addr,(∀u∈vs,jI A u)/\∀a∈A,j6 h A a
 |[],_,x,_,_=>by
  cases x;exact⟨[],λu m=>absurd m (by simp),λa m=>absurd m (by simp)⟩
 |d::ds,_,x,p,z=>by
  obtain⟨v,vs,rfl,x1,x2⟩:=Mv x;have q:jj d=true/\kc ds=true:=nY.mp p;obtain⟨A,a1,a2⟩:=adz d v x1 q.1 (z d (jN ..));obtain⟨B,b1,b2⟩:=zR ds vs x2 q.2 λe he=>z e (fD _ he);have kA:∀b∈A,b∈A++B:=λb hb=>jO.mpr (.inl hb);have kB:∀b∈B,b∈A++B:=λb hb=>jO.mpr (.inr hb);refine⟨A++B,λu hu=>?_,λb hb=>?_⟩
  ·rcases cH.mp hu with e|m
   ·rw[e]
    exact a1.mono kA
   ·exact(b1 u m).mono kB
  ·rcases jO.mp hb with m|m
   ·exact(a2 b m).mono kA
   ·exact(b2 b m).mono kB
end
end
noncomputable def AX(o:Obj):Option HO:=match o.data with
 | .seq vs _=>if (o.cls==oE "list")=true then some (.fU o (.lst (vs.toList.map toV))) else some (.fU o (.tup (vs.toList.map toV)))
 |_=>none
noncomputable def gg(K:aD)(h:aS)(A:List Addr):Hp:=λb=>if b∈A then (if (K.lookup b).isNone=true then (h.get? b).bind AX else none) else none
def xj(H:Hp):Prop:=∀b,H b=none\/∃o u,H b=some (.fU o u)
theorem Nb(vs:List Value):AX {cls:=.type "list",data:=.seq vs.toArray}=some (.fU {cls:=.type "list",data:=.seq vs.toArray} (.lst (vs.map toV))):=by
 show(if (oE "list"==oE "list")=true then some (HO.fU {cls:=.type "list",data:=.seq vs.toArray} (.lst (vs.toArray.toList.map toV))) else some (HO.fU {cls:=.type "list",data:=.seq vs.toArray} (.tup (vs.toArray.toList.map toV))))=_;rw[if_pos (beq_self_eq_true _)]
theorem Nc(vs:List Value):AX {cls:=.type "tuple",data:=.seq vs.toArray}=some (.fU {cls:=.type "tuple",data:=.seq vs.toArray} (.tup (vs.map toV))):=by
 show(if (oE "tuple"==oE "list")=true then some (HO.fU {cls:=.type "tuple",data:=.seq vs.toArray} (.lst (vs.toArray.toList.map toV))) else some (HO.fU {cls:=.type "tuple",data:=.seq vs.toArray} (.tup (vs.toArray.toList.map toV))))=_;rw[if_neg (by decide)]
section
variable{P:bL}{w:aR}{K:aD}{h:aS}{A:List Addr}
theorem Ae(hb:b∈A)(hk:K.lookup b=none)(e:h.get? b=some o):gg K h A b=AX o:=by
 unfold gg;rw[if_pos hb,hk,if_pos (show(none:Option Obj).isNone=true from rfl),e]<;>rfl
theorem aeX(q:gg K h A b=some u):b∈A/\K.lookup b=none:=by
 unfold gg at q
 by_cases hb:b∈A
 ·rw[if_pos hb] at q
  cases hk:K.lookup b with
  |none=>exact⟨hb,rfl⟩
  |some o=>
   rw[hk,if_neg (by simp)] at q;cases q
 ·rw[if_neg hb] at q
  cases q
theorem Af(ar:∀a∈A,j6 h A a)(q:gg K h A b=some u):K.lookup b=none/\∃vs:List Value,vs.length<=sizeLine/\(∀u∈vs,jI A u)/\
 ((h.get? b=some {cls:=.type "list",data:=.seq vs.toArray}/\u=.fU {cls:=.type "list",data:=.seq vs.toArray} (.lst (vs.map toV)))\/
  (h.get? b=some {cls:=.type "tuple",data:=.seq vs.toArray}/\u=.fU {cls:=.type "tuple",data:=.seq vs.toArray} (.tup (vs.map toV)))):=by
 obtain⟨hb,hk⟩:=aeX q;obtain⟨vs,h1,h2,h3⟩:=ar b hb;refine⟨hk,vs,h1,h2,?_⟩;rcases h3 with e|e
 ·rw[Ae hb hk e,Nb] at q
  exact .inl ⟨e,(dM q).symm⟩
 ·rw[Ae hb hk e,Nc] at q
  exact .inr ⟨e,(dM q).symm⟩
theorem abQ(ar:∀a∈A,j6 h A a):xj (gg K h A):=λb=>by
 cases q:gg K h A b with
 |none=>exact .inl rfl
 |some u=>
  obtain⟨_,vs,_,_,⟨_,e⟩|⟨_,e⟩⟩:=Af ar q
  ·exact .inr ⟨_,_,by rw[e]⟩
  ·exact .inr ⟨_,_,by rw[e]⟩
theorem aeY(ar:∀a∈A,j6 h A a):dg P w (gg K h A) h:=λb u q=>by
 obtain⟨_,vs,h1,h2,⟨e,rfl⟩|⟨e,rfl⟩⟩:=Af ar q
 ·exact⟨e,by rw[aU];exact h1,vs,_,tY h2,e⟩
 ·exact⟨e,by rw[aU];exact h1,vs,tY h2,_,e,rfl,_,rfl⟩
theorem Ag{vs us:List Value}(e:(some {cls:=c,data:=.seq vs.toArray}:Option Obj)=some {cls:=c',data:=.seq us.toArray}):c=c'/\vs=us:=by
 have e1:=dM e;have e2:c=c':=congrArg Obj.cls e1;have e3:Hf vs.toArray=Hf us.toArray:=congrArg Obj.data e1;injection e3 with e4;refine⟨e2,?_⟩;have e5:=congrArg Lo e4;simpa using e5
theorem ajE(KX:K.In h)(ar:∀a∈A,j6 h A a){vs:List Value}(ha:a∈A)(e:h.get? a=some {cls:=.type "list",data:=.seq vs.toArray}):(∀u∈vs,jI A u)/\aG K (gg K h A) a (vs.map toV):=by
 obtain⟨us,h1,h2,h3⟩:=ar a ha
 have hu:us=vs:=by
  rcases h3 with q|q
  ·rw[e] at q
   exact(Ag q).2.symm
  ·rw[e] at q
   exact absurd (W8 (Ag q).1) (by decide)
 subst hu;refine⟨h2,?_⟩;cases hk:K.lookup a with
 |none=>exact .inl (.inr ⟨_,by rw[Ae ha hk e,Nb]⟩)
 |some o=>
  have e2:=KX a o hk;rw[e] at e2;obtain rfl:=dM e2;exact .inr ⟨_,us.toArray,_,hk,rfl,rfl,rfl,by rw[cW];exact h1,by simpa using tY h2⟩
theorem ajF(KX:K.In h)(ar:∀a∈A,j6 h A a){vs:List Value}(ha:a∈A)(e:h.get? a=some {cls:=.type "tuple",data:=.seq vs.toArray}):(∀u∈vs,jI A u)/\aP K (gg K h A) a (vs.map toV):=by
 obtain⟨us,h1,h2,h3⟩:=ar a ha
 have hu:us=vs:=by
  rcases h3 with q|q
  ·rw[e] at q
   exact absurd (W8 (Ag q).1) (by decide)
  ·rw[e] at q
   exact(Ag q).2.symm
 subst hu;refine⟨h2,?_⟩;cases hk:K.lookup a with
 |none=>exact .inl (.inr ⟨_,by rw[Ae ha hk e,Nc]⟩)
 |some o=>
  have e2:=KX a o hk;rw[e] at e2;obtain rfl:=dM e2;exact .inr ⟨_,us.toArray,_,hk,rfl,rfl,by rw[cW];exact h1,by simpa using tY h2⟩
mutual
theorem agQ{Pm:aq}(KX:K.In h)(ar:∀a∈A,j6 h A a):∀(d:gc)(v:Value),Well Pm h v d->jj d=true->jI A v->Dw K (gg K h A) (toV v) d
 | .none,_,x,_,_=>by
   cases x;exact .az
 | .bool b,_,x,_,_=>by
   cases x;exact .bl b
 | .int i,_,x,_,_=>by
   cases x;exact .int i
 | .str s,_,x,_,_=>by
   cases x;exact .str s
 | .bytes b,_,x,_,_=>by
   cases x;have z:=Dw.gC (K:=K) (H:=gg K h A) b.toArray;exact z
 | .list ds,_,x,p,hu=>by
   obtain⟨a,vs,rfl,ho,jD⟩:=Mu x;obtain⟨h2,hs⟩:=ajE KX ar hu ho;exact .lst hs (Ao KX ar ds _ jD p h2)
 | .tuple ds,_,x,p,hu=>by
   obtain⟨a,vs,rfl,ho,jD⟩:=LN x;obtain⟨h2,hs⟩:=ajF KX ar hu ho;exact .tup hs (Ao KX ar ds _ jD p h2)
 | .float _,_,_,p,_=>gW (show false=true from p)
 | .dict _,_,_,p,_=>gW (show false=true from p)
 | .bytearray _,_,_,p,_=>gW (show false=true from p)
 | .set _,_,_,p,_=>gW (show false=true from p)
 | .frozenset _,_,_,p,_=>gW (show false=true from p)
 | .obj _ _,_,_,p,_=>gW (show false=true from p)
theorem Ao{Pm:aq}(KX:K.In h)(ar:∀a∈A,j6 h A a):∀(ds:List gc)(vs:List Value),qV Pm h vs ds->kc ds=true->(∀u∈vs,jI A u)->j5 K (gg K h A) (vs.map toV) ds
 |[],_,x,_,_=>by
  cases x;exact .nil
 |d::ds,_,x,p,hu=>by
  obtain⟨v,vs,rfl,x1,x2⟩:=Mv x;have q:jj d=true/\kc ds=true:=nY.mp p;exact .cons (agQ KX ar d v x1 q.1 (hu _ (jN ..))) (Ao KX ar ds vs x2 q.2 λu m=>hu u (fD _ m))
end
end
theorem abR{P:bL}{w:aR}{K:aD}{mg mb:Str->Option Value}{CX:kj}{k:Nat}{fa:Addr}{fd:gY}{ps:List Str}{sp:Sp}{bI:ao}{vals:List Value}{ds:List gc}{R:U8}{cl:Str->Option Addr}{d0:gc}
 (KX:K.In bI.heap) (QZ:bI.heap.Ns dm mg) (hb:bI.heap.Ns L8 mb) (hbb:∀x:Str,x≠"__name__"->mb x=vQ x) (ajG:bI.heap.NoLimit) (hg:bI.gens=#[])
 (yc:qV w.params bI.heap vals ds) (iQ:kc ds=true) (hwt:∀d∈ds,d.weight<=1048576) (hr:dD k wM)
 (F:∀base:aS,K.In base->base.Ns dm mg->eF P w K mg base CX k fa fd ps sp) (ais:∀(s:ao)(us:List Value),us.length=ps.length->Am s fd ⟨us,[]⟩ (ps.zip us)) (hlen:ds.length=ps.length)
 (jg:∀(H:Hp)(xs:List V),xj H->j5 K H xs ds->sp xs H (λv H'=>Dw K H' v d0) λy y y=>False)
 (ye:∀H e s',CX [] H bI (λy y y=>False) e s'->False):
 qU (model P w) wM (.call (.ref fa) ⟨vals,[]⟩) (λr s'=>∃u as,r=.ok (.ret u)/\ReadsW R cl s'.heap u d0 as/\OldK bI.heap s'.heap/\s'.os=bI.os/\ur s'.gens) bI:=by
 obtain⟨A,ho,ar⟩:=zR ds vals yc iQ hwt;have hO:xj (gg K bI.heap A):=abQ ar;have aE:dg P w (gg K bI.heap A) bI.heap:=aeY ar;have hS:=Ao KX ar ds vals yc iQ ho;have hV:=tY ho;have hK:∀b u,gg K bI.heap A b=some u->K.lookup b=none:=λb u q=>(Af ar q).1
 have uS:∀{b:Addr}{o:Obj}{es:Array zN}{ep:Nat},bI.heap.get? b=some o->o.data=.dict es ep->gg K bI.heap A b=none:=λ{b o es ep} e d=>by
  cases q:gg K bI.heap A b with
  |none=>rfl
  |some u=>
   obtain⟨_,vs,_,_,⟨e2,_⟩|⟨e2,_⟩⟩:=Af ar q
   ·rw[e2] at e
    cases e;have d':Hf vs.toArray _=Data.dict es ep:=d;cases d'
   ·rw[e2] at e
    cases e;have d':Hf vs.toArray _=Data.dict es ep:=d;cases d'
 generalize gg K bI.heap A=H at hO aE hS hK uS;have Oc:∀{b:Addr}{o:Obj},bI.heap.get? b=some o->H b=none->(nh bI.heap H).get? b=some o:=λe n=>adi e n;have BE:∀{b:Addr}{m:Str->Option Value},bI.heap.Ns b m->(nh bI.heap H).Ns b m:=λ{b m} ⟨o,es,ep,e,d,r⟩=>⟨o,es,ep,Oc e (uS e d),d,r⟩
 have nK:∀b o,K.lookup b=some o->H b=none:=λb o e=>by
  cases q:H b with
  |none=>rfl
  |some u=>
   rw[hK b u q] at e;cases e
 have Q0:K.In (nh bI.heap H):=λb o e=>Oc (KX b o e) (nK b o e);have hM:Mod K mg (nh bI.heap H):=⟨Q0,BE QZ,⟨mb,BE hb,hbb⟩,let ⟨mc,h1,h2⟩:=ajG;⟨mc,BE h1,h2⟩⟩;have e0:rL P w K mg (nh bI.heap H) wM [] bI H:=⟨rfl,hM,λb o e=>aeE e,vR (abB _ _),trivial,λb hb=>absurd (show b∈([]:List Addr) from hb) (by simp),aE,.of_eq hg⟩;have hl:vals.length=ps.length:=by rw[zj yc];exact hlen
 refine vS ((F _ Q0 (BE QZ)).run wM [] bI H ⟨vals,[]⟩ vals (vals.map toV) _ _ hr e0 (ais bI vals hl) hV (jg H _ hO hS)) λr s' x=>?_;cases r with
 |error e=>exact(ye H e s' x).elim
 |ok fl=>
  cases fl with
  |next=>exact eV x
  |brk=>exact eV x
  |cont=>exact eV x
  |ret u=>
   obtain⟨v,H',os,bare,un,Qp,r',q⟩:=x
   have kept:∀b o,bI.heap.get? b=some o->s'.heap.get? b=some o:=λb o e=>by
    cases q2:H b with
    |none=>exact un.keep b o e q2 (by intro z;exact absurd (show b∈([]:List Addr) from z) (by simp)) (by simp)
    |some u2=>
     rcases hO b with z|⟨ob,u3,z⟩
     ·rw[q2] at z
      cases z
     ·have z2:=un.ng b ob _ z
      obtain⟨e1,_⟩:=aE b _ z;obtain⟨e2,_⟩:=Qp b _ z2;rw[e] at e1;cases e1;exact e2
   have KX':K.In s'.heap:=λb o e=>kept b o (KX b o e);obtain⟨as,pU⟩:=Dw.reads (R:=R) (cl:=cl) Qp KX' d0 v u q r';exact⟨u,as,rfl,pU,OldK.of_keep kept,os,bare⟩
theorem We(h:gc.layableAll ds=true):∀d∈ds,d.weight<=1048576:=λd hd=>
 (PySem.W.layableW_iff.mp (fc.mp h d hd)).2.2
theorem LO:∀(cs:List Codec)(a:DM cs),(vV cs a).length=cs.length
 |[],_=>rfl
 |c::cs,a=>by
  show(vV cs a.2).length+1=cs.length+1;rw[LO cs a.2]
theorem abS{r:NI}{k:Nat}{q:bL}{loose:List Str}{XP:(Str->Option Value)->aS->Prop}{YP:aR->aS->Prop}{d:DefRec}{K:aq->aD}{CX:aR->kj}{ps:List Str}{sp:aR->Sp}
 (HV:r.wellSaid=true) (Q2:d.params.defaults=[]) (hlen:r.args.length=ps.length) (hr:dD k wM)
 (hY:∀(w:aR)(h:aS),YP w h->(K w.params).In h)
 (F:∀(w:aR)(mg:Str->Option Value)(fa:Addr)(h:aS),YP w h->(K w.params).In h->h.Ns dm mg->mg d.name=some (.ref fa)->
  ∃fd:gY,(∀(s:ao)(us:List Value),us.length=ps.length->Am s fd ⟨us,[]⟩ (ps.zip us))/\
   ∀base:aS,(K w.params).In base->base.Ns dm mg->eF r.prog w (K w.params) mg base (CX w) k fa fd ps (sp w))
 (jg:∀(w:aR)(H:Hp)(xs:List V)(a:DM r.args),xj H->V2 r.args a=true->zO r.args r.asked a=true->j5 (K w.params) H xs (vV r.args a)->
  sp w xs H (λv H'=>Dw (K w.params) H' v (r.ret.enc (zO r.args r.f a))) λy y y=>False)
 (ye:∀(w:aR)(H:Hp)(s:ao)(e:Value)(s':ao),CX w [] H s (λy y y=>False) e s'->False):
 KZ q loose XP YP r d [] (λf vs=>L6 f vs):=by
 intro w fV bI mg mb G Y fa o pm cd doc dV kV ho hd mj hD BF hg args vals as ajH ajI pU yc hlo;obtain⟨a,e1,e2⟩:=PySem.W.os_pre_some ajH;obtain⟨e3,BG⟩:=Codec.encAll_of_decAll r.args args a e1;subst e3;have KX:=hY w _ Y;obtain⟨fd,hb,hF⟩:=F w mg fa _ Y KX G.T.g BF
 refine PySem.W.enter_call (vS (abR (R:=[]) (cl:=classAt fV.heap) (d0:=r.ret.enc (zO r.args r.f a)) KX G.T.g G.T.b G.T.builtins G.T.nolimit hg yc (Mt _ _) (We ajI) hr hF hb (by rw[LO];exact hlen)
  (λH xs hO hS=>jg w H xs a hO BG e2 hS) λH e s'=>ye w H bI e s') λr' s' hq=>?_)
 obtain⟨u,Q3,rfl,h1,h2,h3,h4⟩:=hq;exact⟨.inl ⟨u,_,Q3,rfl,λy=>rfl,h1,(NI.post_iff HV BG _ _).mpr rfl,λz=>gW (show false=true from z)⟩,h2,h3,h4⟩
theorem aaG{r:NI}{k:Nat}{q:bL}{loose:List Str}{XP:(Str->Option Value)->aS->Prop}{YP:aR->aS->Prop}{d:DefRec}{K:aq->aD}{CX:kj}{ps:List Str}{sp:aD->Sp}
 (HV:r.wellSaid=true) (Q2:d.params.defaults=[]) (hlen:r.args.length=ps.length) (hr:dD k wM)
 (hY:∀(w:aR)(h:aS),YP w h->(K w.params).In h)
 (F:∀(w:aR)(mg:Str->Option Value)(fa:Addr)(h:aS),YP w h->(K w.params).In h->h.Ns dm mg->mg d.name=some (.ref fa)->
  ∃fd:gY,(∀(s:ao)(us:List Value),us.length=ps.length->Am s fd ⟨us,[]⟩ (ps.zip us))/\
   ∀base:aS,(K w.params).In base->base.Ns dm mg->eF r.prog w (K w.params) mg base CX k fa fd ps (sp (K w.params)))
 (jg:∀(K:aD)(H:Hp)(xs:List V)(a:DM r.args),xj H->V2 r.args a=true->zO r.args r.asked a=true->j5 K H xs (vV r.args a)->
  sp K xs H (λv H'=>Dw K H' v (r.ret.enc (zO r.args r.f a))) λz z z=>False)
 (ye:∀(H:Hp)(s:ao)(e:Value)(s':ao),CX [] H s (λz z z=>False) e s'->False):
 KZ q loose XP YP r d [] (λf vs=>L6 f vs):=
 abS (K:=K) (CX:=λz=>CX) (sp:=λw=>sp (K w.params)) HV Q2 hlen hr hY F (λw H xs a h1 h2 h3 h4=>jg (K w.params) H xs a h1 h2 h3 h4) λz H s e s'=>ye H s e s'
end L2
end
namespace Mini
open PySem PySem.Spec PyProof.Rows L2
section
variable{prog:bL}{w:aR}{A:cK}{E:Value->ao->Prop}{s:ao}
theorem zp(hi:s.heap.IsTupleIter it t i)(hT:s.heap.IsTuple t its)(e:its[i]?=some x)(k:∀h1,h1.IsTupleIter it t (i+1)->lF it s.heap h1->Q x {s with heap:=h1}):aj (model prog w) A (mL (.ref it)) Q E s:=by
 obtain⟨o1,g1,c1,d1⟩:=id hi;obtain⟨o2,g2,_,n2,d2⟩:=hT;unfold mL;refine ai (sU (name:=kK "__next__") hi.typeIs Cj (s_ Cj hi.typeIs RV ?_ (RT _)));show aj _ _ (field (.ref it) 0 >>= _) _ _ s;refine ai (fH g1 d1 (x:=.ref t) rfl ?_);show aj _ _ (if (f7 t==oB)=true then _ else _) _ _ s;rw[if_neg (show ¬((f7 t==oB)=true) from dY)];show aj _ _ (field (.ref it) 1 >>= _) _ _ s;refine ai (fH g1 d1 (x:=.int i 0) rfl ?_);show aj _ _ (zP (.ref t) >>= _) _ _ s;refine ai (lB g2 d2 ?_);simp only[fG,e];refine ai (W9 g1 d1 (by simp) (aW ⟨x,rfl,aW (k _ ?_ (Tj ..))⟩));exact⟨_,Cv _ g1 (Obj.isFreed_of_fields (TQ d1 _)),(Obj.cls_mapFields ..).trans c1,by rw[TQ d1];simp[o9]⟩
theorem zE(hA:A.handled=none)(hi:s.heap.IsTupleIter it t i)(hT:s.heap.IsTuple t its)(e:its[i]?=none)(k:∀h1 x,tP it s.heap h1->(∃o,h1.get? x=some o/\o.cls=.type "StopIteration")->E (.ref x) {s with heap:=h1}):aj (model prog w) A (mL (.ref it)) Q E s:=by
 obtain⟨o1,g1,c1,d1⟩:=id hi;obtain⟨o2,g2,_,n2,d2⟩:=hT;unfold mL;refine ai (sU (name:=kK "__next__") hi.typeIs Cj (s_ Cj hi.typeIs RV ?_ (RT _)));show aj _ _ (field (.ref it) 0 >>= _) _ _ s;refine ai (fH g1 d1 (x:=.ref t) rfl ?_);show aj _ _ (if (f7 t==oB)=true then _ else _) _ _ s;rw[if_neg (show ¬((f7 t==oB)=true) from dY)];show aj _ _ (field (.ref it) 1 >>= _) _ _ s;refine ai (fH g1 d1 (x:=.int i 0) rfl ?_);show aj _ _ (zP (.ref t) >>= _) _ _ s;refine ai (lB g2 d2 ?_);simp only[fG,e];refine ai (zB (ai (W9 g1 d1 (by simp) ?_)));show aj _ _ (newExc (.type "StopIteration") [] >>= _) _ _ _;refine ai ?_;simp only[newExc,newTuple];refine ai (qd ?_ (by size_fits));refine ai (m:=W_ _ _) (LJ (a:=oB) (by first|rfl|(simp only[W_];rfl)) ?_);refine qd ?_ (by size_fits);simp only[raiseNew];refine ai (wpAny_handled ?_)
 first|rw[show A.in1.handled=none from hA]|rw[hA]
 refine ai (aW (wpAny_throw ?_));exact k _ _ (((Tj ..).extBut.push _).push _) ⟨_,d9 _ rfl,rfl⟩
theorem agR(hA:A.handled=none)(it t:Addr)(ne:t≠it)(its:Array Value):Draws prog w A it [it,t] its.size (λi v=>its[i]?=some v) (λi h=>h.IsTupleIter it t i/\h.IsTuple t its) where
 live:=λy y z=>let ⟨o,g,_⟩:=z.1;⟨o,g⟩
 frame:=λy y y z q=>⟨z.1.at λo e=>q it (by simp) o e,let ⟨o,g,r⟩:=z.2;⟨o,q t (by simp) o g,r⟩⟩
 item:=λi s Q E hi z q=>by
  refine zp z.1 z.2 (x:=its[i]) (by simp[hi]) λh1 z1 b1=>?_;exact q _ h1 s.toks (by simp[hi]) ⟨z1,z.2.extBut b1.extBut ne⟩ b1
 done:=λs Q E z q=>zE hA z.1 z.2 (by simp) q
theorem aaH{e it:Addr}{fp:List Addr}{n i:Nat}{j:Int}{St:Nat->aS->Prop}{old:Value}{Q:Value->ao->Prop}(D:Draws prog w A it fp n P St)(he:jB s.heap e it j old)(z:St i s.heap)(aM:i<n)(ne:e≠it)(nf:e∉fp)(q:∀x h1 tk,P i x->GS h1 e it (j+1) x s.heap.objs.size->St (i+1) h1->h1.get? s.heap.objs.size=some {cls:=.type "tuple",data:=.seq #[.int j tk,x]}->h1.objs.size=s.heap.objs.size+1->
 (∀b o,b≠e->b≠it->s.heap.get? b=some o->h1.get? b=some o)->Q (.ref s.heap.objs.size) {s with heap:=h1,toks:=tk+1}):
 aj (model prog w) A (Builtin.«enumerate.__next__» ⟨[.ref e],[]⟩) (λfin s'=>∃v,fin=.done (.ret v)/\Q v s') E s:=by
 obtain⟨h0,gn,dr,t0,os⟩:=s;show aj _ _ (field (.ref e) 2 >>= _) _ _ _;refine ai (fH he rfl (x:=.ref it) rfl ?_);refine ai (D.item i _ _ _ aM z λx h1 tk hP z1 b1=>?_);replace b1:lF it h0 h1:=b1;have e1:jB h1 e it j old:=(b1.2 e ne).trans he;show aj _ _ (field (.ref e) 3 >>= _) _ _ ⟨h1,gn,dr,tk,os⟩;refine ai (fH e1 rfl (x:=o9 j) rfl ?_);show aj _ _ (field (.ref e) 4 >>= _) _ _ ⟨h1,gn,dr,tk,os⟩;refine ai (fH e1 rfl (x:=.none) rfl ?_);show aj _ _ (mkInt j >>= _) _ _ ⟨h1,gn,dr,tk,os⟩;refine ai (wpAny_mkInt ?_);show aj _ _ (setField (.ref e) 3 (o9 (j+1)) >>= _) _ _ ⟨h1,gn,dr,tk+1,os⟩;refine ai (lg e1 (by simp) λh2 e2 b2=>?_);replace b2:lF e h1 h2:=b2;replace e2:jB h2 e it (j+1) old:=e2;show aj _ _ (setField (.ref e) 4 .none >>= _) _ _ ⟨h2,gn,dr,tk+1,os⟩;refine ai (lg e2 (by simp) λh3 e3 b3=>?_);replace b3:lF e h2 h3:=b3;replace e3:jB h3 e it (j+1) old:=e3;show aj _ _ (newTuple [.int j tk,x] >>= _) _ _ ⟨h3,gn,dr,tk+1,os⟩;refine ai (wpAny_newTuple ?_);have e4:jB (h3.push {cls:=.type "tuple",data:=.seq #[.int j tk,x]}) e it (j+1) old:=cj _ e3;generalize hg:h3.push {cls:=.type "tuple",data:=.seq #[.int j tk,x]}=h4 at e4;have sz:h3.objs.size=h0.objs.size:=by rw[b3.1,b2.1,b1.1]
 have lt:e<h0.objs.size:=bT he;have tt:h4.get? h0.objs.size=some {cls:=.type "tuple",data:=.seq #[.int j tk,x]}:=by rw[←hg,←sz];exact d9 _ rfl
 have s4:h4.objs.size=h0.objs.size+1:=by rw[←hg,d_,sz]
 have k4:∀b o,b≠e->b≠it->h0.get? b=some o->h4.get? b=some o:=λb o n1 n2 q=>by rw[←hg];exact cj _ (b3.extBut b o n1 (b2.extBut b o n1 (b1.extBut b o n2 q)))
 have z4:St (i+1) h4:=D.frame _ _ _ z1 λb hb o y=>by rw[←hg];exact cj _ (b3.extBut b o (λq=>nf (q▸hb)) (b2.extBut b o (λq=>nf (q▸hb)) y))
 show aj _ _ (vv (.ref e) >>= _) _ _ ⟨h4,gn,dr,tk+1,os⟩;rw[sz];clear hg e3 b3 e2 b2 e1 b1 z1 sz h3 h2 h1;refine ai ?_
 ·unfold vv;refine ai (fH e4 rfl (x:=.none) rfl (aW ?_))
  simp only[if_true];refine ai (zB ?_);refine ai (fH e4 rfl (x:=old) rfl ?_);refine ai (lg e4 (by simp) λh5 e5 b5=>?_);replace b5:lF e h4 h5:=b5;replace e5:jB h5 e it (j+1) x:=e5;show aj _ _ (Cc (.ref e) (.ref h0.objs.size) >>= _) _ _ ⟨h5,gn,dr,tk+1,os⟩;refine ai ?_;unfold Cc;refine ai (lg e5 (by simp) λh6 e6 b6=>?_);replace b6:lF e h5 h6:=b6;replace e6:GS h6 e it (j+1) x h0.objs.size:=e6;refine lg e6 (by simp) λh7 e7 b7=>?_;replace b7:lF e h6 h7:=b7;replace e7:GS h7 e it (j+1) x h0.objs.size:=e7;refine ai (qC (aW ⟨_,rfl,q x h7 tk hP e7 ?_ ?_ ?_ ?_⟩))
  ·exact D.frame _ _ _ z4 λb hb o y=>b7.extBut b o (λq=>nf (q▸hb)) (b6.extBut b o (λq=>nf (q▸hb)) (b5.extBut b o (λq=>nf (q▸hb)) y))
  ·exact b7.extBut _ _ (mT lt) (b6.extBut _ _ (mT lt) (b5.extBut _ _ (mT lt) tt))
  ·rw[b7.1,b6.1,b5.1,s4]
  ·exact λb o n1 n2 q=>b7.extBut b o n1 (b6.extBut b o n1 (b5.extBut b o n1 (k4 b o n1 n2 q)))
theorem Yh{e it:Addr}{fp:List Addr}{n i:Nat}{j:Int}{P:Nat->Value->Prop}{St:Nat->aS->Prop}{old:Value}(D:Draws prog w A.in1 it fp n P St)(he:jB s.heap e it j old)(z:St i s.heap)(aM:i<n)(ne:e≠it)(nf:e∉fp)(q:∀x h1 tk,P i x->GS h1 e it (j+1) x s.heap.objs.size->St (i+1) h1->h1.get? s.heap.objs.size=some {cls:=.type "tuple",data:=.seq #[.int j tk,x]}->h1.objs.size=s.heap.objs.size+1->
 (∀b o,b≠e->b≠it->s.heap.get? b=some o->h1.get? b=some o)->Q (some (.ref s.heap.objs.size)) {s with heap:=h1,toks:=tk+1}):aj (model prog w) A (jA (.ref e)) Q E s:=by
 have ty:s.TypeIs (.ref e) "enumerate":=⟨_,he,rfl⟩
 unfold jA;exact ai (EC (sU (name:=kK "__next__") ty Cw (s_ Cw ty Sv
  (aaH D he z aM ne nf λx h1 tk a b c d k r=>aW (q x h1 tk a b c d k r)) (Sl _))))
end
end Mini
namespace Mini
open PySem PySem.Spec PyProof.Rows L2
open AutoSeq1 (wpAny_loadPart')
section
variable{prog:bL}{w:aR}{A:cK}{E:Value->ao->Prop}{s:ao}
theorem aaI{T newId HM:String}{Bn Bi:Builtin}{args:List Value}{kw:List (Str×Value)}{S:PySem.Spec}(ft:TypeCalled T newId HM)(c1:checkTypeCall T ⟨args,kw⟩=pure ())(c2:checkBuiltinCall newId ⟨.type T::args,kw⟩=pure ())(eN:entryFor table newId=some Bn)(eI:entryFor table HM=some Bi)(g:xy (Bn ⟨.type T::args,kw⟩) S)(h:S A.in1 (wants Q1 E) s)(nx:∀obj s1,Q1 obj s1->s1.TypeIs obj T/\Ay HM ⟨obj::args,kw⟩/\∃Si,xy (Bi ⟨obj::args,kw⟩) Si/\Si A.in1 (wants (λr s2=>r=.none/\Q obj s2) E) s1):aj (model prog w) A (call (.type T) args kw) Q E s:=by
 obtain⟨cc,tl,avo⟩:=ft.mro;have z1:=ft.made;have z2:=ft.sub;have z3:=ft.notType;have z4:=ft.canCreate;refine Ma (codeAny_of_tree ?_);show aj _ _ (callAny (.type T) _) _ _ _;refine aW ⟨Code.quiet_builtin _ (by decide+kernel),DP F.entry_type_call ?_⟩;rw[cK.under_plain (weight_type_call_type T args kw) (units_type_call_type T args kw)]
 repeat (any_goals (first|assumption|wp_step))
 refine vS (SY ft.plain eN (LJ c2 (g prog w A.in1 _ s h))) λr s1 hr=>?_;cases r with
 |error e=>exact hr
 |ok fl=>
  cases fl with
  |ret obj=>
   obtain⟨hT,aE,Si,gi,hsi⟩:=nx _ _ hr;have y1:=ft.init.lookup;have y2:=ft.init.bind obj
   repeat (any_goals (first|assumption|wp_step))
   refine vS (SY ft.init.plain eI (ft.init.check _ _ _ _ _ _ _ _ hT aE (gi prog w A.in1 _ s1 hsi))) λr2 s2 IX=>?_;cases r2 with
   |error e=>exact IX
   |ok f2=>
    cases f2 with
    |ret r=>
     obtain⟨rfl,hq⟩:=IX
     repeat (any_goals (first|assumption|wp_step))
    |_=>exact IX.elim
  |_=>exact hr.elim
theorem abT{T newId:String}{self a:Value}{kw:List (Str×Value)}(hl:Mb (.type T) "__init__"=pure (some (.builtin "object.__init__")))(hm:Bind.madeBy (.type T)=pure (some newId))(dJ:(some newId !=some "object.__new__")=true):
 xy (Builtin.«object.__init__» ⟨[self,a],kw⟩) (λz R s=>s.TypeIs self T/\R (.ok (.ret .none)) s):=by
 refine xy.of_wp λprog w A R s hs=>?_;obtain⟨hT,hq⟩:=hs
 repeat (any_goals (first|assumption|wp_step))
 all_goals exact⟨_,rfl,hq⟩
noncomputable abbrev kq(h:aS)(l:Addr):aS:=h.push {cls:=.type "tuple_iterator",data:=.fields #[.ref l,.int 0 0]}
noncomputable abbrev uW(it:Addr)(j:Int):Obj:={cls:=.type "enumerate",data:=.fields #[.none,.bool false,.ref it,o9 j,.none,.none]}
set_option tactic.hygienic true in
theorem aeZ(l:Addr)(its:Array Value)(n:Nat)(dc:Option Addr)(sl:Array (Option Value)):xy (Builtin.«enumerate.__new__» ⟨[.type "enumerate",.ref l],[]⟩) (λy R s=>s.heap.get? l=some {cls:=.type "tuple",dict:=dc,data:=.seq its n,slots:=sl}/\
 R (.ok (.ret (.ref (kq s.heap l).objs.size))) {s with heap:=(kq s.heap l).push (uW s.heap.objs.size 0)}):=
 .of_wp λprog w A R s h=>by
  obtain⟨hp,g,d,tk,os⟩:=s;obtain⟨e1,h⟩:=h;have z:=X8;have hT:Ls (FI ⟨hp,g,d,tk,os⟩) l its:=⟨_,e1,rfl,n,rfl⟩
  wp_walk using vG e1
  refine V3 λst=>aW ?_;split
  ·rename_i c _ _ _ _ _
   cases(c==oE "enumerate")<;>(wp_walk using vG e1,sX hT)<;>exact⟨_,rfl,h⟩
  ·wp_walk using vG e1,sX hT
   exact⟨_,rfl,h⟩
set_option tactic.hygienic true in
theorem adA(l:Addr)(t:Tok)(its:Array Value)(n:Nat)(dc:Option Addr)(sl:Array (Option Value)):xy (Builtin.«enumerate.__new__» ⟨[.type "enumerate",.ref l],[("start",.int 1 t)]⟩) (λy R s=>s.heap.get? l=some {cls:=.type "tuple",dict:=dc,data:=.seq its n,slots:=sl}/\
 R (.ok (.ret (.ref (kq s.heap l).objs.size))) {s with heap:=(kq s.heap l).push (uW s.heap.objs.size 1)}):=
 .of_wp λprog w A R s h=>by
  obtain⟨hp,g,d,tk,os⟩:=s;obtain⟨e1,h⟩:=h;have z:=X8;have hT:Ls (FI ⟨hp,g,d,tk,os⟩) l its:=⟨_,e1,rfl,n,rfl⟩
  wp_walk using vG e1
  refine V3 λst=>aW ?_;split
  ·rename_i c _ _ _ _ _
   cases(c==oE "enumerate")<;>(wp_walk using vG e1,sX hT)<;>exact⟨_,rfl,h⟩
  ·wp_walk using vG e1,sX hT
   exact⟨_,rfl,h⟩
theorem OZ:jB ((kq h l).push (uW h.objs.size j)) (h.objs.size+1) h.objs.size j .none/\((kq h l).push (uW h.objs.size j)).IsTupleIter h.objs.size l 0/\(kq h l).objs.size=h.objs.size+1/\
 ∀b o,h.get? b=some o->((kq h l).push (uW h.objs.size j)).get? b=some o:=by
 have hz:(kq h l).objs.size=h.objs.size+1:=d_ ..;refine⟨?_,⟨_,cj _ (d9 _ rfl),rfl,rfl⟩,hz,λb o x=>cj _ (cj _ x)⟩;have:=d9 (kq h l) (o:=uW h.objs.size j) rfl;rw[hz] at this;exact this
theorem adB(hT:s.heap.IsTuple l its)(h:∀h1,jB h1 (s.heap.objs.size+1) s.heap.objs.size 0 .none->h1.IsTupleIter s.heap.objs.size l 0->(∀b o,s.heap.get? b=some o->h1.get? b=some o)->Q (.ref (s.heap.objs.size+1)) {s with heap:=h1}):
 aj (model prog w) A (call (.type "enumerate") [.ref l]) Q E s:=by
 obtain⟨⟨c,dc,dt,sl⟩,hl,hc,n,hd⟩:=hT;obtain rfl:c=.type "tuple":=hc;obtain rfl:dt=.seq its n:=hd;obtain⟨q1,q2,q3,q4⟩:=OZ (h:=s.heap) (l:=l) (j:=0);refine callType_new CP (by decide) (F.typeCall_enumerate_1 _) (F.newCall_enumerate_1 _) (λobj=>F.args_object_init_2 obj _) SG (aeZ l its n dc sl) ⟨hl,?_⟩;show _/\_;rw[q3];exact⟨⟨_,q1,rfl⟩,h _ q1 q2 q4⟩
theorem agS(a b v:Value):Ay "object.__init__" ⟨[a,b],[("start",v)]⟩:=by
 unfold Ay;rw[signature?_of (id:="object.__init__") (n:=['_','_','t','i','n','i','_','_']) (o:=['t','c','e','j','b','o']) (by kernel_rfl) F.owner_object];kernel_rfl
theorem abU(hT:s.heap.IsTuple l its)(h:∀h1,jB h1 (s.heap.objs.size+1) s.heap.objs.size 1 .none->h1.IsTupleIter s.heap.objs.size l 0->(∀b o,s.heap.get? b=some o->h1.get? b=some o)->Q (.ref (s.heap.objs.size+1)) {s with heap:=h1}):
 aj (model prog w) A (call (.type "enumerate") [.ref l] [("start",.int 1 t)]) Q E s:=by
 obtain⟨⟨c,dc,dt,sl⟩,hl,hc,n,hd⟩:=hT;obtain rfl:c=.type "tuple":=hc;obtain rfl:dt=.seq its n:=hd;obtain⟨q1,q2,q3,q4⟩:=OZ (h:=s.heap) (l:=l) (j:=1);refine aaI (Q1:=λobj s1=>s1.TypeIs obj "enumerate"/\Q obj s1) CP (by kernel_rfl) (by kernel_rfl) SG F.entry_object_init (adA l t its n dc sl) ⟨hl,?_⟩ λobj s1 hq=>⟨hq.1,agS obj _ _,_,abT CP.init.lookup CP.made (by decide),hq.1,rfl,hq.2⟩;show _/\_;rw[q3];exact⟨⟨_,q1,rfl⟩,h _ q1 q2 q4⟩
end
theorem Zg{prog:bL}{w:aR}{A:cK}{E:Value->ao->Prop}{s:ao}{e it t:Addr}{i:Nat}{j:Int}{its:Array Value}{old:Value}(hA:A.handled=none)(he:jB s.heap e it j old)(hi:s.heap.IsTupleIter it t i)(hT:s.heap.IsTuple t its)(hn:its[i]?=none)(q:∀h1,tP it s.heap h1->Q none {s with heap:=h1}):aj (model prog w) A (jA (.ref e)) Q E s:=by
 have ty:s.TypeIs (.ref e) "enumerate":=⟨_,he,rfl⟩;unfold jA;refine ai (EC (sU (name:=kK "__next__") ty Cw (s_ Cw ty Sv ?_ (Sl _))));show aj _ _ (field (.ref e) 2 >>= _) _ _ _;refine ai (fH he rfl (x:=.ref it) rfl ?_);refine ai (zE (A:=A.in1) hA hi hT hn λh1 x b1 hx=>?_);obtain⟨o,ho,hc⟩:=hx;refine ai (U9 (T:="StopIteration") (b:=true) ⟨o,ho,hc⟩ Xa ?_);exact aW (q _ b1)
noncomputable def l5(K:aD)(a:Addr)(j:Int):It:=
 ⟨λi H=>∃(xs:List V)(x:V),aP K H a xs/\xs[i]?=some x,λi H v H'=>∃T x,v=.ref T/\H T=none/\H'=upd H T (.tup [.int (j+(i:Nat)),x])/\∀xs,aP K H a xs->xs[i]?=some x,λi H=>∃xs:List V,aP K H a xs/\xs.length<=i⟩
theorem adC{P:bL}{w:aR}{K:aD}{kk:Nat}{kT:Pos}(a e it:Addr)(j:Int):Turn P w K (.Tuple elts kk kT) (l5 K a j) [e,it] e (λi h=>(∃old,jB h e it (j+(i:Nat)) old)/\h.IsTupleIter it a i/\e≠it/\e≠a/\a≠it) where
 mem:=by simp
 obj:=λi h st b hb=>by
  obtain⟨⟨old,he⟩,⟨o,ho,hc,hd⟩,_⟩:=st;have e':b=e\/b=it:=by simpa using hb
  rcases e' with rfl|rfl
  ·exact⟨_,he,λv q=>nomatch q⟩
  ·exact⟨o,ho,λv q=>by rw[hd] at q;cases q⟩
 keep:=λi h h' st k=>let ⟨⟨old,he⟩,hi,dJ⟩:=st;⟨⟨old,k e (by simp) _ he⟩,hi.at λo q=>k it (by simp) o q,dJ⟩
 item:=by
  intro X hP hw hK hc i pins s σ H E I hf st hg;subst hP hw hK;obtain⟨⟨old,he⟩,hit,dJ,IY,IZ⟩:=st;obtain⟨xs,x,hq,hx⟩:=hg;obtain⟨its,rv,p,hz⟩:=I.tuple hq;obtain⟨u,hu,ru⟩:=rv.get hx;have l1:e<s.heap.objs.size:=bT he;have l2:it<s.heap.objs.size:=by obtain⟨_,q,_⟩:=hit;exact bT q
  have aM:i<its.toArray.size:=by
   have:=(dF.mp hu).1;simpa using this
  refine Yh (agR (prog:=X.prog) (w:=X.w) (A:=X.A.in1) (I.ok.hd hc) it a IZ its.toArray) he ⟨hit,show s.heap.IsTuple a its.toArray from p⟩ aM dJ (by simp;exact⟨dJ,IY⟩) λy h1 tk hy ho II hT hsz hk=>?_
  have ey:y=u:=by
   have h2:its.toArray[i]?=some u:=by simpa using hu
   rw[hy] at h2;exact dM h2
  subst ey;refine⟨_,rfl,R8 (s:={s with heap:=h1,toks:=tk+1}) ho λh2 he2 sb=>?_⟩;have yb:h2.get? s.heap.objs.size=some {cls:=.type "tuple",data:=.seq #[.int (j+(i:Nat)) tk,y]}:=(sb.2 _ (mT l1)).trans hT
  have new:fk X.prog X.w (upd H s.heap.objs.size (.tup [.int (j+(i:Nat)),x])) h2 s.heap.objs.size (.tup [.int (j+(i:Nat)),x]):=
   ⟨by show 2<=sizeLine;decide,[.int (j+(i:Nat)) tk,y],.cons ⟨_,rfl⟩ (.cons ru .nil),⟨_,yb,rfl,_,rfl⟩⟩
  have I1:Inv X pins σ (upd H s.heap.objs.size (.tup [.int (j+(i:Nat)),x])) {s with heap:=h2,toks:=tk+1}:=
   I.Gp (ch:=[e,it]) (λb ob hb q=>(sb.2 b (λz=>hb (by simp[z]))).trans (hk b ob (λz=>hb (by simp[z])) (λz=>hb (by simp[z])) q)) hf (aY _) new
  refine⟨.ref s.heap.objs.size,_,I1,rfl,⟨_,x,rfl,I.aE.fresh (aY _),rfl,λys hy=>by rw[I.zC hy hq];exact hx⟩,⟨⟨y,?_⟩,II.1.at λo q=>(sb.2 it (i9 dJ)).trans q,dJ,IY,IZ⟩,λb hb=>?_⟩
  ·have e1:j+((i+1:Nat):Int)=j+(i:Nat)+1:=by simp+arith
   rw[e1];exact he2
  ·have IW:b<s.heap.objs.size:=by
    have e':b=e\/b=it:=by simpa using hb
    rcases e' with rfl|rfl
    ·exact l1
    ·exact l2
   rw[aI (gw IW)];exact(hf b hb).1
 done:=by
  intro X hP hw hK hc i pins s σ H E I hf st hg;subst hP hw hK;obtain⟨⟨old,he⟩,hit,dJ,IY,IZ⟩:=st;obtain⟨xs,hq,hx⟩:=hg;obtain⟨its,rv,p,hz⟩:=I.tuple hq;obtain⟨f0,f1,f2,f3,f4,f5⟩:=hf it (by simp);have hl:=rv.length;exact Zg (I.ok.hd hc) he hit (show s.heap.IsTuple a its.toArray from p) (by simp;simp_all) λh1 eb=>⟨rfl,I.turned (t':=s.toks) (λb o hb q=>eb b o hb q) f0 f1 f3 f4 f5⟩
 self:=λA i s Q E st h=>let ⟨⟨_,he⟩,_⟩:=st;yQ he h
def xH(t:TE):TE:=λσ H Q=>∃Q':VK,t σ H Q'/\∀v H',Q' v H'->Q v H'
theorem PE.xH(h:PE X e t):PE X e (xH t):=λpins s σ H Q I ⟨Q',q,m⟩=>aJ (h pins s σ H Q' I q) λu s1 ⟨v,H1,I1,r,q1⟩=>⟨v,H1,I1,r,m _ _ q1⟩
section
variable{X:Cx}{e:aN}{p pos kT kpos:Pos}{elts:List aN}{kk:Nat}
theorem Mw(I1:Inv X pins σ H1 s1)(hq:aP X.K H1 a xs)(he:jB h1 (s1.heap.objs.size+1) s1.heap.objs.size j .none)(hi:h1.IsTupleIter s1.heap.objs.size a 0)(hk:∀b o,s1.heap.get? b=some o->h1.get? b=some o)(q:R (l5 X.K a j) H1):Bt X pins σ (.Tuple elts kk kT) R (.ref (s1.heap.objs.size+1)) {s1 with heap:=h1}:=by
 obtain⟨its,rv,pl,hz⟩:=I1.tuple hq;have la:a<s1.heap.objs.size:=pl.lt;refine⟨s1.heap.objs.size+1,[s1.heap.objs.size+1,s1.heap.objs.size],_,_,H1,rfl,I1.kept (t':=s1.toks) hk,adC a (s1.heap.objs.size+1) s1.heap.objs.size j,⟨⟨.none,by rw[show j+((0:Nat):Int)=j by simp];exact he⟩,hi,U_ _,mT (C4 la),gw la⟩,λb hb=>?_,q⟩;have e':b=s1.heap.objs.size+1\/b=s1.heap.objs.size:=by simpa using hb
 have hle:s1.heap.objs.size<=b:=by
  rcases e' with z|z
  ·rw[z];exact Va _ _
  ·rw[z];exact aY _
 exact I1.pI hle (I1.aE.fresh hle)
set_option tactic.hygienic true in
theorem agT(hg:Gl X "enumerate")(hm:X.mg "enumerate"=none)(ha:PE X e te)(hs:bK [e] X.env=[(false,eval e X.env)]):
 PI X (.Tuple elts kk kT) (.Call (.Name "enumerate" p) [e] [] pos) (λσ H R=>te σ H λx H1=>match x with| .ref a=>(∃xs,aG X.K H1 a xs/\R (nJ X.K a) H1)\/(∃xs,aP X.K H1 a xs/\R (l5 X.K a 0) H1)|_=>False):=by
 intro pins s σ H R I h;refine AM (kN I hg hm Xb (p8 (aJ (g9 (PE.xH ha) j4 hs pos pins s σ H (λvs H1=>∃x,vs=[x]/\match x with| .ref a=>(∃xs,aG X.K H1 a xs/\R (nJ X.K a) H1)\/(∃xs,aP X.K H1 a xs/\R (l5 X.K a 0) H1)|_=>False) I ?_) λus s1 ⟨vs,H1,I1,r1,x,ex,q1⟩=>?_) hs rfl))
 ·exact⟨_,h,λx H1 q=>⟨x,rfl,q⟩⟩
 ·subst ex
  cases r1 with
  |cons r rr=>
   cases rr;split at q1
   ·rename_i a
    cases r;rcases q1 with⟨xs,hq,q⟩|⟨xs,hq,q⟩
    ·obtain⟨its,rv,p',hz⟩:=I1.list hq
     refine call_enumerate_list p'.isList λh' he hit hsz hk=>yQ he ?_;refine⟨s1.heap.objs.size+1,[s1.heap.objs.size+1,s1.heap.objs.size],_,_,H1,rfl,I1.kept (t':=s1.toks) hk,abO a (s1.heap.objs.size+1) s1.heap.objs.size,⟨⟨.none,he⟩,hit,U_ _⟩,λb hb=>?_,q⟩;have e':b=s1.heap.objs.size+1\/b=s1.heap.objs.size:=by simpa using hb
     have hle:s1.heap.objs.size<=b:=by
      rcases e' with z|z
      ·rw[z];exact Va _ _
      ·rw[z];exact aY _
     exact I1.pI hle (I1.aE.fresh hle)
    ·obtain⟨its,rv,p',hz⟩:=I1.tuple hq
     exact adB (show s1.heap.IsTuple a its.toArray from p') λh1 he hi hk=>yQ he (Mw I1 hq he hi hk q)
   ·exact q1.elim
theorem Xk{M:xw}{A:cK}{E:Value->ao->Prop}{s:ao}{T:String}{env:Env}{kws:List An}(he:bK [e] env=[(false,eval e env)])(ha:(jZ pos (jT kws env)).all (·.1.isSome)=true)(hn:(jZ pos (jT kws env)).any (·.1.isNone)=false)(h:aj M A (spliced (gy pos (bK [e] env))) (λvs s1=>aj M A (HH ((jZ pos (jT kws env)).map (·.2))) (λks s2=>aj M A (call (.type T) vs (((jZ pos (jT kws env)).filterMap (·.1)).zip ks)) Q E s2) E s1) E s):
 aj M A (Hg pos (.type T) [] (gy pos (bK [e] env)) (jZ pos (jT kws env))) Q E s:=by
 rw[he] at h ⊢;have hp:(gy pos [(false,eval e env)]).any (·.1)=false:=rfl;unfold Hg;refine ai (mQ (gX (evalArgs_kwB (Q:=λa s1=>aj M A (call (.type T) a.pos a.kw) Q E s1) ha h) (λa s1 h1=>ai (vN ?_)) λy y z=>z));simp only[hp,hn,ou];refine ai (aW ?_);exact ai (gX h1 (λr s2 hr=>ai (mQ (wpAny_point (aW hr)))) λy y z=>z)
theorem ae0(hg:Gl X "enumerate")(hm:X.mg "enumerate"=none)(ha:PE X e te)(hs:bK [e] X.env=[(false,eval e X.env)]):
 PI X (.Tuple elts kk kT) (.Call (.Name "enumerate" p) [e] [⟨some "start",.Constant (.int 1) k kp,kpos⟩] pos) (λσ H R=>te σ H λx H1=>match x with| .ref a=>∃xs,aP X.K H1 a xs/\R (l5 X.K a 1) H1|_=>False):=by
 intro pins s σ H R I h;refine k_ (kN I hg hm Xb (Xk hs rfl rfl (aJ (g9 (PE.xH ha) j4 hs pos pins s σ H (λvs H1=>∃x,vs=[x]/\match x with| .ref a=>∃xs,aP X.K H1 a xs/\R (l5 X.K a 1) H1|_=>False) I ⟨_,h,λx H1 q=>⟨x,rfl,q⟩⟩) λus s1 ⟨vs,H1,I1,r1,x,ex,q1⟩=>?_)));subst ex;cases r1 with
 |cons r rr=>
  cases rr;refine aJ (NX (kws:=[]) (nm:=some "start") (kpos:=kpos) (OR (i:=1) (j:=k) (pos:=kp)) OW pos pins s1 σ H1 (λzs H2=>zs=[.int 1]/\H2=H1) I1 ⟨rfl,rfl⟩) λws s2 ⟨zs,H2,I2,r2,ez,eh⟩=>?_;subst ez eh;cases r2 with
  |cons rz rr=>
   cases rr;obtain⟨t,rfl⟩:=rz;split at q1
   ·rename_i a
    cases r;obtain⟨xs,hq,q⟩:=q1;obtain⟨its,rv,p',hz⟩:=I2.tuple hq;exact abU (show s2.heap.IsTuple a its.toArray from p') λh1 he hi hk=>yQ he (Mw I2 hq he hi hk q)
   ·exact q1.elim
end
end Mini
namespace Mini
open PySem PySem.Spec PyProof.Rows L2
section
variable{prog:bL}{w:aR}{A:cK}{E:Value->ao->Prop}{s:ao}
theorem zk(z:h.IsTuple t its)(q:tP a h h1)(ne:t≠a):h1.IsTuple t its:=let ⟨o,g,r⟩:=z;⟨o,q t o ne g,r⟩
theorem qi(z:h.IsTupleIter it t i)(q:tP a h h1)(ne:it≠a):h1.IsTupleIter it t i:=z.at λo e=>q it o ne e
def gR(B:Bool)(h:aS)(l:Addr)(ys:Array Value):Prop:=if B=true then h.IsTuple l ys else h.IsList l ys
def fW(B:Bool)(h:aS)(i l:Addr)(k:Nat):Prop:=if B=true then h.IsTupleIter i l k else h.IsListIter i l k
noncomputable def BH(B:Bool):String:=if B=true then "tuple_iterator" else "list_iterator"
theorem gR.extBut(z:gR B h t its)(q:tP a h h1)(ne:t≠a):gR B h1 t its:=by
 cases B
 ·exact aS.IsList.extBut z q ne
 ·exact zk z q ne
theorem fW.extBut(z:fW B h it t i)(q:tP a h h1)(ne:it≠a):fW B h1 it t i:=by
 cases B
 ·exact amD z q ne
 ·exact qi z q ne
theorem fW.at(z:fW B h it t i)(q:∀o,h.get? it=some o->h1.get? it=some o):fW B h1 it t i:=by
 cases B
 ·exact aS.IsListIter.at z q
 ·exact aS.IsTupleIter.at z q
theorem fW.obj(z:fW B h it t i):∃o v,h.get? it=some o/\o.data=.fields v:=by
 cases B
 ·obtain⟨o,e,_,d⟩:=(z:h.IsListIter it t i);exact⟨o,_,e,d⟩
 ·obtain⟨o,e,_,d⟩:=(z:h.IsTupleIter it t i);exact⟨o,_,e,d⟩
theorem gR.push(z:gR B h t its)(o:Obj):gR B (h.push o) t its:=by
 cases B
 ·exact aS.IsList.push z o
 ·exact aoY z o
theorem ait(z:gR B s.heap l its)(h:Q (.ref s.heap.objs.size) {s with heap:=s.heap.push {cls:=.type (BH B),data:=.fields #[.ref l,.int 0 0]}}):aj (model prog w) A (Ax (.ref l)) Q E s:=by
 cases B
 ·exact Kp z h
 ·exact sX z h
theorem aaJ(hi:fW B s.heap it t i)(hT:gR B s.heap t its)(e:its[i]?=some x)(k:∀h1,fW B h1 it t (i+1)->lF it s.heap h1->Q x {s with heap:=h1}):aj (model prog w) A (mL (.ref it)) Q E s:=by
 cases B
 ·exact wpAny_nextOf_list_item hi hT e k
 ·exact zp hi hT e k
theorem abV(hA:A.handled=none)(hi:fW B s.heap it t i)(hT:gR B s.heap t its)(e:its[i]?=none)(k:∀h1 x,tP it s.heap h1->(∃o,h1.get? x=some o/\o.cls=.type "StopIteration")->E (.ref x) {s with heap:=h1}):aj (model prog w) A (mL (.ref it)) Q E s:=by
 cases B
 ·exact wpAny_nextOf_list_end hA hi hT e k
 ·exact zE hA hi hT e k
theorem abW{B:Bool}{z TI TO i1 i2 l1 l2:Addr}{k1 k2:Nat}{x y a b:Value}{Q:Value->ao->Prop}(D:Ac z TI TO i1 i2 l1 l2)(hz:ic s.heap z TI TO .none)(iU:fj s.heap TI (.ref i1) (.ref i2))(jk:fj s.heap TO a b)(h1:s.heap.IsTupleIter i1 l1 k1)(h2:fW B s.heap i2 l2 k2)(pV:s.heap.IsTuple l1 xs)(mC:gR B s.heap l2 ys)(hx:xs[k1]?=some x)(hy:ys[k2]?=some y)(hQ:∀g,ic g z TI TO (o9 s.heap.objs.size)->fj g TO x y->g.IsTupleIter i1 l1 (k1+1)->fW B g i2 l2 (k2+1)->fj g s.heap.objs.size x y->g.objs.size=s.heap.objs.size+1->(∀c o,c≠z->c≠TO->c≠i1->c≠i2->s.heap.get? c=some o->g.get? c=some o)->Q (.ref s.heap.objs.size) {s with heap:=g}):
 aj (model prog w) A (Builtin.«zip.__next__» ⟨[.ref z],[]⟩) (λfin s'=>∃v,fin=.done (.ret v)/\Q v s') E s:=by
 show aj _ _ (field (.ref z) 2 >>= _) _ _ _;refine ai (fH hz rfl (x:=.bool false) rfl ?_);show aj _ _ (field (.ref z) 3 >>= _) _ _ _;refine ai (fH hz rfl (x:=.ref TI) rfl ?_);refine ai (lB iU rfl ?_);show aj _ _ (vv (.ref z) >>= _) _ _ _;refine ai ?_;unfold vv;refine ai (fH hz rfl (x:=.none) rfl (aW ?_));simp only[if_true];refine ai (zB ?_);refine ai (fH hz rfl (x:=.ref TO) rfl ?_);refine ai (lg hz (by simp) λg1 z1 s1=>?_);replace z1:ic g1 z TI TO .ellipsis:=z1;refine ai ?_;simp only[tu,V4,KO,Ej];refine ai (ai (ED ?_));show aj _ _ (mL (.ref i1) >>= _) _ _ _;refine ai (zp (qi h1 s1.extBut D.i1z) (zk pV s1.extBut D.l1z) hx λg2 p2 s2=>aW ?_);have o2:fj g2 TO a b:=s2.extBut _ _ D.TOi1 (s1.extBut _ _ D.TOz jk);refine ai (lB o2 rfl ?_);refine ai (J6 o2 λg3 o3 s3=>?_);replace o3:fj g3 TO x b:=o3;refine ai (qC (aW ?_));refine ai (ai (ED ?_));show aj _ _ (mL (.ref i2) >>= _) _ _ _;refine ai (aaJ (((h2.extBut s1.extBut D.i2z).extBut s2.extBut D.i12.symm).extBut s3.extBut D.TOi2.symm) (((mC.extBut s1.extBut D.l2z).extBut s2.extBut D.l2i1).extBut s3.extBut D.l2TO) hy λg4 p4 s4=>aW ?_);have o4:fj g4 TO x b:=s4.extBut _ _ D.TOi2 o3;refine ai (lB o4 rfl ?_);refine ai (J6 o4 λg5 o5 s5=>?_);replace o5:fj g5 TO x y:=o5;refine ai (qC (aW (aW ?_)));refine ai (lB o5 rfl ?_);refine ai (wpAny_newTuple ?_);have sz:g5.objs.size=s.heap.objs.size:=by rw[s5.1,s4.1,s3.1,s2.1,s1.1]
 have z5:ic g5 z TI TO .ellipsis:=s5.extBut _ _ D.TOz.symm (s4.extBut _ _ D.i2z.symm (s3.extBut _ _ D.TOz.symm (s2.extBut _ _ D.i1z.symm z1)));have k5:∀c o,c≠z->c≠TO->c≠i1->c≠i2->s.heap.get? c=some o->g5.get? c=some o:=λc o a1 a2 a3 a4 e=>s5.extBut _ _ a2 (s4.extBut _ _ a4 (s3.extBut _ _ a2 (s2.extBut _ _ a3 (s1.extBut _ _ a1 e))));have p5:g5.IsTupleIter i1 l1 (k1+1):=qi (qi (qi p2 s3.extBut D.TOi1.symm) s4.extBut D.i12) s5.extBut D.TOi1.symm;have q5:fW B g5 i2 l2 (k2+1):=p4.extBut s5.extBut D.TOi2.symm;have lz:z<g5.objs.size:=bT z5;show aj _ _ (Cc (.ref z) (.ref g5.objs.size) >>= _) _ _ _;refine ai ?_;unfold Cc;have z6:ic (g5.push {cls:=.type "tuple",data:=.seq #[x,y]}) z TI TO .ellipsis:=cj _ z5;refine ai (lg z6 (by simp) λg7 z7 s7=>?_);replace z7:ic g7 z TI TO (o9 g5.objs.size):=z7;refine lg z7 (by simp) λg8 z8 s8=>?_;replace z8:ic g8 z TI TO (o9 g5.objs.size):=z8;have up:∀c o,c≠z->g5.get? c=some o->g8.get? c=some o:=λc o a1 e=>s8.extBut _ _ a1 (s7.extBut _ _ a1 (cj _ e));have t8:fj g8 g5.objs.size x y:=s8.extBut _ _ (mT lz) (s7.extBut _ _ (mT lz) (d9 _ rfl));have n8:g8.objs.size=g5.objs.size+1:=by rw[s8.1,s7.1,d_]
 rw[sz] at z8 t8 n8;refine aW ⟨_,rfl,?_⟩;show Q (.ref g5.objs.size) _;rw[sz];exact hQ g8 z8 (up _ _ D.TOz o5) (p5.at λo e=>up _ o D.i1z e) (q5.at λo e=>up _ o D.i2z e) t8 n8 λc o a1 a2 a3 a4 e=>up c o a1 (k5 c o a1 a2 a3 a4 e)
theorem adD{B:Bool}{z TI TO i1 i2 l1 l2:Addr}{k1 k2:Nat}{xs ys:Array Value}{a b:Value}(hh:A.handled=none)(D:Ac z TI TO i1 i2 l1 l2)(hz:ic s.heap z TI TO .none)(iU:fj s.heap TI (.ref i1) (.ref i2))(jk:fj s.heap TO a b)(h1:s.heap.IsTupleIter i1 l1 k1)(h2:fW B s.heap i2 l2 k2)(pV:s.heap.IsTuple l1 xs)(mC:gR B s.heap l2 ys)(xJ:xs[k1]?=none\/ys[k2]?=none)(hE:∀g e,(∀c o,c≠z->c≠TO->c≠i1->c≠i2->s.heap.get? c=some o->g.get? c=some o)->(∃o,g.get? e=some o/\o.cls=.type "StopIteration")->E (.ref e) {s with heap:=g}):aj (model prog w) A (Builtin.«zip.__next__» ⟨[.ref z],[]⟩) Q E s:=by
 show aj _ _ (field (.ref z) 2 >>= _) _ _ _;refine ai (fH hz rfl (x:=.bool false) rfl ?_);show aj _ _ (field (.ref z) 3 >>= _) _ _ _;refine ai (fH hz rfl (x:=.ref TI) rfl ?_);refine ai (lB iU rfl ?_);show aj _ _ (vv (.ref z) >>= _) _ _ _;refine ai ?_;unfold vv;refine ai (fH hz rfl (x:=.none) rfl (aW ?_));simp only[if_true];refine ai (zB ?_);refine ai (fH hz rfl (x:=.ref TO) rfl ?_);refine ai (lg hz (by simp) λg1 z1 s1=>?_);replace z1:ic g1 z TI TO .ellipsis:=z1;refine ai ?_;simp only[tu,V4,KO,Ej];refine ai (ai (ED ?_));show aj _ _ (mL (.ref i1) >>= _) _ _ _;cases hx:xs[k1]? with
 |none=>
  refine ai (zE hh (qi h1 s1.extBut D.i1z) (zk pV s1.extBut D.l1z) hx λg2 e s2 he=>?_);obtain⟨oe,su,sr⟩:=he;have z2:ic g2 z TI TO .ellipsis:=s2 _ _ D.i1z.symm z1;have ne:e≠z:=λx=>by subst x;rw[z2] at su;cases su;simp at sr
  exact lg z2 (by simp) λg3 y s3=>hE g3 e (λc o a1 y a3 y x=>s3.extBut _ _ a1 (s2 _ _ a3 (s1.extBut _ _ a1 x))) ⟨oe,s3.extBut _ _ ne su,sr⟩
 |some x=>
  have hy:ys[k2]?=none:=xJ.resolve_left λq=>by rw[hx] at q;cases q
  refine ai (zp (qi h1 s1.extBut D.i1z) (zk pV s1.extBut D.l1z) hx λg2 p2 s2=>aW ?_);have o2:fj g2 TO a b:=s2.extBut _ _ D.TOi1 (s1.extBut _ _ D.TOz jk);refine ai (lB o2 rfl ?_);refine ai (J6 o2 λg3 o3 s3=>?_);refine ai (qC (aW ?_));refine ai (ai (ED ?_));show aj _ _ (mL (.ref i2) >>= _) _ _ _;refine ai (abV hh (((h2.extBut s1.extBut D.i2z).extBut s2.extBut D.i12.symm).extBut s3.extBut D.TOi2.symm) (((mC.extBut s1.extBut D.l2z).extBut s2.extBut D.l2i1).extBut s3.extBut D.l2TO) hy λg4 e s4 he=>?_);obtain⟨oe,su,sr⟩:=he;have z4:ic g4 z TI TO .ellipsis:=s4 _ _ D.i2z.symm (s3.extBut _ _ D.TOz.symm (s2.extBut _ _ D.i1z.symm z1));have ne:e≠z:=λx=>by subst x;rw[z4] at su;cases su;simp at sr
  exact lg z4 (by simp) λg5 y s5=>hE g5 e (λc o a1 a2 a3 a4 x=>s5.extBut _ _ a1 (s4 _ _ a4 (s3.extBut _ _ a2 (s2.extBut _ _ a3 (s1.extBut _ _ a1 x))))) ⟨oe,s5.extBut _ _ ne su,sr⟩
theorem Ur{B:Bool}{z TI TO i1 i2 l1 l2:Addr}{k1 k2:Nat}{xs ys:Array Value}{x y a b:Value}(D:Ac z TI TO i1 i2 l1 l2)(hz:ic s.heap z TI TO .none)(iU:fj s.heap TI (.ref i1) (.ref i2))(jk:fj s.heap TO a b)(h1:s.heap.IsTupleIter i1 l1 k1)(h2:fW B s.heap i2 l2 k2)(pV:s.heap.IsTuple l1 xs)(mC:gR B s.heap l2 ys)(hx:xs[k1]?=some x)(hy:ys[k2]?=some y)(hQ:∀g,ic g z TI TO (o9 s.heap.objs.size)->fj g TO x y->g.IsTupleIter i1 l1 (k1+1)->fW B g i2 l2 (k2+1)->fj g s.heap.objs.size x y->g.objs.size=s.heap.objs.size+1->(∀c o,c≠z->c≠TO->c≠i1->c≠i2->s.heap.get? c=some o->g.get? c=some o)->Q (some (.ref s.heap.objs.size)) {s with heap:=g}):
 aj (model prog w) A (jA (.ref z)) Q E s:=by
 have T:s.TypeIs (.ref z) "zip":=⟨_,hz,rfl⟩;unfold jA;exact ai (EC (sU (name:=kK "__next__") T DQ (s_ DQ T Vb (abW D hz iU jk h1 h2 pV mC hx hy λg a1 a2 a3 a4 a5 a6 a7=>aW (hQ g a1 a2 a3 a4 a5 a6 a7)) (Um _))))
theorem Vk{B:Bool}{z TI TO i1 i2 l1 l2:Addr}{k1 k2:Nat}{xs ys:Array Value}{a b:Value}(hh:A.handled=none)(D:Ac z TI TO i1 i2 l1 l2)(hz:ic s.heap z TI TO .none)(iU:fj s.heap TI (.ref i1) (.ref i2))(jk:fj s.heap TO a b)(h1:s.heap.IsTupleIter i1 l1 k1)(h2:fW B s.heap i2 l2 k2)(pV:s.heap.IsTuple l1 xs)(mC:gR B s.heap l2 ys)(xJ:xs[k1]?=none\/ys[k2]?=none)(hQ:∀g,(∀c o,c≠z->c≠TO->c≠i1->c≠i2->s.heap.get? c=some o->g.get? c=some o)->Q none {s with heap:=g}):aj (model prog w) A (jA (.ref z)) Q E s:=by
 have T:s.TypeIs (.ref z) "zip":=⟨_,hz,rfl⟩;unfold jA;refine ai (EC (sU (name:=kK "__next__") T DQ (s_ DQ T Vb (adD hh D hz iU jk h1 h2 pV mC xJ λg e hk he=>?_) (Um _))));obtain⟨o,ho,hc⟩:=he;refine ai (U9 (T:="StopIteration") (b:=true) ⟨o,ho,hc⟩ Xa ?_);exact aW (hQ _ hk)
theorem adE(B:Bool)(l1 l2:Addr)(xs ys:Array Value)(n:Nat)(dc:Option Addr)(sl:Array (Option Value)):
 xy (Builtin.«zip.__new__» ⟨[.type "zip",.ref l1,.ref l2],[]⟩) (λy R s=>s.heap.get? l1=some {cls:=.type "tuple",dict:=dc,data:=.seq xs n,slots:=sl}/\gR B s.heap l2 ys/\R (.ok (.ret (.ref (s.heap.objs.size+4))))
  {s with heap:=(((((kq s.heap l1).push {cls:=.type (BH B),data:=.fields #[.ref l2,.int 0 0]}).push {cls:=.type "tuple",data:=.seq #[.ref s.heap.objs.size,.ref (s.heap.objs.size+1)]}).push {cls:=.type "tuple",data:=.seq #[.none,.none]}).push {cls:=.type "zip",data:=.fields #[.none,.bool false,.bool false,.ref (s.heap.objs.size+2),.ref (s.heap.objs.size+3)]})}):=
 .of_wp λprog w A R s h=>by
  obtain⟨hp,g,d,tk,os⟩:=s;obtain⟨e1,e2,h⟩:=h;have z:=sub_zip;have t1:Ls (FI ⟨hp,g,d,tk,os⟩) l1 xs:=⟨_,e1,rfl,n,rfl⟩;have t2:gR B (FI ⟨hp.push {cls:=.type "tuple_iterator",data:=.fields #[.ref l1,.int 0 0]},g,d,tk,os⟩) l2 ys:=e2.push _
  wp_walk using sX t1,ait t2
  refine⟨_,rfl,?_⟩;simp only[d_] at h ⊢;exact h
theorem abX(t1:s.heap.IsTuple l1 xs)(t2:gR B s.heap l2 ys)(h:∀g,ic g (s.heap.objs.size+4) (s.heap.objs.size+2) (s.heap.objs.size+3) .none->fj g (s.heap.objs.size+2) (.ref s.heap.objs.size) (.ref (s.heap.objs.size+1))->fj g (s.heap.objs.size+3) .none .none->g.IsTupleIter s.heap.objs.size l1 0->fW B g (s.heap.objs.size+1) l2 0->g.objs.size=s.heap.objs.size+5->(∀c o,s.heap.get? c=some o->g.get? c=some o)->Q (.ref (s.heap.objs.size+4)) {s with heap:=g}):
 aj (model prog w) A (call (.type "zip") [.ref l1,.ref l2]) Q E s:=by
 obtain⟨⟨c,dc,dt,sl⟩,hl,hc,n,hd⟩:=t1;obtain rfl:c=.type "tuple":=hc;obtain rfl:dt=.seq xs n:=hd;refine callType_new F.called_zip (by decide) (F.typeCall_zip_2 _ _) (F.newCall_zip_2 _ _) (λobj=>F.args_object_init_3 obj _ _) F.entry_zip_new (adE B l1 l2 xs ys n dc sl) ⟨hl,t2,?_⟩;generalize e1:kq s.heap l1=g1;have z1:g1.objs.size=s.heap.objs.size+1:=by rw[←e1];exact d_ ..
 have a1:g1.get? s.heap.objs.size=some {cls:=.type "tuple_iterator",data:=.fields #[.ref l1,.int 0 0]}:=by rw[←e1];exact d9 _ rfl
 have k1:∀c o,s.heap.get? c=some o->g1.get? c=some o:=λc o x=>by rw[←e1];exact cj _ x
 generalize e2:g1.push {cls:=.type (BH B),data:=.fields #[.ref l2,.int 0 0]}=g2;have z2:g2.objs.size=s.heap.objs.size+2:=by rw[←e2,d_,z1]
 have a2:g2.get? (s.heap.objs.size+1)=some {cls:=.type (BH B),data:=.fields #[.ref l2,.int 0 0]}:=by rw[←e2,←z1];exact d9 _ rfl
 have k2:∀c o,g1.get? c=some o->g2.get? c=some o:=λc o x=>by rw[←e2];exact cj _ x
 generalize e3:g2.push {cls:=.type "tuple",data:=.seq #[.ref s.heap.objs.size,.ref (s.heap.objs.size+1)]}=g3;have z3:g3.objs.size=s.heap.objs.size+3:=by rw[←e3,d_,z2]
 have a3:g3.get? (s.heap.objs.size+2)=some {cls:=.type "tuple",data:=.seq #[.ref s.heap.objs.size,.ref (s.heap.objs.size+1)]}:=by rw[←e3,←z2];exact d9 _ rfl
 have k3:∀c o,g2.get? c=some o->g3.get? c=some o:=λc o x=>by rw[←e3];exact cj _ x
 generalize e4:g3.push {cls:=.type "tuple",data:=.seq #[.none,.none]}=g4;have z4:g4.objs.size=s.heap.objs.size+4:=by rw[←e4,d_,z3]
 have a4:g4.get? (s.heap.objs.size+3)=some {cls:=.type "tuple",data:=.seq #[.none,.none]}:=by rw[←e4,←z3];exact d9 _ rfl
 have k4:∀c o,g3.get? c=some o->g4.get? c=some o:=λc o x=>by rw[←e4];exact cj _ x
 generalize e5:g4.push {cls:=.type "zip",data:=.fields #[.none,.bool false,.bool false,.ref (s.heap.objs.size+2),.ref (s.heap.objs.size+3)]}=g5;have z5:g5.objs.size=s.heap.objs.size+5:=by rw[←e5,d_,z4]
 have a5:ic g5 (s.heap.objs.size+4) (s.heap.objs.size+2) (s.heap.objs.size+3) .none:=by rw[←e5,←z4];exact d9 _ rfl
 have k5:∀c o,g4.get? c=some o->g5.get? c=some o:=λc o x=>by rw[←e5];exact cj _ x
 exact⟨⟨_,a5,rfl⟩,h _ a5 (k5 _ _ (k4 _ _ a3)) (k5 _ _ a4) ⟨_,k5 _ _ (k4 _ _ (k3 _ _ (k2 _ _ a1))),rfl,rfl⟩ (by cases B<;>exact⟨_,k5 _ _ (k4 _ _ (k3 _ _ a2)),rfl,rfl⟩) z5 λc o x=>k5 _ _ (k4 _ _ (k3 _ _ (k2 _ _ (k1 _ _ x))))⟩
end
def nM(B:Bool)(K:aD)(H:Hp)(a:Addr)(xs:List V):Prop:=if B=true then aP K H a xs else aG K H a xs
theorem nM.at(I:Inv X pins σ H s)(h:nM B X.K H a xs):∃its,Vals xs its/\gR B s.heap a its.toArray/\a<s.heap.objs.size/\∀ys,nM B X.K H a ys->ys=xs:=by
 cases B
 ·obtain⟨its,rv,p,_⟩:=I.list h
  exact⟨its,rv,p.isList,p.lt,λys hy=>I.GY hy h⟩
 ·obtain⟨its,rv,p,_⟩:=I.tuple h
  exact⟨its,rv,(show s.heap.IsTuple a its.toArray from p),p.lt,λys hy=>I.zC hy h⟩
noncomputable def xK(B:Bool)(K:aD)(a b:Addr):It:=
 ⟨λi H=>∃(xs ys:List V)(x y:V),aP K H a xs/\nM B K H b ys/\xs[i]?=some x/\ys[i]?=some y,λi H v H'=>∃T x y,v=.ref T/\H T=none/\H'=upd H T (.tup [x,y])/\(∀xs,aP K H a xs->xs[i]?=some x)/\∀ys,nM B K H b ys->ys[i]?=some y,λi H=>∃xs ys:List V,aP K H a xs/\nM B K H b ys/\(xs.length<=i\/ys.length<=i)⟩
theorem abY{B:Bool}{P:bL}{w:aR}{K:aD}{kk:Nat}{kT:Pos}{a b z TI TO i1 i2:Addr}(D:Ac z TI TO i1 i2 a b):
 Turn P w K (.Tuple elts kk kT) (xK B K a b) [z,TI,TO,i1,i2] z (λi h=>ic h z TI TO .none/\fj h TI (.ref i1) (.ref i2)/\(∃x y,fj h TO x y)/\h.IsTupleIter i1 a i/\fW B h i2 b i) where
 mem:=by simp
 obj:=λi h st c hc=>by
  obtain⟨q1,q2,⟨x,y,q3⟩,⟨o1,e1,_,d1⟩,zz⟩:=st;obtain⟨o2,v2,e2,d2⟩:=zz.obj;simp only[cH,yR,or_false] at hc;rcases hc with rfl|rfl|rfl|rfl|rfl
  ·exact⟨_,q1,λv q=>nomatch q⟩
  ·exact⟨_,q2,λv q=>nomatch q⟩
  ·exact⟨_,q3,λv q=>nomatch q⟩
  ·exact⟨o1,e1,λv q=>by rw[d1] at q;cases q⟩
  ·exact⟨o2,e2,λv q=>by rw[d2] at q;cases q⟩
 keep:=λi h h' st k=>by
  obtain⟨q1,q2,⟨x,y,q3⟩,h1,h2⟩:=st;exact⟨k _ (by simp) _ q1,k _ (by simp) _ q2,⟨x,y,k _ (by simp) _ q3⟩,h1.at λo q=>k _ (by simp) o q,h2.at λo q=>k _ (by simp) o q⟩
 item:=by
  intro X hP hw hK hc i pins s σ H E I hf st hg;subst hP hw hK;obtain⟨hz,iU,⟨x0,y0,jk⟩,h1,h2⟩:=st;obtain⟨xs,ys,x,y,uX,yf,hx,hy⟩:=hg;obtain⟨its,rv,p,_⟩:=I.tuple uX;obtain⟨kU,BI,p2,_,Qq⟩:=yf.at I;obtain⟨u,hu,ru⟩:=rv.get hx;obtain⟨u2,hu2,ru2⟩:=BI.get hy;have Q4:z<s.heap.objs.size:=bT hz;refine Ur D hz iU jk h1 h2 (show s.heap.IsTuple a its.toArray from p) p2 (x:=u) (y:=u2) (by simpa using hu) (by simpa using hu2) λg z1 t1 b1 b2 hT hsz hk=>?_;refine⟨_,rfl,wpAny_letOwnedTupleGo_zip (s:={s with heap:=g}) z1 λg2 z2 sb=>?_⟩;have yb:g2.get? s.heap.objs.size=some {cls:=.type "tuple",data:=.seq #[u,u2]}:=(sb.2 _ (mT Q4)).trans hT;have new:fk X.prog X.w (upd H s.heap.objs.size (.tup [x,y])) g2 s.heap.objs.size (.tup [x,y]):=⟨by show 2<=sizeLine;decide,[u,u2],.cons ru (.cons ru2 .nil),⟨_,yb,rfl,_,rfl⟩⟩
  have I1:Inv X pins σ (upd H s.heap.objs.size (.tup [x,y])) {s with heap:=g2}:=
   I.Gp (t':=s.toks) (ch:=[z,TI,TO,i1,i2]) (λc o nb q=>(sb.2 c λe=>nb (by simp[e])).trans (hk c o (λe=>nb (by simp[e])) (λe=>nb (by simp[e])) (λe=>nb (by simp[e])) (λe=>nb (by simp[e])) q)) hf (aY _) new
  refine⟨.ref s.heap.objs.size,_,I1,rfl,⟨_,x,y,rfl,I.aE.fresh (aY _),rfl,λl hl=>by rw[I.zC hl uX];exact hx,λl hl=>by rw[Qq l hl];exact hy⟩,⟨z2,(sb.2 _ D.TIz).trans (hk _ _ D.TIz D.TITO D.TIi1 D.TIi2 iU),⟨u,u2,(sb.2 _ D.TOz).trans t1⟩,b1.at λo q=>(sb.2 _ D.i1z).trans q,b2.at λo q=>(sb.2 _ D.i2z).trans q⟩,λc uY=>?_⟩
  have aM:c<s.heap.objs.size:=by
   simp only[cH,yR,or_false] at uY;rcases uY with rfl|rfl|rfl|rfl|rfl
   ·exact Q4
   ·exact bT iU
   ·exact bT jk
   ·obtain⟨_,q,_⟩:=h1;exact bT q
   ·obtain⟨_,_,q,_⟩:=h2.obj;exact bT q
  rw[aI (gw aM)];exact(hf c uY).1
 done:=by
  intro X hP hw hK hc i pins s σ H E I hf st hg;subst hP hw hK;obtain⟨hz,iU,⟨x0,y0,jk⟩,h1,h2⟩:=st;obtain⟨xs,ys,uX,yf,xJ⟩:=hg;obtain⟨its,rv,p,_⟩:=I.tuple uX;obtain⟨kU,BI,p2,_,Qq⟩:=yf.at I;have l1:=rv.length;have l2:=BI.length;have he:its.toArray[i]?=none\/kU.toArray[i]?=none:=xJ.imp (λq=>by simp;simp_all) λq=>by simp;lia
  exact Vk (I.ok.hd hc) D hz iU jk h1 h2 (show s.heap.IsTuple a its.toArray from p) p2 he λg hk=>⟨rfl,I.aeW (t':=s.toks) (ch:=[z,TI,TO,i1,i2]) (λc o nb q=>hk c o (λe=>nb (by simp[e])) (λe=>nb (by simp[e])) (λe=>nb (by simp[e])) (λe=>nb (by simp[e])) q) hf⟩
 self:=λA i s Q E st h=>Vc st.1 h
theorem ae1(hg:Gl X "zip")(hm:X.mg "zip"=none)(ha:PA X [e,e2] ta)(hs:bK [e,e2] X.env=(false,eval e X.env)::bK [e2] X.env)(iQ:(gy pos (bK [e2] X.env)).any (·.1)=false):
 PI X (.Tuple elts kk kT) (.Call (.Name "zip" p) [e,e2] [] pos) (λσ H R=>ta σ H λvs H1=>∃B a b xs ys,vs=[.ref a,.ref b]/\aP X.K H1 a xs/\nM B X.K H1 b ys/\R (xK B X.K a b) H1):=by
 intro pins s σ H R I h;refine AM (kN I hg hm abP (p8 (aJ (ha pos pins s σ H _ I h) λus s1 ⟨vs,H1,I1,r1,q1⟩=>?_) hs iQ));obtain⟨B,a,b,xs,ys,ex,uX,yf,q⟩:=q1;subst ex;cases r1 with
 |cons r rr=>
  cases rr with
  |cons r' rr=>
   cases rr;cases r;cases r';obtain⟨kU,BI,p2,lb,_⟩:=yf.at I1
   have fp:∀c,c∈[s1.heap.objs.size+4,s1.heap.objs.size+2,s1.heap.objs.size+3,s1.heap.objs.size,s1.heap.objs.size+1]->s1.heap.objs.size<=c:=by
    intro c hc;simp only[cH,yR,or_false] at hc;lia
   obtain⟨its,rv,p1,_⟩:=I1.tuple uX;have la:a<s1.heap.objs.size:=p1.lt;refine abX (show s1.heap.IsTuple a its.toArray from p1) p2 λg hz iU jk h1 h2 hsz hk=>Vc hz ?_;exact⟨s1.heap.objs.size+4,[s1.heap.objs.size+4,s1.heap.objs.size+2,s1.heap.objs.size+3,s1.heap.objs.size,s1.heap.objs.size+1],_,_,H1,rfl,I1.kept (t':=s1.toks) hk,abY (PySem.W.ktu_apart s1.heap.objs.size a b la lb),⟨hz,iU,⟨_,_,jk⟩,h1,h2⟩,λc hc=>I1.pI (fp c hc) (I1.aE.fresh (fp c hc)),q⟩
noncomputable def nv(ns:List Int):V:=match ns.min? with|some m=>.int m|none=>.az
noncomputable def ny(lo:Int)(n:Nat):List V:=(cS n).map λ(k:Nat)=>V.int (lo+(k:Int))
section
variable{prog:bL}{w:aR}{A:cK}{E:Value->ao->Prop}{s:ao}
theorem abZ(a d:Value):Ay "min" ⟨[a],[(kK "default",d)]⟩:=by unfold Ay;kernel_rfl
theorem Aq:(toString "min"++toString ".loop":String)="min.loop":=by decide
theorem ae2{I:Addr}{fp wr:List Addr}{n:Nat}{P:Nat->Value->Prop}{St:Nat->aS->Prop}{d:Value}(W:Walks prog w A.in1 I fp wr n P St)(bt:Nat->Nat->Bool)(cmp:CmpOf prog w A.in1 .Lt P bt)(L:Addr)(nf:L∉fp):
 ∀(k j:Nat)(s:ao)(vb:Value)(c:Nat),n-(j+1)=k->j+1<=n->St (j+1) s.heap->P (uv bt j) vb->s.heap.get? L=some {cls:=.type "list",dict:=none,data:=.seq #[vb,vb] c,slots:=#[]}->
 (∀v h1 tk,P (uv bt (n-1)) v->(∀b o,b∉wr->b≠L->s.heap.get? b=some o->h1.get? b=some o)->R (.ok (.ret v)) {s with heap:=h1,toks:=tk})->
 qU (model prog w) A (.builtin "min.loop" ⟨[.ref I,.none,.ref L],[(kK "default",d)]⟩) R s:=by
 have nw:L∉wr:=λh=>nf (W.sub _ h);intro k;induction k with
 |zero=>
  intro j s vb c ek jn st pb eL fin;have en:j+1=n:=by grind
  refine DP Ky ?_;rw[J7 tw _];show aj _ A.in1 (zP (.ref L) >>= _) _ _ s;refine ai (lB eL rfl ?_);show aj _ A.in1 (tryCatch (jA (.ref I)) _ >>= _) _ _ s;refine ai (yZ (W.done s _ _ (en▸st) λh1 tk kk=>?_));have pW:=kk L _ nw eL;show aj _ A.in1 (updateSeq L (λz=>#[]) >>= _) _ _ _;refine ai ?_;refine KP pW rfl (ai (qC (aW ?_)));exact fin vb _ tk (by rw[←en];exact pb) λb o nb nL e=>(sV _ _ (i9 nL)).trans (kk b o nb e)
 |succ k ih=>
  intro j s vb c ek jn st pb eL fin;have lt:j+1<n:=by omega
  refine DP Ky ?_;rw[J7 tw _];show aj _ A.in1 (zP (.ref L) >>= _) _ _ s;refine ai (lB eL rfl ?_);show aj _ A.in1 (tryCatch (jA (.ref I)) _ >>= _) _ _ s;refine ai (yZ (W.item (j+1) s _ _ lt st λv h1 tk pv uZ kk=>?_));have pW:=kk L _ nw eL;show aj _ A.in1 (tryCatch (holding [v,v] (richCompare .Lt v vb >>= _)) _ >>= _) _ _ _;refine ai (yZ (mQ (ai (cmp (j+1) (uv bt j) v vb _ _ _ pv pb ?_))));refine ai (mQ (qc ?_));refine ai (qC (aW ?_));cases hb:bt (j+1) (uv bt j) with
  |true=>
   simp only[if_true];refine ai ?_;refine KP pW rfl (ai (qC ?_));rw[Aq];refine aW ⟨EE tw _,ih (j+1) _ v _ (by grind) lt (W.frame _ _ _ uZ λb bf o e=>?_) (by simp only[uv,hb,if_true];exact pv) (Cv _ pW rfl) λv2 h2 yg u_ yh=>?_⟩
   ·exact(sV _ _ (λh:L=b=>nf (by rw[h];exact bf))).trans e
   ·exact fin v2 h2 yg u_ λb o nb nL e=>yh b o nb nL ((sV _ _ (i9 nL)).trans (kk b o nb e))
  |false=>
   simp only[aL,if_false];refine ai (qC ?_);rw[Aq];refine aW ⟨EE tw _,ih (j+1) _ vb c (by lia) lt uZ (by simp only[uv,hb,aL,if_false];exact pb) pW λv2 h2 yg u_ yh=>?_⟩;exact fin v2 h2 yg u_ λb o nb nL e=>yh b o nb nL (kk b o nb e)
theorem O0{ns:List Int}(h1:m∈ns)(h2:∀a,a∈ns->m<=a):ns.min? =some m:=J1.mpr ⟨h1,h2⟩
theorem ab0(hh:A.handled=none)(hl:s.heap.IsList l its.toArray)(hi:IntsAre its ns)(h:∀h1 tk v,(∀b o,s.heap.get? b=some o->h1.get? b=some o)->RelV (nv ns) v->Q v {s with heap:=h1,toks:=tk}):aj (model prog w) A (call (.builtin "min") [.ref l] [(kK "default",.none)]) Q E s:=by
 obtain⟨xs,e⟩:=hi.allInts.items;have hn:numsOf (t_ xs).toList=ns:=by rw[←e];exact hi.numsOf
 rw[X7] at hn;subst hn;rw[e] at hl;refine kmk_tree F.kind_min F.plain_min F.entry_min (abZ _ _) ?_;show aj _ A.in1 (RW "min" ["key","default"] 0 ⟨[],[(kK "default",.none)]⟩ >>= _) _ _ s;refine ai (LJ (show RW "min" ["key","default"] 0 ⟨[],[(kK "default",oB)]⟩=pure [none,some .none] from rfl) ?_);refine ai (aW ?_);refine ai (iter_intList hl λs2 e2 st fp lI=>?_);subst e2;refine ai (qd ?_);rw[Aq];have W:=Mg (prog:=prog) (w:=w) (A:=A.in1) hh s.heap.objs.size l lI (t_ xs);generalize e2:s.heap.push {cls:=.type "list_iterator",data:=.fields #[.ref l,.int 0 0]}=g at*;have nf:g.objs.size∉[s.heap.objs.size,l]:=λhm=>jQ _ (fp _ hm);have nw:g.objs.size∉[s.heap.objs.size]:=λhm=>nf (by simp at hm ⊢;exact .inl hm);have Q5:=W.frame _ _ (g.push {cls:=.type "list",data:=.seq #[]}) st λb z o e=>cj _ e;have eL:(g.push {cls:=.type "list",data:=.seq #[]}).get? g.objs.size=some {cls:=.type "list",data:=.seq #[]}:=d9 _ rfl
 have old:∀h1:aS,(∀b o,b∉[s.heap.objs.size]->b≠g.objs.size->(g.push {cls:=.type "list",data:=.seq #[]}).get? b=some o->h1.get? b=some o)->∀b o,s.heap.get? b=some o->h1.get? b=some o:=λh1 kk b o eb=>by
  have lb:=bT eb;have sg:g.objs.size=s.heap.objs.size+1:=by rw[←e2];exact d_ ..
  refine kk b o (λhm=>?_) (λeq=>?_) (cj _ (by rw[←e2];exact cj _ eb))
  ·rw[Kf] at hm;rw[hm] at lb;exact jQ _ lb
  ·rw[eq,sg] at lb;exact absurd lb (tU.mpr (Nat.le_succ _))
 refine aW ⟨EE tw _,?_⟩;refine DP Ky ?_;rw[J7 tw _];show aj _ A.in1 (zP (.ref g.objs.size) >>= _) _ _ _;refine ai (lB eL rfl ?_);show aj _ A.in1 (tryCatch (jA (.ref s.heap.objs.size)) _ >>= _) _ _ _
 by_cases hz:xs.size=0
 ·have e0:(t_ xs).size=0:=by simpa[t_] using hz
  refine ai (yZ (W.done _ _ _ (by rw[e0];exact Q5) λh1 tk kk=>?_));refine ai (zB (aW ?_));refine h h1 tk .none (old h1 λb o nb z eb=>kk b o nb eb) ?_;have:xs.toList.map (·.1)=[]:=by rw[List.map_eq_nil_iff];exact RQ (by simpa using hz)
  rw[show nv (xs.toList.map (·.1))=.az by rw[this];rfl];rfl
 ·have e0:(t_ xs).size=xs.size:=by simp[t_]
  refine ai (yZ (W.item 0 _ _ _ (by rw[e0];lia) Q5 λv h1 tk pv uZ kk=>?_));have pW:=kk _ _ nw eL;show aj _ A.in1 (updateSeq g.objs.size (λz=>#[v,v]) >>= _) _ _ _;refine ai ?_;refine KP pW rfl ?_;rw[Aq];refine aW ⟨EE tw _,ae2 W (λi j=>decide (uC xs i<uC xs j)) (CmpOf.ints_lt (uC xs) (λz z=>intItems_at)) g.objs.size nf _ 0 _ v _ rfl (by rw[e0];lia) (W.frame _ _ _ uZ λb bf o e=>?_) pv (Cv _ pW rfl) λv2 h2 yg u_ yh=>?_⟩
  ·exact(sV _ _ (λh:g.objs.size=b=>nf (by rw[h];exact bf))).trans e
  ·refine h h2 yg v2 (old h2 λb o nb nL eb=>yh b o nb nL ((sV _ _ (i9 nL)).trans (kk b o nb eb))) ?_
   rw[e0] at u_;obtain⟨t,rfl⟩:=intItems_at u_;obtain⟨q1,q2⟩:=argBest_lt (uC xs) (xs.size-1)
   have hm:(xs.toList.map (·.1)).min?=some (uC xs (uv (λi j=>decide (uC xs i<uC xs j)) (xs.size-1))):=by
    refine O0 ?_ λa ha=>?_
    ·rw[numAt_eq];exact PySem.getD_mem (by rw[aU,yL];grind)
    ·obtain⟨j,hj,rfl⟩:=mem_getD ha
     rw[aU,yL] at hj;rw[←numAt_eq];exact q2 j (by lia)
   unfold nv;rw[hm];exact⟨t,rfl⟩
theorem Wf(he:bK [e] env=[(false,eval e env)])(ha:(jZ pos (jT kws env)).all (·.1.isSome)=true)(hn:(jZ pos (jT kws env)).any (·.1.isNone)=false)(h:aj M A (spliced (gy pos (bK [e] env))) (λvs s1=>aj M A (HH ((jZ pos (jT kws env)).map (·.2))) (λks s2=>aj M A (call (.builtin "min") vs (((jZ pos (jT kws env)).filterMap (·.1)).zip ks)) Q E s2) E s1) E s):
 aj M A (Hg pos (.builtin "min") [] (gy pos (bK [e] env)) (jZ pos (jT kws env))) Q E s:=by
 rw[he] at h ⊢;have hp:(gy pos [(false,eval e env)]).any (·.1)=false:=rfl;unfold Hg;refine ai (mQ (gX (evalArgs_kwB (Q:=λa s1=>aj M A (call (.builtin "min") a.pos a.kw) Q E s1) ha h) (λa s1 h1=>ai (vN ?_)) λy y z=>z));simp only[hp,hn,ou];refine ai (aW ?_);exact ai (gX h1 (λr s2 hr=>ai (mQ (wpAny_point (aW hr)))) λy y z=>z)
end
section
variable{X:Cx}{e:aN}{p pos kpos:Pos}
theorem ae3(hg:Gl X "min")(hm:X.mg "min"=none)(hc:X.calm=true)(ha:PE X e te)(hs:bK [e] X.env=[(false,eval e X.env)]):
 PE X (.Call (.Name "min" p) [e] [⟨some "default",.Constant .none k kp,kpos⟩] pos) (λσ H Q=>te σ H λx H1=>∃(a:Addr)(ns:List Int),x=.ref a/\aG X.K H1 a (ns.map V.int)/\Q (nv ns) H1):=by
 intro pins s σ H Q I h;refine k_ (kN I hg hm SH (Wf hs rfl rfl (aJ (g9 (PE.xH ha) j4 hs pos pins s σ H (λvs H1=>∃x,vs=[x]/\∃(a:Addr)(ns:List Int),x=.ref a/\aG X.K H1 a (ns.map V.int)/\Q (nv ns) H1) I ⟨_,h,λx H1 q=>⟨x,rfl,q⟩⟩) λus s1 ⟨vs,H1,I1,r1,x,ex,a,ns,ea,hq,q1⟩=>?_)));subst ex ea;rw[Vals.AU r1];refine aJ (NX (kws:=[]) (nm:=some "default") (kpos:=kpos) (OS (j:=k) (pos:=kp)) OW pos pins s1 σ H1 (λzs H2=>zs=[.az]/\H2=H1) I1 ⟨rfl,rfl⟩) λws s2 ⟨zs,H2,I2,r2,ez,eh⟩=>?_;subst ez eh;cases r2 with
 |cons rz rr=>
  cases rr;cases rz;obtain⟨its,rv,pl,_⟩:=I2.list hq;exact ab0 (I2.ok.hd hc) pl.isList rv.ints λh1 tk v hk r=>⟨nv ns,_,I2.kept hk,r,q1⟩
theorem Nd(lo:Int):∀(n b:Nat)(acc:List Value),acc.length=n->(∀j v,acc[j]?=some v->∃t,v=v_ (lo+((b+j:Nat):Int)) t)->Vals ((jU b n).map λ(k:Nat)=>V.int (lo+(k:Int))) acc
 |0,b,acc,hl,_=>by
  rw[RQ hl];exact .nil
 |n+1,b,[],hl,_=>by simp at hl
 |n+1,b,v::acc,hl,h=>by
  rw[vE,aV];obtain⟨t,rfl⟩:=h 0 v rfl
  exact .cons ⟨t,rfl⟩ (Nd lo n (b+1) acc (by simpa using hl) λj v hv=>by
   have:=h (j+1) v (by simpa using hv);rw[show b+(j+1)=b+1+j by simp+arith] at this;exact this)
theorem ae4(I0:Gl X "list")(hml:X.mg "list"=none)(hg:Gl X "range")(hm:X.mg "range"=none)(hc:X.calm=true)(ha:PA X [a,b] ta)(hs:bK [a,b] X.env=[(false,eval a X.env),(false,eval b X.env)])(pS:bK [b] X.env=[(false,eval b X.env)]):
 PE X (.Call (.Name "list" p) [.Call (.Name "range" q) [a,b] [] ip] [] pos) (λσ H Q=>ta σ H λvs H1=>∃i j:Int,vs=[.int i,.int j]/\(-(2^62)<=i/\i<2^62/\ -(2^62)<=j/\j<2^62/\(j-i).toNat<=2^24)/\∀l,H1 l=none->Q (.ref l) (upd H1 l (.lst (ny i (j-i).toNat)))):=by
 intro pins s σ H Q I h;refine k_ (kN I I0 hml Sw (p8 (TM ?_) rfl rfl));refine k_ (kN I hg hm Gg (p8 (aJ (ha ip pins s σ H _ I h) λus s1 ⟨vs,H1,I1,r1,q1⟩=>?_) (by rw[hs,pS]) (by rw[pS];rfl)));obtain⟨i,j,ee,⟨q1,q2,q3,q4,q5⟩,qq⟩:=q1;subst ee;obtain⟨t,u,rfl⟩:=Vals.ajr r1;refine call_range_2 ?_;refine Uk ?_;refine call_list_range (n:=(j-i).toNat) (I1.ok.hd hc) (LH ..) (small_one q1 q2 q3 q4) (by rw[X3];split<;>grind) q5 λh1 tk acc c hk hD hI=>?_;refine⟨.ref _,_,I1.laid (t':=tk) (a:=(s1.heap.push _).objs.size) (o:=.lst (ny i (j-i).toNat)) (λb o eb=>hk b o (cj _ eb)) (by rw[d_];simp) ?_,rfl,qq _ (I1.aE.fresh (by rw[d_];lia))⟩;refine⟨?_,acc.toList,c,?_,?_⟩
 ·rw[FH];unfold ny;simp;simp_all
 ·unfold ny
  rw[CF];refine Nd i _ 0 _ (by rw[←hI.1];simp) λk v hv=>?_;obtain⟨t,rfl⟩:=hI.2 k v (by simpa using hv);exact⟨t,by simp⟩
 ·simpa using hD
end
set_option genInjectivity false
inductive yi where|add|sub|mul|fdiv|mod|shl|shr|band|bor
inductive BJ where|eq|ne|lt|le|gt|ge|BK|HW|vd|pL
inductive I_ where|len|list|tuple|any|all|min2|max2|sum
inductive Tg where|name (i:Nat)|tup (l:List Nat)|bad
mutual
inductive E where
 |bad
 |var (i:Nat)
 |cst (v:V)
 |b_ (j:Nat)
 |xM (j:Nat)
 |ay (o:yi) (a b:E)
 |neg (a:E)
 |cmp (a:E) (cs:Cs)
 |bQ (a b:E)
 |iz (a b:E)
 |bR (a:E)
 |eG (c a b:E)
 |call (j:Nat) (args:Es)
 |pA (f:E) (args:Es)
 |make (j:Nat) (args:Es)
 |blt (b:I_) (args:Es)
 |fld (a:E) (f:Str)
 |ix (a b:E)
 |fX (a b:E)
 |yj (xs:List V) (b:E)
 |sy (j:Nat) (b:E)
 |xN (a:E)
 |ve (neg:Bool) (a:E) (xs:List V)
 |slice (a:E) (lo hi:Eo)
 |qY (a:E) (lo hi:Eo)
 |tup (es:Es)
 |lst (es:Es)
 |lc (elt:E) (t:Tg) (it:iu) (c:E) (own:List Nat)
 |AY (a:E)
 |AZ (a b:E)
 |app (o e:E)
 |ext (o e:E)
inductive Cs where
 |one (op:BJ) (b:E)
 |more (op:BJ) (b:E) (r:Cs)
inductive Es where
 |nil
 |cons (e:E) (es:Es)
inductive Eo where
 |none
 |some (e:E)
inductive iu where
 |bad
 |seq (e:E)
 |jd (a:E)
 |pM (a b:E)
 |Ik (a b c:E)
 |enum (e:E)
 |HX (e:E)
 |zip (a b:E)
end
mutual
inductive S where
 |bad
 |set (i:Nat) (e:E)
 |ret (e:E)
 |Qs
 |ifs (c:E) (a b:Ss)
 |yk (c:E) (b:Ss)
 |cU (t:Tg) (it:iu) (b:Ss)
 |ex (e:E)
 |dI (o:E) (f:Str) (e:E)
 |rN (o i e:E)
 |aug (i:Nat) (op:yi) (e:E)
 |pass
 |brk
 |cnt
inductive Ss where
 |nil
 |cons (s:S) (ss:Ss)
end
set_option genInjectivity true
end Mini
namespace Mini
open PySem PySem.Spec PyProof.Rows L2
structure Ge where
 K:aD
 gv:Nat->V
 fa:Nat->Addr
 fn:Nat->Sp
 lim:Nat
 cl:Nat->Addr
 yl:Nat->Sp
 ie:Nat
 gd:Nat->Int->Option V
noncomputable def rd(H:Hp)(a:Addr):Option (List V):=match H a with
 |some (.lst xs)=>some xs
 |some (.tup xs)=>some xs
 |some (.fU _ (.lst xs))=>some xs
 |_=>none
noncomputable def ints?:List V->Option (List Int)
 |[]=>some []
 | .int i::l=>(ints? l).map (i::·)
 |_=>none
noncomputable def rows?(H:Hp):List V->Option (List (List Int))
 |[]=>some []
 | .ref a::l=>(match H a with
   |some (.tup xs)=>(match ints? xs,rows? H l with
    |some ns,some r=>some (ns::r)
    |_,_=>none)
   |_=>none)
 |_=>none
def c9:yi->V->V->Hp->VK->Prop
 | .add,.int i,.int j,H,Q=>Q (.int (i+j)) H
 | .add,.ref a,.ref b,H,Q=>match H a,H b with
   |some (.lst xs),some (.lst zs)=>xs.length+zs.length<=sizeLine/\∀p,H p=none->Q (.ref p) (upd H p (.lst (xs++zs)))
   |_,_=>False
 | .sub,.int i,.int j,H,Q=>Q (.int (i-j)) H
 | .mul,.int i,.int j,H,Q=>xE i j/\Q (.int (i*j)) H
 | .mul,.ref a,.int k,H,Q=>match H a with
   |some (.lst xs)=>(-(2^63)<=k/\k<2^63/\xs.length*k.toNat<=sizeLine)/\∀p,H p=none->Q (.ref p) (upd H p (.lst (iY k.toNat xs).flatten))
   |_=>False
 | .fdiv,.int i,.int j,H,Q=>AR i j/\Q (.int (i/j)) H
 | .mod,.int i,.int j,H,Q=>0<j/\Q (.int (i % j)) H
 | .shl,.int i,.int j,H,Q=>Ij i j/\Q (.int (i*2^j.toNat)) H
 | .shr,.int i,.int j,H,Q=>0<=j/\Q (.int (i/2^j.toNat)) H
 | .band,.int i,.int j,H,Q=>Q (.int (vK i j)) H
 | .bor,.int i,.int j,H,Q=>Q (.int (EA i j)) H
 |_,_,_,_,_=>False
def dW:BJ->V->V->Hp->VK->Prop
 | .eq,.int i,.int j,H,Q=>Q (.bl (decide (i=j))) H
 | .eq,.ref a,.ref b,H,Q=>match H a,H b with
   |some (.tup xs),some (.tup ys)=>(match ints? xs,ints? ys with
    |some ns,some ms=>Q (.bl (decide (ns=ms))) H
    |_,_=>False)
   |_,_=>False
 | .ne,.int i,.int j,H,Q=>Q (.bl (!decide (i=j))) H
 | .lt,.int i,.int j,H,Q=>Q (.bl (decide (i<j))) H
 | .le,.int i,.int j,H,Q=>Q (.bl (decide (i<=j))) H
 | .gt,.int i,.int j,H,Q=>Q (.bl (decide (j<i))) H
 | .ge,.int i,.int j,H,Q=>Q (.bl (decide (j<=i))) H
 | .BK,.int i,.ref b,H,Q=>match rd H b with
   |some ys=>(match ints? ys with|some ns=>Q (.bl (decide (i∈ns))) H|none=>False)
   |none=>False
 | .BK,.ref a,.ref b,H,Q=>match H a,H b with
   |some (.tup xs),some (.lst ys)=>(match ints? xs,rows? H ys with
    |some ns,some rs=>Q (.bl (decide (ns∈rs))) H
    |_,_=>False)
   |_,_=>False
 | .HW,.int i,.ref b,H,Q=>match rd H b with
   |some ys=>(match ints? ys with|some ns=>Q (.bl (!decide (i∈ns))) H|none=>False)
   |none=>False
 | .vd,x,.az,H,Q=>Q (.bl (decide (x=.az))) H
 | .pL,x,.az,H,Q=>Q (.bl (!decide (x=.az))) H
 |_,_,_,_,_=>False
def bE:V->Hp->(Bool->Hp->Prop)->Prop
 | .bl b,H,Q=>Q b H
 | .int i,H,Q=>Q (!decide (i=0)) H
 | .az,H,Q=>Q false H
 | .ref a,H,Q=>match rd H a with
   |some xs=>Q (!xs.isEmpty) H
   |none=>False
 |_,_,_=>False
noncomputable def pB:List V->Option (List Bool)
 |[]=>some []
 | .bl i::l=>(pB l).map (i::·)
 |_=>none
def cu:I_->List V->Hp->VK->Prop
 | .len,[.ref a],H,Q=>match rd H a with
   |some xs=>Q (.int xs.length) H
   |none=>False
 | .list,[.ref a],H,Q=>match rd H a with
   |some xs=>∀p,H p=none->Q (.ref p) (upd H p (.lst xs))
   |none=>False
 | .tuple,[.ref a],H,Q=>match H a with
   |some (.lst xs)=>∀p,H p=none->Q (.ref p) (upd H p (.tup xs))
   |some (.tup _)=>Q (.ref a) H
   |_=>False
 | .any,[.ref a],H,Q=>match H a with
   |some (.lst xs)=>(match pB xs with|some bs=>Q (.bl (bs.any id)) H|none=>False)
   |_=>False
 | .all,[.ref a],H,Q=>match H a with
   |some (.lst xs)=>(match pB xs with|some bs=>Q (.bl (bs.all id)) H|none=>False)
   |_=>False
 | .sum,[.ref a],H,Q=>match H a with
   |some (.lst xs)=>(match ints? xs with|some ns=>Q (.int ns.sum) H|none=>False)
   |_=>False
 | .min2,[.int i,.int j],H,Q=>Q (.int (min i j)) H
 | .max2,[.int i,.int j],H,Q=>Q (.int (max i j)) H
 |_,_,_,_=>False
def xm:V->Hp->VK->Prop
 | .ref a,H,Q=>match H a with
   |some (.lst xs)=>(match ints? xs with|some ns=>Q (nv ns) H|none=>False)
   |_=>False
 |_,_,_=>False
def jH:V->V->Hp->VK->Prop
 | .ref a,.int i,H,Q=>match rd H a with
   |some xs=>(match cF xs i with|some v=>Q v H|none=>False)
   |none=>False
 |_,_,_,_=>False
def rO(K:aD):V->V->Hp->VK->Prop
 | .ref a,.int i,H,Q=>∃xs v,(aG K H a xs\/aP K H a xs)/\cF xs i=some v/\Q v H
 |_,_,_,_=>False
def jx:V->Option Int->Option Int->Hp->VK->Prop
 | .ref a,lo,hi,H,Q=>match H a with
   |some (.lst xs)=>∀p,H p=none->Q (.ref p) (upd H p (.lst (fz xs lo hi)))
   |some (.tup xs)=>¬(HT.bu xs.length 0 lo=0/\HT.bu xs.length xs.length hi=xs.length)/\∀p,H p=none->Q (.ref p) (upd H p (.tup (fz xs lo hi)))
   |_=>False
 |_,_,_,_,_=>False
def Ah(K:aD):V->Option Int->Option Int->Hp->VK->Prop
 | .ref a,lo,hi,H,Q=>∃xs,aG K H a xs/\∀p,H p=none->Q (.ref p) (upd H p (.lst (fz xs lo hi)))
 |_,_,_,_,_=>False
def dX(K:aD)(f:Str):V->Hp->VK->Prop
 | .ref a,H,Q=>match H a with
   |some (.ins C _ fs)=>mw K C/\m7 K C f/\(match fs.lookup f with|some v=>Q v H|none=>False)
   |_=>False
 |_,_,_=>False
def kg:V->V->Hp->VK->Prop
 | .ref a,y,H,Q=>match H a with
   |some (.lst xs)=>xs.length<sizeLine/\Q .az (upd H a (.lst (xs++[y])))
   |_=>False
 |_,_,_,_=>False
def pN:V->V->Hp->VK->Prop
 | .ref a,.ref b,H,Q=>match H a,H b with
   |some (.lst xs),some (.lst zs)=>xs.length+zs.length<=sizeLine/\Q .az (upd H a (.lst (xs++zs)))
   |_,_=>False
 |_,_,_,_=>False
def bJ(K:aD):Tg->TG
 | .name i=>fO i
 | .tup l=>λv σ H Q=>match v with
   | .ref a=>(match H a with
     |some (.tup xs)=>xs.length=l.length/\Q ((l.zip xs).foldl (λs p=>s.set p.1 (some p.2)) σ) H
     |_=>False)
   |_=>False
 | .bad=>λz z z z=>False
mutual
noncomputable def sE(Γ:Ge):E->TE
 | .bad=>λw w w=>False
 | .var i=>λσ H Q=>match σ[i]? with|some (some v)=>Q v H|_=>False
 | .cst v=>λw H Q=>Q v H
 | .b_ j=>λw H Q=>Q (Γ.gv j) H
 | .xM j=>λw H Q=>cond (Γ.lim-j==0) False (Q (.ref (Γ.fa j)) H)
 | .ay o a b=>λσ H Q=>sE Γ a σ H λx H1=>sE Γ b σ H1 λy H2=>c9 o x y H2 Q
 | .neg a=>λσ H Q=>sE Γ a σ H λx H1=>match x with| .int i=>Q (.int (-i)) H1|_=>False
 | .cmp a cs=>λσ H Q=>sE Γ a σ H λx H1=>sC Γ cs x σ H1 Q
 | .bQ a b=>λσ H Q=>sE Γ a σ H λx H1=>match x with| .bl c=>if c=true then sE Γ b σ H1 Q else Q (.bl false) H1|_=>False
 | .iz a b=>λσ H Q=>sE Γ a σ H λx H1=>match x with| .bl c=>if c=true then Q (.bl true) H1 else sE Γ b σ H1 Q|_=>False
 | .bR a=>λσ H Q=>sE Γ a σ H λx H1=>bE x H1 λc H2=>Q (.bl (!c)) H2
 | .eG c a b=>λσ H Q=>sT Γ c σ H λk H1=>if k=true then sE Γ a σ H1 Q else sE Γ b σ H1 Q
 | .call j es=>λσ H Q=>cond (Γ.lim-j==0) False (bz Γ es σ H λvs H1=>Γ.fn j vs H1 Q E0)
 | .pA f es=>λσ H Q=>sE Γ f σ H λx H0=>∃j,x=.ref (Γ.fa j)/\j<Γ.lim/\bz Γ es σ H0 λvs H1=>Γ.fn j vs H1 Q E0
 | .make j es=>λσ H Q=>cond (Γ.ie-j==0) False (bz Γ es σ H λvs H1=>∀x dx,H1 x=none->H1 dx=none->dx≠x->
  Γ.yl j (.ref x::vs) (upd (upd H1 dx (.own x)) x (.ins (Γ.cl j) dx [])) (λv H2=>v=.az/\Q (.ref x) H2) E0)
 | .blt b es=>λσ H Q=>bz Γ es σ H λvs H1=>cu b vs H1 Q
 | .fld a f=>λσ H Q=>sE Γ a σ H λx H1=>dX Γ.K f x H1 Q
 | .ix a b=>λσ H Q=>sE Γ a σ H λx H1=>sE Γ b σ H1 λy H2=>jH x y H2 Q
 | .fX a b=>λσ H Q=>sE Γ a σ H λx H1=>sE Γ b σ H1 λy H2=>rO Γ.K x y H2 Q
 | .yj xs b=>λσ H Q=>sE Γ b σ H λy H2=>match y with| .int i=>(match cF xs i with|some v=>Q v H2|none=>False)|_=>False
 | .xN a=>λσ H Q=>sE Γ a σ H λx H1=>match x with| .ref p=>∃ys,(aG Γ.K H1 p ys\/aP Γ.K H1 p ys)/\Q (.int ys.length) H1|_=>False
 | .sy j b=>λσ H Q=>sE Γ b σ H λy H2=>match y with| .int i=>(match Γ.gd j i with|some v=>Q v H2|none=>False)|_=>False
 | .ve neg a xs=>λσ H Q=>sE Γ a σ H λx H2=>match x with| .int i=>(match ints? xs with|some ns=>Q (.bl (if neg then !decide (i∈ns) else decide (i∈ns))) H2|none=>False)|_=>False
 | .slice a lo hi=>λσ H Q=>sE Γ a σ H λx H1=>sO Γ lo σ H1 λl H2=>sO Γ hi σ H2 λh H3=>jx x l h H3 Q
 | .qY a lo hi=>λσ H Q=>sE Γ a σ H λx H1=>sO Γ lo σ H1 λl H2=>sO Γ hi σ H2 λh H3=>Ah Γ.K x l h H3 Q
 | .tup es=>λσ H Q=>bz Γ es σ H λvs H1=>vs.length<=sizeLine/\∀p,H1 p=none->Q (.ref p) (upd H1 p (.tup vs))
 | .lst es=>λσ H Q=>bz Γ es σ H λvs H1=>vs.length<=sizeLine/\∀p,H1 p=none->Q (.ref p) (upd H1 p (.lst vs))
 | .lc elt t it c own=>eZ (sI Γ it) (bJ Γ.K t) (sT Γ c) (sE Γ elt) own
 | .AY a=>λσ H Q=>sE Γ a σ H λx H1=>xm x H1 Q
 | .AZ a b=>λσ H Q=>sE Γ a σ H λx H1=>sE Γ b σ H1 λy H2=>match x,y with| .int i,.int j=>(-(2^62)<=i/\i<2^62/\ -(2^62)<=j/\j<2^62/\(j-i).toNat<=2^24)/\∀l,H2 l=none->Q (.ref l) (upd H2 l (.lst (ny i (j-i).toNat)))|_,_=>False
 | .app o e=>λσ H Q=>sE Γ o σ H λx H1=>(match x with| .ref a=>(match H1 a with|some (.lst _)=>True|_=>False)|_=>False)/\sE Γ e σ H1 λy H2=>kg x y H2 Q
 | .ext o e=>λσ H Q=>sE Γ o σ H λx H1=>(match x with| .ref a=>(match H1 a with|some (.lst _)=>True|_=>False)|_=>False)/\sE Γ e σ H1 λy H2=>pN x y H2 Q
noncomputable def sT(Γ:Ge):E->TT
 | .bQ a b=>λσ H Q=>sT Γ a σ H λc H1=>if c=true then sT Γ b σ H1 Q else Q false H1
 | .iz a b=>λσ H Q=>sT Γ a σ H λc H1=>if c=true then Q true H1 else sT Γ b σ H1 Q
 | .bR a=>λσ H Q=>sT Γ a σ H λc H1=>Q (!c) H1
 | .eG c a b=>λσ H Q=>sT Γ c σ H λk H1=>if k=true then sT Γ a σ H1 Q else sT Γ b σ H1 Q
 | .bad=>λw w w=>False
 | .var i=>λσ H Q=>match σ[i]? with|some (some v)=>bE v H Q|_=>False
 | .cst v=>λw H Q=>bE v H Q
 | .b_ j=>λw H Q=>bE (Γ.gv j) H Q
 | .xM j=>λw H Q=>cond (Γ.lim-j==0) False (bE (.ref (Γ.fa j)) H Q)
 | .ay o a b=>λσ H Q=>sE Γ a σ H λx H1=>sE Γ b σ H1 λy H2=>c9 o x y H2 λz H9=>bE z H9 Q
 | .neg a=>λσ H Q=>sE Γ a σ H λx H1=>match x with| .int i=>bE (.int (-i)) H1 Q|_=>False
 | .cmp a cs=>λσ H Q=>sE Γ a σ H λx H1=>sC Γ cs x σ H1 λz H9=>bE z H9 Q
 | .call j es=>λσ H Q=>cond (Γ.lim-j==0) False (bz Γ es σ H λvs H1=>Γ.fn j vs H1 (λz H9=>bE z H9 Q) E0)
 | .pA f es=>λσ H Q=>sE Γ f σ H λx H0=>∃j,x=.ref (Γ.fa j)/\j<Γ.lim/\bz Γ es σ H0 λvs H1=>Γ.fn j vs H1 (λz H9=>bE z H9 Q) E0
 | .make j es=>λσ H Q=>cond (Γ.ie-j==0) False (bz Γ es σ H λvs H1=>∀x dx,H1 x=none->H1 dx=none->dx≠x->
  Γ.yl j (.ref x::vs) (upd (upd H1 dx (.own x)) x (.ins (Γ.cl j) dx [])) (λv H2=>v=.az/\bE (.ref x) H2 Q) E0)
 | .blt b es=>λσ H Q=>bz Γ es σ H λvs H1=>cu b vs H1 λz H9=>bE z H9 Q
 | .fld a f=>λσ H Q=>sE Γ a σ H λx H1=>dX Γ.K f x H1 λz H9=>bE z H9 Q
 | .ix a b=>λσ H Q=>sE Γ a σ H λx H1=>sE Γ b σ H1 λy H2=>jH x y H2 λz H9=>bE z H9 Q
 | .fX a b=>λσ H Q=>sE Γ a σ H λx H1=>sE Γ b σ H1 λy H2=>rO Γ.K x y H2 λz H9=>bE z H9 Q
 | .yj xs b=>λσ H Q=>sE Γ b σ H λy H2=>match y with| .int i=>(match cF xs i with|some v=>bE v H2 Q|none=>False)|_=>False
 | .xN a=>λσ H Q=>sE Γ a σ H λx H1=>match x with| .ref p=>∃ys,(aG Γ.K H1 p ys\/aP Γ.K H1 p ys)/\bE (.int ys.length) H1 Q|_=>False
 | .sy j b=>λσ H Q=>sE Γ b σ H λy H2=>match y with| .int i=>(match Γ.gd j i with|some v=>bE v H2 Q|none=>False)|_=>False
 | .ve neg a xs=>λσ H Q=>sE Γ a σ H λx H2=>match x with| .int i=>(match ints? xs with|some ns=>bE (.bl (if neg then !decide (i∈ns) else decide (i∈ns))) H2 Q|none=>False)|_=>False
 | .slice a lo hi=>λσ H Q=>sE Γ a σ H λx H1=>sO Γ lo σ H1 λl H2=>sO Γ hi σ H2 λh H3=>jx x l h H3 λz H9=>bE z H9 Q
 | .qY a lo hi=>λσ H Q=>sE Γ a σ H λx H1=>sO Γ lo σ H1 λl H2=>sO Γ hi σ H2 λh H3=>Ah Γ.K x l h H3 λz H9=>bE z H9 Q
 | .tup es=>λσ H Q=>bz Γ es σ H λvs H1=>vs.length<=sizeLine/\∀p,H1 p=none->bE (.ref p) (upd H1 p (.tup vs)) Q
 | .lst es=>λσ H Q=>bz Γ es σ H λvs H1=>vs.length<=sizeLine/\∀p,H1 p=none->bE (.ref p) (upd H1 p (.lst vs)) Q
 | .lc elt t it c own=>λσ H Q=>eZ (sI Γ it) (bJ Γ.K t) (sT Γ c) (sE Γ elt) own σ H λz H9=>bE z H9 Q
 | .AY a=>λσ H Q=>sE Γ a σ H λx H1=>xm x H1 λz H9=>bE z H9 Q
 | .AZ a b=>λσ H Q=>sE Γ a σ H λx H1=>sE Γ b σ H1 λy H2=>match x,y with| .int i,.int j=>(-(2^62)<=i/\i<2^62/\ -(2^62)<=j/\j<2^62/\(j-i).toNat<=2^24)/\∀l,H2 l=none->bE (.ref l) (upd H2 l (.lst (ny i (j-i).toNat))) Q|_,_=>False
 | .app o e=>λσ H Q=>sE Γ o σ H λx H1=>(match x with| .ref a=>(match H1 a with|some (.lst _)=>True|_=>False)|_=>False)/\sE Γ e σ H1 λy H2=>kg x y H2 λz H9=>bE z H9 Q
 | .ext o e=>λσ H Q=>sE Γ o σ H λx H1=>(match x with| .ref a=>(match H1 a with|some (.lst _)=>True|_=>False)|_=>False)/\sE Γ e σ H1 λy H2=>pN x y H2 λz H9=>bE z H9 Q
noncomputable def sC(Γ:Ge):Cs->V->TE
 | .one op b=>λx σ H Q=>sE Γ b σ H λy H1=>dW op x y H1 Q
 | .more op b r=>λx σ H Q=>sE Γ b σ H λy H1=>dW op x y H1 λz H2=>match z with| .bl k=>if k=true then sC Γ r y σ H2 Q else Q (.bl false) H2|_=>False
noncomputable def bz(Γ:Ge):Es->TA
 | .nil=>λw H Q=>Q [] H
 | .cons e es=>λσ H Q=>sE Γ e σ H λx H1=>bz Γ es σ H1 λxs H2=>Q (x::xs) H2
noncomputable def sO(Γ:Ge):Eo->TO
 | .none=>λw H Q=>Q none H
 | .some e=>λσ H Q=>sE Γ e σ H λx H1=>match x with| .int i=>Q (some i) H1|_=>False
noncomputable def sI(Γ:Ge):iu->TI
 | .bad=>λw w w=>False
 | .seq e=>λσ H R=>sE Γ e σ H λx H1=>match x with| .ref a=>(∃xs,aG Γ.K H1 a xs/\R (kY Γ.K a) H1)\/(∃xs,aP Γ.K H1 a xs/\R (rY Γ.K a) H1)|_=>False
 | .jd a=>λσ H R=>sE Γ a σ H λx H1=>match x with| .int j=>(-(2^62)<=j/\j<2^62)/\R (L2.iu 0 j.toNat) H1|_=>False
 | .pM a b=>λσ H R=>sE Γ a σ H λx H1=>sE Γ b σ H1 λy H2=>match x,y with| .int i,.int j=>(-(2^62)<=i/\i<2^62/\ -(2^62)<=j/\j<2^62)/\R (L2.iu i (j-i).toNat) H2|_,_=>False
 | .Ik a b c=>λσ H R=>sE Γ a σ H λx H1=>sE Γ b σ H1 λy H2=>sE Γ c σ H2 λz H3=>match x,y,z with| .int i,.int j,.int c=>∃n,IU i j c n/\R (BD i c n) H3|_,_,_=>False
 | .enum e=>λσ H R=>sE Γ e σ H λx H1=>match x with| .ref a=>(∃xs,aG Γ.K H1 a xs/\R (nJ Γ.K a) H1)\/(∃xs,aP Γ.K H1 a xs/\R (l5 Γ.K a 0) H1)|_=>False
 | .HX e=>λσ H R=>sE Γ e σ H λx H1=>match x with| .ref a=>∃xs,aP Γ.K H1 a xs/\R (l5 Γ.K a 1) H1|_=>False
 | .zip a b=>λσ H R=>sE Γ a σ H λx H1=>sE Γ b σ H1 λy H2=>match x,y with| .ref p,.ref q=>∃B xs ys,aP Γ.K H2 p xs/\nM B Γ.K H2 q ys/\R (xK B Γ.K p q) H2|_,_=>False
end
def rA:V->V->V->Hp->(Hp->Prop)->Prop
 | .ref p,.int k,v,H,Q=>match H p with
   |some (.lst xs)=>(match iS xs.length k with|some j=>Q (upd H p (.lst (xs.set j v)))|none=>False)
   |_=>False
 |_,_,_,_,_=>False
def pC(K:aD)(f:Str):V->V->Hp->(Hp->Prop)->Prop
 | .ref a,y,H,Q=>match H a with
   |some (.ins C dx fs)=>mw K C/\m7 K C f/\fs.length<1000/\Q (upd H a (.ins C dx (dU f y fs)))
   |_=>False
 |_,_,_,_=>False
mutual
noncomputable def sS(Γ:Ge):S->TS
 | .bad=>λw w w=>False
 | .set i e=>λD σ H=>sE Γ e σ H λx H1=>D.nx (σ.set i (some x)) H1
 | .ret e=>λD σ H=>sE Γ e σ H D.rt
 | .Qs=>λD w H=>D.rt .az H
 | .ifs c a b=>λD σ H=>sT Γ c σ H λk H1=>if k=true then ak Γ a D σ H1 else ak Γ b D σ H1
 | .yk c b=>OU (sT Γ c) (ak Γ b)
 | .cU t it b=>gf (sI Γ it) (bJ Γ.K t) (ak Γ b)
 | .ex e=>λD σ H=>sE Γ e σ H λw H1=>D.nx σ H1
 | .dI o f e=>λD σ H=>sE Γ e σ H λy H1=>sE Γ o σ H1 λx H2=>pC Γ.K f x y H2 λH3=>D.nx σ H3
 | .rN o i e=>λD σ H=>sE Γ e σ H λy H1=>sE Γ o σ H1 λx H2=>sE Γ i σ H2 λk H3=>rA x k y H3 λH4=>D.nx σ H4
 | .aug i op e=>λD σ H=>match σ[i]? with|some (some x)=>sE Γ e σ H λy H1=>(match x,y with| .int _,.int _=>c9 op x y H1 λz H2=>D.nx (σ.set i (some z)) H2|_,_=>False)|_=>False
 | .pass=>λD σ H=>D.nx σ H
 | .brk=>λD σ H=>D.bk σ H
 | .cnt=>λD σ H=>D.ct σ H
noncomputable def ak(Γ:Ge):Ss->TS
 | .nil=>λD σ H=>D.nx σ H
 | .cons s ss=>λD σ H=>sS Γ s {D with nx:=ak Γ ss D} σ H
end
end Mini
namespace Mini
open PySem PySem.Spec PyProof.Rows L2
structure Cfg where
 consts:List (Str×V)
 iN:List (Str×List V)
 rB:List Str
 fns:List Str
 rP:List Str
 kv:List Nat
 rQ:List Str
noncomputable def idx(x:Str):List Str->Option Nat
 |[]=>none
 |y::l=>if y=x then some 0 else (idx x l).map (·+1)
theorem oM:∀{l:List Str}{i:Nat},idx x l=some i->l[i]?=some x
 |[],_,h=>by cases h
 |y::l,i,h=>by
  unfold idx at h;split at h
  ·rename_i e;cases h;simp[e]
  ·cases e:idx x l with
   |none=>rw[e] at h;cases h
   |some j=>rw[e] at h;cases h;simpa using oM e
noncomputable def ja(sc:bN)(x:Str):Bool:=match sc.names.lookup x with
 |some .local=>true|some .cell=>true|some .free=>true|_=>false
noncomputable def je(sc:bN)(x:Str):Bool:=match sc.names.lookup x with
 |some .globalImplicit=>true|_=>false
noncomputable def kP(x:Str):Bool:= !(x==("__debug__":Str))&& !(x==("__classdict__":Str))&& !(x==("__name__":Str))
noncomputable def oZ(c:Cfg)(N:List Str)(sc:bN)(x:Str):E:=
 if kP x=false then .bad else
 if ja sc x=true then (match idx x N with|some i=>.var i|none=>.bad) else
 if je sc x=true then (match c.consts.lookup x with
  |some v=>.cst v
  |none=>match idx x c.rB with|some j=>.b_ j|none=>match idx x c.fns with|some j=>.xM j|none=>.bad) else .bad
noncomputable def noStar:List aN->Bool
 |[]=>true
 | .Starred _ _::_=>false
 |_::l=>noStar l
noncomputable def oF:aN->Bool
 | .Call _ [] _ _=>false
 |_=>true
noncomputable def notStar:aN->Bool
 | .Starred _ _=>false
 |_=>true
noncomputable def tZ:aN->Bool
 | .Slice _ _ _ _=>false
 |_=>true
noncomputable def AD:NK->Option yi
 | .Add=>some .add| .Sub=>some .sub| .Mult=>some .mul| .FloorDiv=>some .fdiv| .Mod=>some .mod| .LShift=>some .shl| .RShift=>some .shr| .BitAnd=>some .band| .BitOr=>some .bor|_=>none
noncomputable def AE:xA->BJ
 | .Eq=>.eq| .NotEq=>.ne| .Lt=>.lt| .LtE=>.le| .Gt=>.gt| .GtE=>.ge| .In=>.BK| .NotIn=>.HW| .Is=>.vd| .IsNot=>.pL
noncomputable def Il(x:Str)(n:Nat):Option I_:=
 if x="len"/\n=1 then some .len else if x="list"/\n=1 then some .list else if x="tuple"/\n=1 then some .tuple else
 if x="any"/\n=1 then some .any else if x="all"/\n=1 then some .all else if x="min"/\n=2 then some .min2 else if x="max"/\n=2 then some .max2 else if x="sum"/\n=1 then some .sum else none
noncomputable def A6(sc:bN):List aN->Option (aN×aN)
 |[.Call (.Name y _) [a,b] [] _]=>if y="range"/\noStar [a,b]=true/\ja sc y=false/\je sc y=true then some (a,b) else none
 |_=>none
noncomputable def pD(c:Cfg)(sc:bN):aN->Option (List V)
 | .Name x _=>if kP x=true/\ja sc x=false/\je sc x=true then c.iN.lookup x else none
 |_=>none
noncomputable def xo(c:Cfg)(sc:bN):aN->Option Nat
 | .Name x _=>if kP x=true/\ja sc x=false/\je sc x=true then idx x c.rQ else none
 |_=>none
noncomputable def AF(c:Cfg)(N:List Str):aN->Bool
 | .Name x _=>match idx x N with|some i=>decide (i∈c.kv)|none=>false
 |_=>false
noncomputable def agU(c:Cfg)(N:List Str):List aN->Bool
 |[a]=>AF c N a
 |_=>false
noncomputable def O1(aC:Bool)(sc:bN)(x:Str):Bool:=match sc.names.lookup x with
 |some .local=>true|some .cell=>aC|_=>false
noncomputable def j7(aC:Bool)(N:List Str)(sc:bN)(x:Str):Option Nat:=if O1 aC sc x=true then idx x N else none
noncomputable def AG(aC:Bool)(N:List Str)(sc:bN):List aN->Option (List Nat)
 |[]=>some []
 | .Name x _::l=>match j7 aC N sc x,AG aC N sc l with
   |some i,some r=>some (i::r)
   |_,_=>none
 |_=>none
noncomputable def nA(aC:Bool)(N:List Str)(sc:bN):aN->Tg
 | .Name x _=>match j7 aC N sc x with|some i=>.name i|none=>.bad
 | .Tuple es _ _=>match AG aC N sc es with|some l=>.tup l|none=>.bad
 |_=>.bad
noncomputable def jy:aN->Bool
 | .Tuple _ _ _=>true
 |_=>false
noncomputable def ownOf(N:List Str)(scope:bN):List (Str×Nat):=scope.names.filterMap λp=>match p.2 with
 | .local=>(idx p.1 N).map λi=>(p.1,i)
 | .cell=>(idx p.1 N).map λi=>(p.1,i)
 |_=>none
mutual
noncomputable def aH(c:Cfg)(N:List Str):Nat->bN->aN->E
 |0,_,_=>.bad
 |n+1,sc,e=>match e with
  | .Name x _=>oZ c N sc x
  | .Constant (.int i) _ _=>.cst (.int i)
  | .Constant (.bool b) _ _=>.cst (.bl b)
  | .Constant .none _ _=>.cst .az
  | .BinOp a op b _=>match AD op with
    |some o=>.ay o (aH c N n sc a) (aH c N n sc b)
    |none=>.bad
  | .UnaryOp .USub a _=>.neg (aH c N n sc a)
  | .UnaryOp .Not a _=>.bR (aH c N n sc a)
  | .BoolOp op vs _=>ym c N n sc op vs
  | .IfExp t a b _=>.eG (aH c N n sc t) (aH c N n sc a) (aH c N n sc b)
  | .Compare a ops bs _=>if wc ops bs=true\/ops.length≠bs.length then .bad else (match ops,bs with
    |[.In],[b]=>(match pD c sc b with|some xs=>.ve false (aH c N n sc a) xs|none=>.cmp (aH c N n sc a) (pX c N n sc ops bs))
    |[.NotIn],[b]=>(match pD c sc b with|some xs=>.ve true (aH c N n sc a) xs|none=>.cmp (aH c N n sc a) (pX c N n sc ops bs))
    |_,_=>.cmp (aH c N n sc a) (pX c N n sc ops bs))
  | .Call (.Name x p) args [] _=>
    if noStar args=false then .bad else if kP x=false then .bad else
    if ja sc x=true then (if args.length=0 then .bad else .pA (oZ c N sc x) (iO c N n sc args)) else
    if je sc x=false then .bad else
    match idx x c.fns with
    |some j=>.call j (iO c N n sc args)
    |none=>match idx x c.rP with
     |some j=>.make j (iO c N n sc args)
     |none=>match Il x args.length with
      |some b=>if x="len"/\agU c N args=true then (match args with|[a]=>.xN (aH c N n sc a)|_=>.bad) else (match A6 sc args with
       |some (a,d)=>if x="list" then .AZ (aH c N n sc a) (aH c N n sc d) else .bad
       |none=>.blt b (iO c N n sc args))
      |none=>.bad
  | .Call (.Name x _) [a] [⟨some nm,.Constant .none _ _,_⟩] _=>if (noStar [a]&&je sc x&& !ja sc x)=false then .bad else if x="min"/\nm="default" then .AY (aH c N n sc a) else .bad
  | .Call (.Attribute o m ap) [a] [] cp=>if (oF o&&notStar a&&(ap.endLine==cp.line))=false then .bad else
    if m="append" then .app (aH c N n sc o) (aH c N n sc a) else if m="extend" then .ext (aH c N n sc o) (aH c N n sc a) else .bad
  | .Attribute a f _=>if oF a=true then .fld (aH c N n sc a) f else .bad
  | .Subscript a b _=>(match b with
    | .Slice lo hi none _=>if AF c N a=true then .qY (aH c N n sc a) (yo c N n sc lo) (yo c N n sc hi) else .slice (aH c N n sc a) (yo c N n sc lo) (yo c N n sc hi)
    | .Slice _ _ _ _=>.bad
    |_=>match xo c sc a with
     |some j=>.sy j (aH c N n sc b)
     |none=>match pD c sc a with
     |some xs=>.yj xs (aH c N n sc b)
     |none=>if AF c N a=true then .fX (aH c N n sc a) (aH c N n sc b) else .ix (aH c N n sc a) (aH c N n sc b))
  | .Tuple es _ _=>if noStar es=true then .tup (iO c N n sc es) else .bad
  | .List es _=>if noStar es=true then .lst (iO c N n sc es) else .bad
  | .ListComp elt [⟨tg,it,ifs,0⟩] scope _=>
    if nj N sc scope (ownOf N scope)=false then .bad else
    let BL:=jc scope sc
    match nA false N BL tg,ifs with
    |t,[]=>.lc (aH c N n BL elt) t (nO c N n sc (jy tg) it) (.cst (.bl true)) ((ownOf N scope).map (·.2))
    |t,[f]=>.lc (aH c N n BL elt) t (nO c N n sc (jy tg) it) (aH c N n BL f) ((ownOf N scope).map (·.2))
    |_,_=>.bad
  |_=>.bad
noncomputable def ym(c:Cfg)(N:List Str):Nat->bN->BoolOp->List aN->E
 |0,_,_,_=>.bad
 |_,_,_,[]=>.bad
 |n+1,sc,_,[a]=>aH c N n sc a
 |n+1,sc,.And,a::l=>.bQ (aH c N n sc a) (ym c N n sc .And l)
 |n+1,sc,.Or,a::l=>.iz (aH c N n sc a) (ym c N n sc .Or l)
noncomputable def pX(c:Cfg)(N:List Str):Nat->bN->List xA->List aN->Cs
 |n+1,sc,[op],[b]=>.one (AE op) (aH c N n sc b)
 |n+1,sc,op::ops,b::bs=>.more (AE op) (aH c N n sc b) (pX c N n sc ops bs)
 |_,_,_,_=>.one .eq .bad
noncomputable def iO(c:Cfg)(N:List Str):Nat->bN->List aN->Es
 |n+1,sc,a::l=>.cons (aH c N n sc a) (iO c N n sc l)
 |0,_,_::_=>.cons .bad .nil
 |_,_,[]=>.nil
noncomputable def yo(c:Cfg)(N:List Str):Nat->bN->Option aN->Eo
 |n+1,sc,some a=>.some (aH c N n sc a)
 |0,_,some _=>.some .bad
 |_,_,none=>.none
noncomputable def nO(c:Cfg)(N:List Str):Nat->bN->Bool->aN->iu
 |0,_,_,_=>.bad
 |n+1,sc,tup,e=>match e with
  | .Call (.Name x _) args [] _=>if noStar args=false then .bad else
    if (je sc x&& !ja sc x)=true then (
     if x="range" then (match args with
      |[a]=>.jd (aH c N n sc a)
      |[a,b]=>.pM (aH c N n sc a) (aH c N n sc b)
      |[a,b,d]=>.Ik (aH c N n sc a) (aH c N n sc b) (aH c N n sc d)
      |_=>.bad)
     else if x="enumerate" then (match args with
      |[a]=>if tup=true then .enum (aH c N n sc a) else .bad
      |_=>.bad)
     else if x="zip" then (match args with
      |[a,b]=>if tup=true then .zip (aH c N n sc a) (aH c N n sc b) else .bad
      |_=>.bad)
     else .seq (aH c N n sc e)) else .bad
  | .Call (.Name x _) [a] [⟨some nm,.Constant (.int 1) _ _,_⟩] _=>if (noStar [a]&&tup&&je sc x&& !ja sc x)=false then .bad else if x="enumerate"/\nm="start" then .HX (aH c N n sc a) else .bad
  | .Set _ _ _=>.bad
  |e=>.seq (aH c N n sc e)
end
end Mini
namespace Mini
open PySem PySem.Spec PyProof.Rows L2
section ops
variable{X:Cx}
set_option hygiene false in
local macro_rules|`(tactic|tm_at "x")=>`(tactic|((cases x<;>try exact(show False from q).elim);all_goals (cases y<;>try exact(show False from q).elim)))
theorem t9(K:aD)(h:rd H a=some xs):aG K H a xs\/aP K H a xs:=by
 unfold rd at h;split at h
 ·rename_i e;cases h;exact .inl (.inl (.inl e))
 ·rename_i e;cases h;exact .inr (.inl (.inl e))
 ·rename_i e;cases h;exact .inl (.inl (.inr ⟨_,e⟩))
 ·cases h
theorem ints_of(h:ints? xs=some ns):xs=ns.map V.int:=by
 induction xs generalizing ns with
 |nil=>cases h;rfl
 |cons x l ih=>
  cases x<;>simp only[ints?] at h<;>try (cases h;done)
  cases e:ints? l with
  |none=>rw[e] at h;cases h
  |some ms=>rw[e] at h;cases h;rw[ih e];rfl
theorem Od(h:pB xs=some ns):xs=ns.map V.bl:=by
 induction xs generalizing ns with
 |nil=>cases h;rfl
 |cons x l ih=>
  cases x<;>simp only[pB] at h<;>try (cases h;done)
  cases e:pB l with
  |none=>rw[e] at h;cases h
  |some ms=>rw[e] at h;cases h;rw[ih e];rfl
theorem br.imp(h:br X f r)(i:∀x y H Q,r' x y H Q->r x y H Q):br X f r':=
 λpins s σ H x y v u Q I rx ry q=>h pins s σ H x y v u Q I rx ry (i _ _ _ _ q)
theorem agV(o:NK)(b:yi)(h:AD o=some b):br X (binaryOp o) (c9 b):=by
 cases o<;>simp only[AD] at h<;>cases h
 ·refine br.imp (br.or agk agF) λx y H Q q=>?_
  tm_at "x"
  all_goals (delta c9 at q;try dsimp only at q)
  ·exact .inl ⟨_,_,rfl,rfl,q⟩
  ·split at q
   ·rename_i e1 e2;exact .inr ⟨_,_,_,_,rfl,rfl,e1,e2,q.1,q.2⟩
   ·exact q.elim
 ·refine br.imp agl λx y H Q q=>?_
  tm_at "x"
  all_goals (delta c9 at q;try dsimp only at q)
  exact⟨_,_,rfl,rfl,q⟩
 ·refine br.imp (br.or agm agG) λx y H Q q=>?_
  tm_at "x"
  all_goals (delta c9 at q;try dsimp only at q)
  ·exact .inl ⟨_,_,rfl,rfl,q.1,q.2⟩
  ·split at q
   ·rename_i e1;exact .inr ⟨_,_,_,rfl,rfl,e1,q.1.1,q.1.2.1,q.1.2.2,q.2⟩
   ·exact q.elim
 ·refine br.imp agn λx y H Q q=>?_
  tm_at "x"
  all_goals (delta c9 at q;try dsimp only at q)
  exact⟨_,_,rfl,rfl,q.1,q.2⟩
 ·refine br.imp ago λx y H Q q=>?_
  tm_at "x"
  all_goals (delta c9 at q;try dsimp only at q)
  exact⟨_,_,rfl,rfl,q.1,q.2⟩
 ·refine br.imp agp λx y H Q q=>?_
  tm_at "x"
  all_goals (delta c9 at q;try dsimp only at q)
  exact⟨_,_,rfl,rfl,q.1,q.2⟩
 ·refine br.imp ah_ λx y H Q q=>?_
  tm_at "x"
  all_goals (delta c9 at q;try dsimp only at q)
  exact⟨_,_,rfl,rfl,q⟩
 ·refine br.imp agq λx y H Q q=>?_
  tm_at "x"
  all_goals (delta c9 at q;try dsimp only at q)
  exact⟨_,_,rfl,rfl,q⟩
 ·refine br.imp aeL λx y H Q q=>?_
  tm_at "x"
  all_goals (delta c9 at q;try dsimp only at q)
  exact⟨_,_,rfl,rfl,q.1,q.2⟩
theorem Hj(i:Int)(ns:List Int):Bw (.int i) (ns.map V.int)=decide (i∈ns):=by
 unfold Bw
 induction ns with
 |nil=>rfl
 |cons n l ih=>
  rw[aV,lE,ih]
  by_cases h:n=i
  ·subst h;simp[mz]
  ·have h':¬i=n:=λe=>h e.symm
   simp[mz,h,h']
theorem Gq(ns:List Int):(ns.map V.int).all nc=true:=by
 induction ns with
 |nil=>rfl
 |cons n l ih=>rw[aV,kJ,ih];rfl
theorem lay_ints(ns:List Int):C5 (ns.map jt)=true:=by
 induction ns with
 |nil=>rfl
 |cons n l ih=>rw[aV];simp only[C5,Ek,ih,X9]
theorem FQ(ns:List Int):KQ (ns.map jt)=0:=by
 induction ns with
 |nil=>rfl
 |cons n l ih=>rw[aV];simp only[KQ,E1,ih,Nat.max_self]
theorem shaped_ints(ns:List Int):EZ (.tuple (ns.map jt))=true:=by
 unfold EZ;simp only[Ek,E1,lay_ints,FQ];decide
theorem wH(K:aD)(H:Hp):∀ns:List Int,pq K H (ns.map V.int) (ns.map jt)
 |[]=>.nil
 |n::l=>.cons (.int n) (wH K H l)
theorem Nf:∀(ns ms:List Int),zb (ns.map jt) (ms.map jt)=decide (ns=ms)
 |[],[]=>by simp[zb]
 |[],m::ms=>by simp[zb]
 |n::ns,[]=>by simp[zb]
 |n::ns,m::ms=>by
  simp only[aV,zb,zA,Nf ns ms,V5,V6]
  by_cases h:n=m
  ·subst h;simp
  ·simp[h]
theorem Oe(ns ms:List Int):zA (.tuple (ns.map jt)) (.tuple (ms.map jt))=decide (ns=ms):=by
 simp only[zA,Nf]
theorem adF(rs:List (List Int)):C5 (rs.map λns=>ze (ns.map jt))=true:=by
 induction rs with
 |nil=>rfl
 |cons n l ih=>rw[aV];simp only[C5,Ek,ih,lay_ints,X9]
theorem any_rows(ns:List Int)(rs:List (List Int)):((rs.map λns=>ze (ns.map jt)).any λy=>zA y (.tuple (ns.map jt)))=decide (ns∈rs):=by
 induction rs with
 |nil=>rfl
 |cons n l ih=>
  rw[aV,lE,ih,Oe]
  by_cases h:n=ns
  ·subst h;simp
  ·have h':¬ns=n:=λe=>h e.symm
   simp[h,h']
set_option tactic.hygienic true in
theorem Og(K:aD):∀{ys:List V}{rs:List (List Int)},rows? H ys=some rs->pq K H ys (rs.map λns=>ze (ns.map jt))
 |[],rs,h=>by cases h;exact .nil
 |y::ys,rs,h=>by
  cases y<;>simp only[rows?] at h<;>try (cases h;done)
  split at h
  ·rename_i xs e1
   split at h
   ·rename_i ns r e2 e3
    cases h;have e:=ints_of e2;subst e;exact .cons (.tup (aP.of e1) (wH K H ns)) (Og K e3)
   ·cases h
  ·cases h
theorem aaK(hu:X.A.units+64<xx):br X (compareOp .In) (λx y H Q=>∃a b ns ys rs,x=.ref a/\y=.ref b/\H a=some (.tup (ns.map V.int))/\H b=some (.lst ys)/\rows? H ys=some rs/\Q (.bl (decide (ns∈rs))) H):=by
 intro pins s σ H x y v u Q I rx ry h;obtain⟨a,b,ns,ys,rs,rfl,rfl,ha,hb,hr,q⟩:=h;obtain⟨as,r1⟩:=Dp.reads I _ _ v (Dp.tup (aP.of ha) (wH X.K H ns)) rx;obtain⟨bs,r2⟩:=Dp.reads I _ _ u (Dp.lst (aG.of hb) (Og X.K hr)) ry;refine SeqAt.in_list_reads r2 r1 (adF rs) (by simp only[Ek,lay_ints]) ?_ (by rw[any_rows];exact⟨.bl _,H,I,rfl,q⟩);have:=U6 (KQ (rs.map λns=>ze (ns.map jt))) (ze (ns.map jt)).depth;simp only[E1,FQ] at this;simp only[E1,FQ];lia
set_option tactic.hygienic true in
theorem Ar(hu:X.A.units+64<xx)(o:xA):br X (compareOp o) (dW (AE o)):=by
 cases o<;>simp only[AE]
 ·refine br.imp (br.or aia (agK hu)) λx y H Q q=>?_
  tm_at "x"
  all_goals (delta dW at q;try dsimp only at q)
  ·refine .inl ⟨rfl,?_⟩
   simpa using q
  ·split at q
   ·rename_i e1 e2
    split at q
    ·rename_i ns ms e3 e4
     have e3:=ints_of e3;have e4:=ints_of e4;subst e3 e4;exact .inr ⟨_,_,.tup (aP.of e1) (wH _ _ _),.tup (aP.of e2) (wH _ _ _),shaped_ints _,shaped_ints _,by rw[Oe];exact q⟩
    ·exact q.elim
   ·exact q.elim
 ·refine br.imp aib λx y H Q q=>?_
  tm_at "x"
  all_goals (delta dW at q;try dsimp only at q)
  refine⟨rfl,?_⟩;simpa using q
 ·refine br.imp aic λx y H Q q=>?_
  tm_at "x"
  all_goals (delta dW at q;try dsimp only at q)
  exact⟨_,_,rfl,rfl,q⟩
 ·refine br.imp aid λx y H Q q=>?_
  tm_at "x"
  all_goals (delta dW at q;try dsimp only at q)
  exact⟨_,_,rfl,rfl,q⟩
 ·refine br.imp aie λx y H Q q=>?_
  tm_at "x"
  all_goals (delta dW at q;try dsimp only at q)
  exact⟨_,_,rfl,rfl,q⟩
 ·refine br.imp aif λx y H Q q=>?_
  tm_at "x"
  all_goals (delta dW at q;try dsimp only at q)
  exact⟨_,_,rfl,rfl,q⟩
 ·refine br.imp ags λx y H Q q=>?_
  cases y<;>try exact(show False from q).elim
  all_goals (delta dW at q;try dsimp only at q)
  exact⟨rfl,q⟩
 ·refine br.imp aeM λx y H Q q=>?_
  cases y<;>try exact(show False from q).elim
  all_goals (delta dW at q;try dsimp only at q)
  exact⟨rfl,q⟩
 ·refine br.imp (br.or Ms (aaK hu)) λx y H Q q=>?_
  tm_at "x"
  all_goals (delta dW at q;try dsimp only at q)
  ·split at q
   ·rename_i ys e1
    split at q
    ·rename_i ns e2
     have e2:=ints_of e2;subst e2;refine .inl ⟨_,_,rfl,t9 X.K e1,rfl,Gq ns,?_⟩;rw[Hj];exact q
    ·exact q.elim
   ·exact q.elim
  ·split at q
   ·rename_i e1 e2
    split at q
    ·rename_i ns rs e3 e4
     have e3:=ints_of e3;subst e3;exact .inr ⟨_,_,_,_,_,rfl,rfl,e1,e2,e4,q⟩
    ·exact q.elim
   ·exact q.elim
 ·refine br.imp Lc λx y H Q q=>?_
  tm_at "x"
  all_goals (delta dW at q;try dsimp only at q)
  ·split at q
   ·rename_i ys e1
    split at q
    ·rename_i ns e2
     have e2:=ints_of e2;subst e2;refine⟨_,_,rfl,t9 X.K e1,rfl,Gq ns,?_⟩;rw[Hj];exact q
    ·exact q.elim
   ·exact q.elim
set_option tactic.hygienic true in
theorem Hl:Qe X bE:=by
 intro pins s σ H x v Q I rx h;refine agt pins s σ H x v Q I rx ?_;cases x<;>try exact(show False from h).elim
 all_goals (delta bE at h;try dsimp only at h)
 ·exact⟨_,rfl,h⟩
 ·exact⟨_,rfl,h⟩
 ·refine⟨_,rfl,?_⟩
  rename_i i;have e:(i !=0)= !decide (i=0):=by by_cases z:i=0<;>simp[z]
  rw[e];exact h
 ·split at h
  ·rename_i xs e
   rcases t9 X.K e with e|e
   ·exact⟨_,.inl ⟨xs,e,rfl⟩,h⟩
   ·exact⟨_,.inr (.inl ⟨xs,e,rfl⟩),h⟩
  ·exact h.elim
theorem fm.imp(h:fm X f r)(i:∀vs H Q,r' vs H Q->r vs H Q):fm X f r':=
 λpins s σ H xs us Q I rx q=>h pins s σ H xs us Q I rx (i _ _ _ q)
theorem iw.imp(h:iw X r)(i:∀x y H Q,r' x y H Q->r x y H Q):iw X r':=
 by
 intro pins s σ H
 intros
 apply h<;>first|assumption|(apply i;assumption)
set_option tactic.hygienic true in
theorem aiu:iw X Mini.jH:=by
 refine iw.imp (iw.or N3 HL) λx y H Q q=>?_
 tm_at "x"
 all_goals (delta Mini.jH at q;try dsimp only at q)
 split at q
 ·rename_i xs e
  split at q
  ·rename_i v e2
   rcases t9 X.K e with e|e
   ·exact .inl ⟨_,_,_,_,rfl,rfl,e,e2,q⟩
   ·exact .inr ⟨_,_,_,_,rfl,rfl,e,e2,q⟩
  ·exact q.elim
 ·exact q.elim
theorem agW:iw X (rO X.K):=by
 refine iw.imp (iw.or N3 HL) λx y H Q q=>?_
 tm_at "x"
 all_goals (delta rO at q;try dsimp only at q)
 obtain⟨xs,v,e|e,e2,q⟩:=q
 ·exact .inl ⟨_,_,_,_,rfl,rfl,e,e2,q⟩
 ·exact .inr ⟨_,_,_,_,rfl,rfl,e,e2,q⟩
theorem iR.imp(h:iR X r)(i:∀x l u H Q,r' x l u H Q->r x l u H Q):iR X r':=by
 intro pins s σ H
 intros
 apply h<;>first|assumption|(apply i;assumption)
theorem aiv:iR X jx:=by
 refine iR.imp (iR.or N4 agA) λx l u H Q q=>?_;cases x<;>try exact(show False from q).elim
 all_goals (delta jx at q;try dsimp only at q)
 split at q
 ·rename_i e;exact .inl ⟨_,_,rfl,aG.of e,q⟩
 ·rename_i e;exact .inr ⟨_,_,rfl,aP.of e,q.1,q.2⟩
 ·exact q.elim
theorem agX:iR X (Ah X.K):=by
 refine iR.imp N4 λx l u H Q q=>?_;cases x<;>try exact(show False from q).elim
 all_goals (delta Ah at q;try dsimp only at q)
 obtain⟨xs,e,q⟩:=q;exact⟨_,_,rfl,e,q⟩
end ops
theorem xq(h:j<n):(n-j==0)=false:=by
 rw[beq_eq_false_iff_ne];grind
theorem HY(h:¬j<n):(n-j==0)=true:=by
 rw[beq_iff_eq];simp_all
noncomputable def zS:List Str:=["len","list","tuple","any","all","min","max","range","enumerate","zip","sum"]
structure FnAt(P:bL)(w:aR)(K:aD)(mg:Str->Option Value)(base:aS)(A:cK)(f:Addr)(sp:Sp):Prop where
 ex:∃(k:Nat)(fd:gY)(ps:List Str),eF P w K mg base iy k f fd ps sp/\dD k A/\lA K (.ref f)=true/\Binds K fd ps []
structure ajJ(P:bL)(w:aR)(K:aD)(mg:Str->Option Value)(base:aS)(A:cK)(C:Addr)(sp:Sp):Prop where
 ex:∃(k:Nat)(f:Addr)(fd:gY)(ps:List Str),Mk K C f/\eF P w K mg base iy k f fd ps sp/\dD (k+1) A/\Binds K fd ps []
def AH(P:bL)(w:aR)(K:aD)(a:Addr)(f:Int->Option V):Prop:=∃(o:Obj)(es:Array zN)(ep:Nat),K.lookup a=some o/\o.ExactDict/\o.data=.dict es ep/\KeysOf (HF P w) es/\∀i v,f i=some v->∃u,findBy (HF P w).is es i=some u/\RelV v u
structure Glob(c:Cfg)(Γ:Ge)(P:bL)(w:aR)(K:aD)(mg:Str->Option Value)(base:aS)(A:cK):Prop where
 kk:K=Γ.K
 un:A.units+64<xx
 cst:∀x v,c.consts.lookup x=some v->∃u,mg x=some u/\RelV v u
 gr:∀x j,idx x c.rB=some j->∃u,mg x=some u/\RelV (Γ.gv j) u
 tup:∀x xs,c.iN.lookup x=some xs->∃a,mg x=some (.ref a)/\∀H,aP K H a xs
 fn:∀x j,idx x c.fns=some j->j<Γ.lim->mg x=some (.ref (Γ.fa j))
 fa:∀j,j<Γ.lim->FnAt P w K mg base A (Γ.fa j) (Γ.fn j)
 cls:∀x j,idx x c.rP=some j->j<Γ.ie->mg x=some (.ref (Γ.cl j))
 ca:∀j,j<Γ.ie->ajJ P w K mg base A (Γ.cl j) (Γ.yl j)
 blt:∀x,x∈zS->mg x=none
 gd:∀x j,idx x c.rQ=some j->∃a,mg x=some (.ref a)/\AH P w K a (Γ.gd j)
structure Ctx(c:Cfg)(Γ:Ge)(N:List Str)(aC:Bool)(sc:bN)(X:Cx):Prop where
 nN:X.N=N
 nd:N.Nodup
 sc:X.env.scope=sc
 calm:X.calm=true
 xe:X.xe=λz z=>False
 Q6:aC=true->∀x,X.fn x=true
 g:Glob c Γ X.prog X.w X.K X.mg X.base X.A
section
variable{c:Cfg}{Γ:Ge}{N:List Str}{aC:Bool}{sc:bN}{X:Cx}
theorem adG(h:ja sc x=true):pQ sc x:=by
 unfold ja at h;unfold pQ;split at h<;>first|exact .inl (by assumption)|exact .inr (.inl (by assumption))|exact .inr (.inr (by assumption))|cases h
theorem lS(h:je sc x=true)(hs:X.env.scope=sc):Gl X x:=by
 unfold je at h;unfold Gl Mh;rw[hs];split at h
 ·assumption
 ·cases h
theorem v8(h:kP x=true):(x==("__debug__":Str))=false/\(x==("__classdict__":Str))=false/\x≠"__name__":=by
 unfold kP at h;simp only[bx,Kq] at h;refine⟨h.1.1,h.1.2,λe=>?_⟩;have:=h.2;rw[e] at this;simp at this
theorem PE.bad:PE X e (sE Γ .bad):=λz z z z z z h=>by simp only[sE] at h
theorem PT.bad:PT X e (sT Γ .bad):=λz z z z z z h=>by simp only[sT,sE] at h
theorem PE.imp(h:PE X e t)(i:∀σ H Q,t' σ H Q->t σ H Q):PE X e t':=λpins s σ H Q I q=>h pins s σ H Q I (i _ _ _ q)
theorem PT.imp(h:PT X e t)(i:∀σ H Q,t' σ H Q->t σ H Q):PT X e t':=λpins s σ H Q I q=>h pins s σ H Q I (i _ _ _ q)
theorem adH(h:PE X e t)(he:∀whole,m9 e X.env whole=(do let v ←whole;HG e.pos;holding [v] (truthy v))):PT X e (λσ H Q=>t σ H λx H1=>bE x H1 Q):=by
 intro pins s σ H Q I q;exact isTrue_plain (aJ (h pins s σ H _ I q) λv s1 ⟨x,H1,I1,r1,q1⟩=>Hl pins s1 σ H1 x v Q I1 r1 q1) (he _)
set_option tactic.hygienic true in
theorem Oh(C:Ctx c Γ N aC sc X)(x:Str)(pos:Pos):PE X (.Name x pos) (sE Γ (oZ c N sc x)):=by
 unfold oZ;split
 ·exact PE.bad
 ·rename_i h0
  have h0:kP x=true:=by cases e:kP x with
   |true=>rfl
   |false=>exact absurd e h0
  obtain⟨n1,n2,n3⟩:=v8 h0;split
  ·rename_i hv
   split
   ·rename_i i hi
    refine PE.imp (OQ (i:=i) (by rw[C.nN];exact oM hi) (by rw[C.sc];exact adG hv) n1 n2) λσ H Q q=>?_;simp only[sE] at q;split at q
    ·rename_i v e;exact⟨v,e,q⟩
    ·exact q.elim
   ·exact PE.bad
  ·split
   ·rename_i hg
    split
    ·rename_i v hc
     obtain⟨u,hm,r⟩:=C.g.cst x v hc;exact PE.imp (qN (lS hg C.sc) hm r n1) λσ H Q q=>by simp only[sE] at q;exact q
    ·split
     ·rename_i j hj
      obtain⟨u,hm,r⟩:=C.g.gr x j hj;exact PE.imp (qN (lS hg C.sc) hm r n1) λσ H Q q=>by simp only[sE] at q;exact q
     ·split
      ·rename_i j hj
       by_cases hl:j<Γ.lim
       ·exact PE.imp (qN (v:=.ref (Γ.fa j)) (lS hg C.sc) (C.g.fn x j hj hl) rfl n1) λσ H Q q=>by simp only[sE,xq hl,cond_false] at q;exact q
       ·intro pins s σ H Q I h
        simp only[sE,HY hl,cond_true] at h
      ·exact PE.bad
   ·exact PE.bad
theorem ae5(x:Str):sT Γ (oZ c N sc x)=λσ H Q=>sE Γ (oZ c N sc x) σ H λy H1=>bE y H1 Q:=by
 unfold oZ;split
 ·rfl
 ·split
  ·split<;>rfl
  ·split
   ·split
    ·rfl
    ·split
     ·rfl
     ·split<;>rfl
   ·rfl
theorem jS(h:noStar (e::es)=true)(env:Env):bK (e::es) env=(false,eval e env)::bK es env/\noStar es=true:=by
 cases e<;>first|exact⟨rfl,h⟩|cases h
theorem qE(env:Env):∀{es:List aN},noStar es=true->(gy pos (bK es env)).any (·.1)=false
 |[],_=>rfl
 |e::es,h=>by
  obtain⟨h1,h2⟩:=jS h env;rw[h1];show(false||(gy pos (bK es env)).any (·.1))=false;rw[qE env h2];rfl
theorem Zh{M:xw}{A:cK}{E:Value->ao->Prop}{s:ao}{env:Env}{l:aN}{ops:List xA}{rs:List aN}{pos:Pos}(h:aj M A (eval l env) (λa bI=>aj M A (Lu pos a ops (wA rs env)) Q E bI) E s)(hm:wc ops rs=false):aj M A (eval (.Compare l ops rs pos) env) Q E s:=by
 show aj M A (do Lu pos (←eval l env) ops (markedEach ops rs (wA rs env))) Q E s;rw[Tn _ _ _ hm];exact ai h
theorem adI{M:xw}{A:cK}{E:Value->ao->Prop}{s:ao}{env:Env}{l:aN}{ops:List xA}{rs:List aN}{pos:Pos}{whole:Sem Value}(h:aj M A (eval l env) (λa bI=>aj M A (MX pos a ops (wA rs env)) Q E bI) E s)(hm:wc ops rs=false):aj M A (m9 (.Compare l ops rs pos) env whole) Q E s:=by
 show aj M A (do MX pos (←eval l env) ops (markedEach ops rs (wA rs env))) Q E s;rw[Tn _ _ _ hm];exact ai h
end
section
variable(c:Cfg)(Γ:Ge)(N:List Str)
def nQ(n:Nat):Prop:=∀aC sc X,Ctx c Γ N aC sc X->∀e,PE X e (sE Γ (aH c N n sc e))/\PT X e (sT Γ (aH c N n sc e))
def BN(n:Nat):Prop:=∀aC sc X,Ctx c Γ N aC sc X->∀op vs pos,PE X (.BoolOp op vs pos) (sE Γ (ym c N n sc op vs))/\PW X (.BoolOp op vs pos) (sT Γ (ym c N n sc op vs))
def BO(n:Nat):Prop:=∀aC sc X,Ctx c Γ N aC sc X->∀ops bs pos pins s σ H x v,ops.length=bs.length->Inv X pins σ H s->RelV x v->
 (∀Q,sC Γ (pX c N n sc ops bs) x σ H Q->aj (model X.prog X.w) X.A (Lu pos v ops (wA bs X.env)) (EP X pins σ Q) X.xe s)/\
 (∀Q,sC Γ (pX c N n sc ops bs) x σ H (λz H'=>bE z H' Q)->aj (model X.prog X.w) X.A (MX pos v ops (wA bs X.env)) (TP X pins σ Q) X.xe s)
def BP(n:Nat):Prop:=∀aC sc X,Ctx c Γ N aC sc X->∀es,noStar es=true->PA X es (bz Γ (iO c N n sc es))
def Ja(n:Nat):Prop:=∀aC sc X,Ctx c Γ N aC sc X->∀o,PO X o (sO Γ (yo c N n sc o))
def BQ(n:Nat):Prop:=∀aC sc X,Ctx c Γ N aC sc X->∀tg e,PI X tg e (sI Γ (nO c N n sc (jy tg) e))
end
section
variable{c:Cfg}{Γ:Ge}{N:List Str}
theorem adJ(hE:nQ c Γ N n)(hA:BP c Γ N n):BP c Γ N (n+1):=by
 intro aC sc X C es hs;cases es with
 |nil=>exact λpos pins s σ H Q I h=>j4 pos pins s σ H Q I h
 |cons e es=>
  obtain⟨h1,h2⟩:=jS hs X.env;intro pos pins s σ H Q I h;exact g9 (hE aC sc X C e).1 (hA aC sc X C es h2) h1 pos pins s σ H Q I h
theorem adK(hE:nQ c Γ N n):Ja c Γ N (n+1):=by
 intro aC sc X C o pins s σ H Q I h;cases o with
 |none=>exact NZ pins s σ H Q I h
 |some e=>
  rw[evalPart_some];refine aJ ((hE aC sc X C e).1 pins s σ H _ I h) λu s1 ⟨x,H1,I1,r1,q1⟩=>?_;dsimp only at q1;split at q1
  ·obtain⟨t,rfl⟩:=r1
   exact⟨some _,H1,I1,.int _ t,q1⟩
  ·exact q1.elim
set_option tactic.hygienic true in
theorem adL(hE:nQ c Γ N n)(hB:BN c Γ N n):BN c Γ N (n+1):=by
 intro aC sc X C op vs pos
 match op,vs with
 |op,[]=>cases op<;>exact⟨PE.bad,λz z z z z z z h=>eV h⟩
 | .And,[a]=>exact⟨OT (hE aC sc X C a).1,aeG (hE aC sc X C a).2⟩
 | .Or,[a]=>exact⟨OT (hE aC sc X C a).1,af8 (hE aC sc X C a).2⟩
 | .And,a::b::l=>
   constructor
   ·intro pins s σ H Q I h
    refine BoolOp_and (aJ ((hE aC sc X C a).1 pins s σ H _ I h) λv s1 ⟨x,H1,I1,r1,q1⟩=>?_);dsimp only at q1;split at q1
    ·rename_i k
     cases r1;refine qc ?_;cases k with
     |true=>exact(hB aC sc X C .And (b::l) pos).1 pins s1 σ H1 Q I1 (by simpa using q1)
     |false=>exact⟨.bl false,H1,I1,rfl,by simpa using q1⟩
    ·exact q1.elim
   ·intro wh pins s σ H Q I h
    refine af9 (hE aC sc X C a).2 (hB aC sc X C .And (b::l) pos).2 wh pins s σ H Q I ?_;exact h
 | .Or,a::b::l=>
   constructor
   ·intro pins s σ H Q I h
    refine BoolOp_or (aJ ((hE aC sc X C a).1 pins s σ H _ I h) λv s1 ⟨x,H1,I1,r1,q1⟩=>?_);dsimp only at q1;split at q1
    ·rename_i k
     cases r1;refine qc ?_;cases k with
     |false=>exact(hB aC sc X C .Or (b::l) pos).1 pins s1 σ H1 Q I1 (by simpa using q1)
     |true=>exact⟨.bl true,H1,I1,rfl,by simpa using q1⟩
    ·exact q1.elim
   ·intro wh pins s σ H Q I h
    refine ah1 (hE aC sc X C a).2 (hB aC sc X C .Or (b::l) pos).2 wh pins s σ H Q I ?_;exact h
set_option tactic.hygienic true in
theorem adM(hE:nQ c Γ N n)(hC:BO c Γ N n):BO c Γ N (n+1):=by
 intro aC sc X C ops bs pos pins s σ H x v hlen I rx;have bad:∀Q,sC Γ (.one .eq .bad) x σ H Q->False:=λQ h=>by simp only[sC,sE] at h
 match ops,bs with
 |[],bs=>cases bs<;>exact⟨λQ h=>(bad Q h).elim,λQ h=>(bad _ h).elim⟩
 |op::ops,[]=>cases ops<;>exact⟨λQ h=>(bad Q h).elim,λQ h=>(bad _ h).elim⟩
 |[op],[b]=>
  constructor
  ·intro Q h
   refine chain_last (aJ ((hE aC sc X C b).1 pins s σ H _ I h) λu s1 ⟨y,H1,I1,r1,q1⟩=>?_);exact Ar C.g.un op pins s1 σ H1 x y v u Q I1 rx r1 q1
  ·intro Q h
   refine test_last (aJ ((hE aC sc X C b).1 pins s σ H _ I h) λu s1 ⟨y,H1,I1,r1,q1⟩=>?_);exact aJ (Ar C.g.un op pins s1 σ H1 x y v u _ I1 rx r1 q1) λd s2 ⟨z,H2,I2,r2,q2⟩=>Hl pins s2 σ H2 z d Q I2 r2 q2
 |[op],b::b'::bs=>simp at hlen
 |op::Jb::ops,[b]=>simp at hlen
 |op::Jb::ops,b::b'::bs=>
  constructor
  ·intro Q h
   refine chain_link (aJ ((hE aC sc X C b).1 pins s σ H _ I h) λu s1 ⟨y,H1,I1,r1,q1⟩=>?_);refine aJ (Ar C.g.un op pins s1 σ H1 x y v u _ I1 rx r1 q1) λd s2 ⟨z,H2,I2,r2,q2⟩=>?_;dsimp only at q2;split at q2
   ·rename_i k
    cases r2;refine qc ?_;cases k with
    |false=>exact ite_ff ⟨.bl false,H2,I2,rfl,by simpa using q2⟩
    |true=>exact ite_tt ((hC aC sc X C (Jb::ops) (b'::bs) pos pins s2 σ H2 y u (by simpa using hlen) I2 r1).1 Q (by simpa using q2))
   ·exact q2.elim
  ·intro Q h
   refine test_link (aJ ((hE aC sc X C b).1 pins s σ H _ I h) λu s1 ⟨y,H1,I1,r1,q1⟩=>?_);refine aJ (Ar C.g.un op pins s1 σ H1 x y v u _ I1 rx r1 q1) λd s2 ⟨z,H2,I2,r2,q2⟩=>?_;dsimp only at q2;split at q2
   ·rename_i k
    cases r2;refine qc ?_;cases k with
    |false=>exact ite_ff ⟨H2,I2,by simpa[bE] using q2⟩
    |true=>exact ite_tt ((hC aC sc X C (Jb::ops) (b'::bs) pos pins s2 σ H2 y u (by simpa using hlen) I2 r1).2 Q (by simpa using q2))
   ·exact q2.elim
end
def d7(t:TE):TE:=λσ H Q=>∃Q':VK,t σ H Q'/\∀v H',Q' v H'->Q v H'
section
variable{X:Cx}
theorem PE.d7(h:PE X e t):PE X e (d7 t):=λpins s σ H Q I ⟨Q',q,m⟩=>aJ (h pins s σ H Q' I q) λu s1 ⟨v,H1,I1,r,q1⟩=>⟨v,H1,I1,r,m _ _ q1⟩
theorem PI.imp(h:PI X tg e t)(i:∀σ H Q,t' σ H Q->t σ H Q):PI X tg e t':=λpins s σ H Q I q=>h pins s σ H Q I (i _ _ _ q)
set_option tactic.hygienic true in
theorem agY(he:PE X e te):PI X tg e (λσ H R=>te σ H λx H1=>match x with
 | .ref a=>(∃xs,aG X.K H1 a xs/\R (kY X.K a) H1)\/(∃xs,aP X.K H1 a xs/\R (rY X.K a) H1)|_=>False):=by
 intro pins s σ H R I h;refine aJ (he pins s σ H _ I h) λv s1 ⟨x,H1,I1,r1,q1⟩=>?_;dsimp only at q1;split at q1
 ·rename_i a
  cases r1;rcases q1 with⟨xs,hq,q⟩|⟨xs,hq,q⟩
  ·obtain⟨its,rv,p,hz⟩:=I1.list hq
   refine Kp p.isList ?_;refine⟨s1.heap.objs.size,[s1.heap.objs.size],_,_,H1,rfl,I1.kept (t':=s1.toks) λb o e=>cj _ e,abC a _,⟨_,d9 _ rfl,rfl,rfl⟩,λb hb=>?_,q⟩;have e:b=s1.heap.objs.size:=by simpa using hb
   subst e;exact I1.pI (aY _) (I1.aE.fresh (aY _))
  ·obtain⟨its,rv,p,hz⟩:=I1.tuple hq
   refine sX (show s1.heap.IsTuple a its.toArray from p) ?_;refine⟨s1.heap.objs.size,[s1.heap.objs.size],_,_,H1,rfl,I1.kept (t':=s1.toks) λb o e=>cj _ e,aau a _,⟨_,d9 _ rfl,rfl,rfl⟩,λb hb=>?_,q⟩;have e:b=s1.heap.objs.size:=by simpa using hb
   subst e;exact I1.pI (aY _) (I1.aE.fresh (aY _))
 ·exact q1.elim
end
section
variable{c:Cfg}{Γ:Ge}{N:List Str}
theorem h_(h:noStar [a]=true)(env:Env):bK [a] env=[(false,eval a env)]:=(jS h env).1
theorem PI.bad:PI X tg e (sI Γ .bad):=λz z z z z z h=>by simp only[sI] at h
set_option tactic.hygienic true in
theorem adN(hE:nQ c Γ N n):BQ c Γ N (n+1):=by
 intro aC sc X C tg e
 have seq:∀e',PI X tg e' (sI Γ (.seq (aH c N n sc e'))):=λe'=>PI.imp (agY (hE aC sc X C e').1) λσ H R q=>by
  simp only[sI] at q;rw[C.g.kk];exact q
 cases e with
 |Call f args kws pos=>
  cases f with
  |Name x p=>
   cases kws with
   |nil=>
    show PI X tg _ (sI Γ (@ite _ _ _ _ _));split
    ·exact PI.bad
    ·rename_i sA
     have hs:noStar args=true:=by simpa using sA
     clear sA;split
     ·rename_i hv
      have hg:Gl X x:=lS (by simp at hv;exact hv.1) C.sc;split
      ·rename_i hx
       subst hx;have hm:X.mg "range"=none:=C.g.blt _ (by decide);split
       ·rename_i a
        refine PI.imp (abD hg hm (g9 (PE.d7 (hE aC sc X C a).1) j4 (h_ hs _)) (h_ hs _)) λσ H R q=>?_;simp only[sI] at q;refine⟨_,q,λv H' q'=>?_⟩;cases v<;>first|exact q'.elim|skip
        exact⟨_,rfl,q'.1.1,q'.1.2,q'.2⟩
       ·rename_i a b
        obtain⟨h1,h2⟩:=jS hs X.env;refine PI.imp (abE hg hm (g9 (PE.d7 (hE aC sc X C a).1) (g9 (PE.d7 (hE aC sc X C b).1) j4 (h_ h2 _)) h1) (by rw[h1,h_ h2]) (h_ h2 _)) λσ H R q=>?_;simp only[sI] at q;refine⟨_,q,λv H' q'=>⟨_,q',λv2 H2 q2=>?_⟩⟩;cases v<;>try exact(show False from q2).elim
        cases v2<;>try exact(show False from q2).elim
        exact⟨_,_,rfl,q2.1,q2.2⟩
       ·rename_i a b d
        obtain⟨h1,h2⟩:=jS hs X.env;obtain⟨h3,h4⟩:=jS h2 X.env;refine PI.imp (abN hg hm (g9 (PE.d7 (hE aC sc X C a).1) (g9 (PE.d7 (hE aC sc X C b).1) (g9 (PE.d7 (hE aC sc X C d).1) j4 (h_ h4 _)) h3) h1) h1 (qE _ h2)) λσ H R q=>?_;simp only[sI] at q;refine⟨_,q,λv H' q'=>⟨_,q',λv2 H2 q2=>⟨_,q2,λv3 H3 q3=>?_⟩⟩⟩;cases v<;>try exact(show False from q3).elim
        cases v2<;>try exact(show False from q3).elim
        cases v3<;>try exact(show False from q3).elim
        obtain⟨n,r1,r2⟩:=q3;exact⟨_,_,_,n,rfl,r1,r2⟩
       ·exact PI.bad
      ·split
       ·rename_i hx
        subst hx;have hm:X.mg "enumerate"=none:=C.g.blt _ (by decide);split
        ·rename_i a
         split
         ·rename_i ht
          cases tg<;>simp only[jy] at ht<;>try (cases ht;done)
          refine PI.imp (agT hg hm (hE aC sc X C a).1 (h_ hs _)) λσ H R q=>?_;simp only[sI] at q;rw[C.g.kk];exact q
         ·exact PI.bad
        ·exact PI.bad
       ·split
        ·rename_i hx
         subst hx;have hm:X.mg "zip"=none:=C.g.blt _ (by decide);split
         ·rename_i a b
          split
          ·rename_i ht
           obtain⟨h1,h2⟩:=jS hs X.env;cases tg<;>simp only[jy] at ht<;>try (cases ht;done)
           refine PI.imp (ae1 hg hm (g9 (PE.d7 (hE aC sc X C a).1) (g9 (PE.d7 (hE aC sc X C b).1) j4 (h_ h2 _)) h1) h1 (qE _ h2)) λσ H R q=>?_;simp only[sI] at q;refine⟨_,q,λv H' q'=>⟨_,q',λv2 H2 q2=>?_⟩⟩;cases v<;>try exact(show False from q2).elim
           cases v2<;>try exact(show False from q2).elim
           obtain⟨B,xs,ys,r1,r2,r3⟩:=q2;rw[←C.g.kk] at r1 r2 r3;exact⟨B,_,_,_,_,rfl,r1,r2,r3⟩
          ·exact PI.bad
         ·exact PI.bad
        ·exact seq _
     ·exact PI.bad
   |cons k ks=>
    obtain⟨nm,v,kpos⟩:=k;cases nm with
    |none=>first|exact seq _|(cases ks<;>first|exact seq _|(cases args<;>first|exact seq _|(rename_i as;cases as<;>exact seq _)))
    |some nm=>cases v with
     |Constant z kk kp=>cases z with
      |int i=>
       by_cases hi:i=1
       ·subst hi
        cases ks with
        |cons _ _=>first|exact seq _|(cases args<;>first|exact seq _|(rename_i as;cases as<;>exact seq _))
        |nil=>cases args with
         |nil=>exact seq _
         |cons a as=>cases as with
          |cons _ _=>exact seq _
          |nil=>
           show PI X tg _ (sI Γ (@ite _ _ _ _ _));split
           ·exact PI.bad
           ·rename_i hc
            have hc:(noStar [a]&&jy tg&&je sc x&& !ja sc x)=true:=by
             cases e:(noStar [a]&&jy tg&&je sc x&& !ja sc x) with
             |true=>rfl
             |false=>exact absurd e hc
            simp only[bx] at hc;obtain⟨⟨⟨hs,ht⟩,I0⟩,_⟩:=hc;split
            ·rename_i hx
             obtain⟨rfl,rfl⟩:=hx;cases tg<;>simp only[jy] at ht<;>try (cases ht;done)
             refine PI.imp (ae0 (lS I0 C.sc) (C.g.blt _ (by decide)) (hE aC sc X C a).1 (h_ hs _)) λσ H R q=>?_;simp only[sI] at q;rw[C.g.kk];exact q
            ·exact PI.bad
       ·cases i with
        |negSucc i=>first|exact seq _|(cases ks<;>first|exact seq _|(cases args<;>first|exact seq _|(rename_i as;cases as<;>exact seq _)))
        |ofNat i=>cases i with
         |zero=>first|exact seq _|(cases ks<;>first|exact seq _|(cases args<;>first|exact seq _|(rename_i as;cases as<;>exact seq _)))
         |succ i=>cases i with
          |zero=>exact absurd rfl hi
          |succ i=>first|exact seq _|(cases ks<;>first|exact seq _|(cases args<;>first|exact seq _|(rename_i as;cases as<;>exact seq _)))
      |_=>first|exact seq _|(cases ks<;>first|exact seq _|(cases args<;>first|exact seq _|(rename_i as;cases as<;>exact seq _)))
     |_=>first|exact seq _|(cases ks<;>first|exact seq _|(cases args<;>first|exact seq _|(rename_i as;cases as<;>exact seq _)))
  |_=>first|exact seq _|(cases kws<;>first|exact seq _|(cases args<;>first|exact seq _|(rename_i as;cases as<;>exact seq _)))
 |Set _ _ _=>exact PI.bad
 |_=>exact seq _
end
section
variable{c:Cfg}{Γ:Ge}{N:List Str}{aC:Bool}{sc:bN}{X:Cx}
set_option tactic.hygienic true in
theorem Mx(h:oF o=true):EB o m env (eval o env)=eval o env:=by
 cases o<;>try rfl
 rename_i f args kws p;cases args with
 |nil=>simp[oF] at h
 |cons a l=>cases f<;>rfl
theorem O2{o e:aN}{to te:TE}{m:Str}{id:String}{ap cp:Pos}{r':V->V->Hp->VK->Prop}(ho:PE X o to)(he:PE X e te)(hb:oF o=true)(hs:notStar e=true)(hl:(ap.endLine==cp.line)=true)(slot:Slot "list" m id)(IQ:typeOf (.builtin id)=pure (.type "method_descriptor"))(hm:QS X id r)(hr:∀x y H Q,r' x y H Q->r x [y] H Q):
 PE X (.Call (.Attribute o m ap) [e] [] cp) (λσ H Q=>to σ H λx H1=>(match x with| .ref a=>(match H1 a with|some (.lst _)=>True|_=>False)|_=>False)/\te σ H1 λy H2=>r' x y H2 Q):=by
 have hs':noStar [e]=true:=by cases e<;>first|rfl|(simp[notStar] at hs)
 have h1:=h_ hs' X.env;refine PE.imp (aim PySem.F.plainAttrs_list slot IQ hm (PE.d7 ho) (g9 (PE.d7 he) j4 h1) (Mx hb) (by rw[h1];rfl) hl h1 rfl) λσ H Q q=>?_;refine⟨_,q,λx H1 q1=>?_⟩;obtain⟨q0,q1⟩:=q1;constructor
 ·cases x<;>simp only at q0<;>try exact q0.elim
  split at q0
  ·rename_i e0;exact .inl ⟨rfl,_,aG.of e0⟩
  ·exact q0.elim
 ·exact⟨_,q1,λy H2 q2=>hr _ _ _ _ q2⟩
theorem ae6(q:kg x y H Q):N5 x [y] H Q:=by
 cases x<;>try exact(show False from q).elim
 all_goals (delta kg at q;try dsimp only at q)
 split at q
 ·rename_i e;exact⟨_,_,_,rfl,rfl,e,q.1,q.2⟩
 ·exact q.elim
theorem ae7(q:pN x y H Q):N6 x [y] H Q:=by
 cases x<;>try exact(show False from q).elim
 all_goals (cases y<;>try exact(show False from q).elim)
 all_goals (delta pN at q;try dsimp only at q)
 split at q
 ·rename_i e1 e2;exact⟨_,_,_,_,rfl,rfl,e1,e2,q.1,q.2⟩
 ·exact q.elim
set_option tactic.hygienic true in
theorem agZ(ho:PE X o to)(hb:oF o=true):PE X (.Attribute o f pos) (λσ H Q=>to σ H λx H1=>dX X.K f x H1 Q):=by
 refine PE.imp (agu (PE.d7 ho) (Mx hb)) λσ H Q q=>⟨_,q,λx H1 q1=>?_⟩;cases x<;>try exact(show False from q1).elim
 all_goals (delta dX at q1;try dsimp only at q1)
 split at q1
 ·rename_i e
  obtain⟨h1,h2,q1⟩:=q1;split at q1
  ·rename_i v e2;exact⟨_,_,_,_,_,rfl,e,h1,h2,e2,q1⟩
  ·exact q1.elim
 ·exact q1.elim
set_option tactic.hygienic true in
theorem Oi(C:Ctx c Γ N aC sc X)(h:pD c sc e=some xs):∃x p a,e=.Name x p/\Gl X x/\X.mg x=some (.ref a)/\(∀H,aP X.K H a xs)/\(x==("__debug__":Str))=false:=by
 cases e<;>simp only[pD] at h<;>try (cases h;done)
 rename_i x p;split at h
 ·rename_i hc
  obtain⟨a,h1,h2⟩:=C.g.tup x xs h;exact⟨x,p,a,rfl,lS hc.2.2 C.sc,h1,h2,(v8 hc.1).1⟩
 ·cases h
set_option tactic.hygienic true in
theorem ag0(C:Ctx c Γ N aC sc X)(hg:pD c sc a=some xs)(hb:PE X b tb)(hs:Hi b):
 PE X (.Subscript a b pos) (λσ H Q=>tb σ H λy H2=>match y with| .int i=>(match cF xs i with|some v=>Q v H2|none=>False)|_=>False):=by
 obtain⟨x,p,ad,rfl,g1,g2,g3,g4⟩:=Oi C hg;refine PE.imp (HS HL (qN (v:=.ref ad) g1 g2 rfl g4) (PE.d7 hb) hs) λσ H Q q=>?_;refine⟨_,q,λy H2 q2=>?_⟩;cases y<;>simp only at q2<;>try exact q2.elim
 split at q2
 ·rename_i v e;exact⟨_,_,_,_,rfl,rfl,g3 H2,e,q2⟩
 ·exact q2.elim
set_option tactic.hygienic true in
theorem ae8(C:Ctx c Γ N aC sc X)(h:xo c sc e=some j):∃x p a,e=.Name x p/\Gl X x/\X.mg x=some (.ref a)/\AH X.prog X.w X.K a (Γ.gd j)/\(x==("__debug__":Str))=false:=by
 cases e<;>simp only[xo] at h<;>try (cases h;done)
 rename_i x p;split at h
 ·rename_i hc
  obtain⟨a,h1,h2⟩:=C.g.gd x j h;exact⟨x,p,a,rfl,lS hc.2.2 C.sc,h1,h2,(v8 hc.1).1⟩
 ·cases h
set_option tactic.hygienic true in
theorem ag1(C:Ctx c Γ N aC sc X)(hg:xo c sc a=some j)(hb:PE X b tb)(hs:Qo b):
 PE X (.Subscript a b pos) (λσ H Q=>tb σ H λy H2=>match y with| .int i=>(match Γ.gd j i with|some v=>Q v H2|none=>False)|_=>False):=by
 obtain⟨x,p,ad,rfl,g1,g2,⟨o,es,ep,k1,k2,k3,k4,k5⟩,g4⟩:=ae8 C hg;intro pins s σ H Q I h;refine aeV PySem.F.slot_dict_getitem.lookup hs (aJ (qN (v:=.ref ad) g1 g2 rfl g4 pins s σ H (λz H1=>z=.ref ad/\H1=H) I ⟨rfl,rfl⟩) λu s1 ⟨z,H1,I1,rz,ez,eh⟩=>?_);subst ez eh;cases rz;refine aJ (hb pins s1 σ _ _ I1 h) λiv s2 ⟨y,H2,I2,ry,q2⟩=>?_;have hk:s2.heap.get? ad=some o:=I2.iP ad o k1;dsimp only at q2;split at q2
 ·rename_i i
  split at q2
  ·rename_i v e
   obtain⟨u,hu,ru⟩:=k5 i v e;obtain⟨t,rfl⟩:=ry;refine⟨⟨o,hk,k2.1⟩,?_⟩;exact wpAny_getItem_of (knd:=HF X.prog X.w) (k:=i) (intKind_is X.prog X.w i t) ⟨o,es,ep,hk,k2,k3,k4,λk=>rfl⟩ hu ⟨v,_,I2.tok _,ru,q2⟩
  ·exact q2.elim
 ·exact q2.elim
theorem FT(h:tZ b=true):Hi b:=by
 intro o i;cases b<;>first|rfl|(simp[tZ] at h)
set_option tactic.hygienic true in
theorem O3(neg:Bool)(C:Ctx c Γ N aC sc X)(hg:pD c sc b=some xs)(ha:PE X a ta):
 (PE X (.Compare a [if neg then .NotIn else .In] [b] pos) (λσ H Q=>ta σ H λx H2=>match x with| .int i=>(match ints? xs with|some ns=>Q (.bl (if neg then !decide (i∈ns) else decide (i∈ns))) H2|none=>False)|_=>False))/\
 (PT X (.Compare a [if neg then .NotIn else .In] [b] pos) (λσ H Q=>ta σ H λx H2=>match x with| .int i=>(match ints? xs with|some ns=>bE (.bl (if neg then !decide (i∈ns) else decide (i∈ns))) H2 Q|none=>False)|_=>False)):=by
 obtain⟨x,p,ad,rfl,g1,g2,g3,g4⟩:=Oi C hg
 have bG:br X (compareOp (if neg then .NotIn else .In)) (Bx X.K neg):=by
  cases neg
  ·exact Ms
  ·exact Lc
 have hm:K7 (if neg then xA.NotIn else xA.In) (.Name x p)=false:=by cases neg<;>rfl
 have key:∀(y:V)(H2:Hp)(Q:VK),(match y with| .int i=>(match ints? xs with|some ns=>Q (.bl (if neg then !decide (i∈ns) else decide (i∈ns))) H2|none=>False)|_=>False)->
  Bx X.K neg y (.ref ad) H2 Q:=by
  intro y H2 Q q2;cases y<;>simp only at q2<;>try exact q2.elim
  split at q2
  ·rename_i ns e
   have e:=ints_of e;subst e;refine⟨_,_,rfl,.inr (g3 H2),rfl,Gq ns,?_⟩;cases neg<;>simpa[Hj] using q2
  ·exact q2.elim
 constructor
 ·refine PE.imp (aeN bG (PE.d7 ha) (qN (v:=.ref ad) g1 g2 rfl g4) hm) λσ H Q q=>⟨_,q,λy H2 q2=>key y H2 Q q2⟩
 ·refine PT.imp (aeO bG (PE.d7 ha) (qN (v:=.ref ad) g1 g2 rfl g4) hm) λσ H Q q=>⟨_,q,λy H2 q2=>?_⟩
  refine key y H2 (λx H'=>∃k,x=V.bl k/\Q k H') ?_;cases y<;>simp only at q2 ⊢<;>try exact q2.elim
  split at q2
  ·exact⟨_,rfl,by simpa[bE] using q2⟩
  ·exact q2.elim
theorem ag2(ha:PE X a ta):PE X (.UnaryOp .USub a pos) (λσ H Q=>ta σ H λx H1=>match x with| .int i=>Q (.int (-i)) H1|_=>False):=by
 refine PE.imp (ah9 agr (PE.d7 ha)) λσ H Q q=>⟨_,q,λx H1 q1=>?_⟩;cases x<;>simp only at q1<;>try exact q1.elim
 exact⟨_,rfl,q1⟩
theorem ag3(ha:PE X a ta):PE X (.UnaryOp .Not a pos) (λσ H Q=>ta σ H λx H1=>bE x H1 λc H2=>Q (.bl (!c)) H2):=by
 intro pins s σ H Q I h;refine UnaryOp_ (aJ (ha pins s σ H _ I h) λv s1 ⟨x,H1,I1,r1,q1⟩=>?_);exact not_of (aJ (Hl pins s1 σ H1 x v _ I1 r1 q1) λb s2 ⟨H2,I2,q2⟩=>⟨.bl (!b),H2,I2,rfl,q2⟩)
theorem adO(ht:PT X t tt)(ha:PT X a ta)(hb:PT X b tb):PT X (.IfExp t a b pos) (λσ H Q=>tt σ H λk H1=>if k=true then ta σ H1 Q else tb σ H1 Q):=by
 intro pins s σ H Q I h;show aj _ _ (do if ←m9 t X.env (eval t X.env) then m9 a X.env (eval a X.env) else m9 b X.env (eval b X.env)) _ _ s;refine ai (aJ (ht pins s σ H _ I h) λk s1 ⟨H1,I1,q1⟩=>?_);cases k with
 |true=>exact ha pins s1 σ H1 Q I1 (by simpa using q1)
 |false=>exact hb pins s1 σ H1 Q I1 (by simpa using q1)
theorem min_eq(i j:Int):(if j<i then j else i)=min i j:=by
 rw[vY];split<;>split<;>lia
theorem max_eq(i j:Int):(if j>i then j else i)=max i j:=by
 rw[Int.max_def];split<;>split<;>lia
theorem uf(hb:b≠.min2/\b≠.max2)(q:cu b vs H Q):∃a,vs=[.ref a]:=by
 rcases vs with _|⟨x,_|⟨y,l⟩⟩
 ·cases b<;>exact q.elim
 ·cases b<;>cases x<;>first|exact⟨_,rfl⟩|exact q.elim
 ·cases b<;>first|exact q.elim|(exact absurd rfl hb.1)|(exact absurd rfl hb.2)|(cases x<;>exact q.elim)
theorem Oj(hb:b=.min2\/b=.max2)(q:cu b vs H Q):∃i j,vs=[.int i,.int j]:=by
 rcases vs with _|⟨x,_|⟨y,_|⟨z,l⟩⟩⟩
 ·rcases hb with rfl|rfl<;>exact q.elim
 ·rcases hb with rfl|rfl<;>cases x<;>exact q.elim
 ·rcases hb with rfl|rfl<;>cases x<;>try exact q.elim
  all_goals (cases y<;>first|exact⟨_,_,rfl⟩|exact q.elim)
 ·rcases hb with rfl|rfl<;>cases x<;>try exact q.elim
  all_goals (cases y<;>exact q.elim)
set_option tactic.hygienic true in
theorem ag4(hb:Il x args.length=some b)(hs:noStar args=true)(hg:Gl X x)(C:Ctx c Γ N aC sc X)(hA:PA X args t):
 PE X (.Call (.Name x p) args [] pos) (λσ H Q=>t σ H λvs H1=>cu b vs H1 Q):=by
 unfold Il at hb;cases args with
 |nil=>simp at hb
 |cons e es=>
  obtain⟨h1,h2⟩:=jS hs X.env;have h3:=qE (pos:=pos) X.env h2;split at hb
  ·rename_i hx
   obtain⟨rfl,_⟩:=hx;cases hb;refine qJ (fm.imp Ld λvs H Q q=>?_) hg (C.g.blt _ (by decide)) Xc hA (by decide) (by decide) h1 h3;have⟨a,ea⟩:=uf (b:=.len) ⟨by simp,by simp⟩ q;subst ea;delta cu at q;try dsimp only at q
   split at q
   ·rename_i xs e;exact⟨_,xs,rfl,t9 _ e,q⟩
   ·exact q.elim
  split at hb
  ·rename_i hx
   obtain⟨rfl,_⟩:=hx;cases hb;refine Mr (fm.imp Ye λvs H Q q=>?_) hg (C.g.blt _ (by decide)) Sw hA (by decide) (by decide) h1 h3;have⟨a,ea⟩:=uf (b:=.list) ⟨by simp,by simp⟩ q;subst ea;delta cu at q;try dsimp only at q
   split at q
   ·rename_i xs e;exact⟨_,xs,rfl,t9 _ e,q⟩
   ·exact q.elim
  split at hb
  ·rename_i hx
   obtain⟨rfl,_⟩:=hx;cases hb;refine Mr (fm.imp Xj λvs H Q q=>?_) hg (C.g.blt _ (by decide)) amo hA (by decide) (by decide) h1 h3;have⟨a,ea⟩:=uf (b:=.tuple) ⟨by simp,by simp⟩ q;subst ea;delta cu at q;try dsimp only at q
   split at q
   ·rename_i xs e;exact⟨_,xs,rfl,.inl ⟨aG.of e,q⟩⟩
   ·rename_i xs e;exact⟨_,xs,rfl,.inr ⟨aP.of e,q⟩⟩
   ·exact q.elim
  split at hb
  ·rename_i hx
   obtain⟨rfl,_⟩:=hx;cases hb;refine qJ (fm.imp (agI C.calm) λvs H Q q=>?_) hg (C.g.blt _ (by decide)) amW hA (by decide) (by decide) h1 h3;have⟨a,ea⟩:=uf (b:=.any) ⟨by simp,by simp⟩ q;subst ea;delta cu at q;try dsimp only at q
   split at q
   ·rename_i xs e
    split at q
    ·rename_i bs e2
     have e2:=Od e2;subst e2;exact⟨_,bs,rfl,aG.of e,q⟩
    ·exact q.elim
   ·exact q.elim
  split at hb
  ·rename_i hx
   obtain⟨rfl,_⟩:=hx;cases hb;refine qJ (fm.imp (agJ C.calm) λvs H Q q=>?_) hg (C.g.blt _ (by decide)) amX hA (by decide) (by decide) h1 h3;have⟨a,ea⟩:=uf (b:=.all) ⟨by simp,by simp⟩ q;subst ea;delta cu at q;try dsimp only at q
   split at q
   ·rename_i xs e
    split at q
    ·rename_i bs e2
     have e2:=Od e2;subst e2;exact⟨_,bs,rfl,aG.of e,q⟩
    ·exact q.elim
   ·exact q.elim
  split at hb
  ·rename_i hx
   obtain⟨rfl,_⟩:=hx;cases hb;refine qJ (fm.imp (abH C.calm) λvs H Q q=>?_) hg (C.g.blt _ (by decide)) SH hA (by decide) (by decide) h1 h3;obtain⟨i,j,rfl⟩:=Oj (.inl rfl) q;exact⟨i,j,rfl,by rw[min_eq];exact q⟩
  split at hb
  ·rename_i hx
   obtain⟨rfl,_⟩:=hx;cases hb;refine qJ (fm.imp (abG C.calm) λvs H Q q=>?_) hg (C.g.blt _ (by decide)) amY hA (by decide) (by decide) h1 h3;obtain⟨i,j,rfl⟩:=Oj (.inr rfl) q;exact⟨i,j,rfl,by rw[max_eq];exact q⟩
  split at hb
  ·rename_i hx
   obtain⟨rfl,_⟩:=hx;cases hb;refine qJ (fm.imp (agH C.calm) λvs H Q q=>?_) hg (C.g.blt _ (by decide)) amZ hA (by decide) (by decide) h1 h3;have⟨a,ea⟩:=uf (b:=.sum) ⟨by simp,by simp⟩ q;subst ea;delta cu at q;try dsimp only at q
   split at q
   ·rename_i xs e
    split at q
    ·rename_i ns e2
     have e2:=ints_of e2;subst e2;exact⟨_,ns,rfl,aG.of e,q⟩
    ·exact q.elim
   ·exact q.elim
  ·cases hb
set_option tactic.hygienic true in
theorem ae9(hs:noStar [a]=true)(hg:Gl X "min")(C:Ctx c Γ N aC sc X)(ha:PE X a ta):
 PE X (.Call (.Name "min" p) [a] [⟨some "default",.Constant .none k kp,kpos⟩] pos) (λσ H Q=>ta σ H λx H1=>xm x H1 Q):=by
 refine PE.imp (ae3 hg (C.g.blt _ (by decide)) C.calm (PE.d7 ha) (h_ hs _)) λσ H Q q=>⟨_,q,λx H1 q1=>?_⟩;cases x<;>try exact(show False from q1).elim
 all_goals (delta xm at q1;try dsimp only at q1)
 split at q1
 ·rename_i xs e
  split at q1
  ·rename_i ns e2
   have e2:=ints_of e2;subst e2;exact⟨_,ns,rfl,aG.of e,q1⟩
  ·exact q1.elim
 ·exact q1.elim
theorem ag5(C:Ctx c Γ N aC sc X)(h:A6 sc es=some (a,b)):∃q ip,es=[.Call (.Name "range" q) [a,b] [] ip]/\noStar [a,b]=true/\Gl X "range":=by
 unfold A6 at h;split at h
 ·split at h
  ·rename_i hc
   obtain⟨rfl,h1,h2,h3⟩:=hc;cases h;exact⟨_,_,rfl,h1,lS h3 C.sc⟩
  ·cases h
 ·cases h
theorem ae_(C:Ctx c Γ N aC sc X)(h:A6 sc es=some (a,b))(hg:Gl X "list")(ha:PE X a ta)(hb:PE X b tb):
 PE X (.Call (.Name "list" p) es [] pos) (λσ H Q=>ta σ H λx H1=>tb σ H1 λy H2=>match x,y with| .int i,.int j=>(-(2^62)<=i/\i<2^62/\ -(2^62)<=j/\j<2^62/\(j-i).toNat<=2^24)/\∀l,H2 l=none->Q (.ref l) (upd H2 l (.lst (ny i (j-i).toNat)))|_,_=>False):=by
 obtain⟨q,ip,rfl,hs,hr⟩:=ag5 C h;obtain⟨h1,h2⟩:=jS hs X.env;refine PE.imp (ae4 hg (C.g.blt _ (by decide)) hr (C.g.blt _ (by decide)) C.calm (g9 (PE.d7 ha) (g9 (PE.d7 hb) j4 (h_ h2 _)) h1) (by rw[h1,h_ h2]) (h_ h2 _)) λσ H Q q=>?_;refine⟨_,q,λx H1 q1=>⟨_,q1,λy H2 q2=>?_⟩⟩;cases x<;>try exact(show False from q2).elim
 cases y<;>try exact(show False from q2).elim
 exact⟨_,_,rfl,q2.1,q2.2⟩
theorem afa(hs:noStar [a]=true)(hg:Gl X "len")(C:Ctx c Γ N aC sc X)(ha:PE X a t):
 PE X (.Call (.Name "len" p) [a] [] pos) (λσ H Q=>t σ H λx H1=>match x with| .ref p=>∃ys,(aG X.K H1 p ys\/aP X.K H1 p ys)/\Q (.int ys.length) H1|_=>False):=by
 refine PE.imp (qJ Ld hg (C.g.blt _ (by decide)) Xc (g9 (PE.d7 ha) j4 (h_ hs _)) (by decide) (by decide) (h_ hs _) rfl) λσ H Q q=>⟨_,q,λx H1 q1=>?_⟩;cases x<;>simp only at q1<;>try exact q1.elim
 obtain⟨ys,h,q⟩:=q1;exact⟨_,ys,rfl,h,q⟩
theorem Ng(n:Nat):iO c N n sc []=.nil:=by cases n<;>rfl
theorem afb(hj:idx x c.fns=some j)(ok:kP x=true)(hs:noStar args=true)(hg:Gl X x)(C:Ctx c Γ N aC sc X)(hA:PA X args (bz Γ (iO c N n sc args))):
 PE X (.Call (.Name x p) args [] pos) (sE Γ (.call j (iO c N n sc args))):=by
 by_cases hl:j<Γ.lim
 ·obtain⟨k,fd,ps,F,hr,hk,hb⟩:=(C.g.fa j hl).ex
  have hm:=C.g.fn x j hj hl;have n1:=(v8 ok).1;cases args with
  |nil=>
   refine PE.imp (adq F hr hg hm hk hb .nil xh n1) λσ H Q q=>?_;simp only[Ng,sE,bz,xq hl,cond_false] at q;exact q
  |cons e es=>
   obtain⟨h1,h2⟩:=jS hs X.env;refine PE.imp (aeR F hr hg hm hk hb .nil xh hA n1 h1 (qE X.env h2)) λσ H Q q=>?_;simp only[sE,xq hl,cond_false] at q;show bz Γ _ σ H λvs H1=>Γ.fn j (vs++[]) H1 Q E0;simpa using q
 ·intro pins s σ H Q I h
  simp only[sE,HY hl,cond_true] at h
theorem afc(hj:idx x c.rP=some j)(ok:kP x=true)(hs:noStar args=true)(hg:Gl X x)(C:Ctx c Γ N aC sc X)(hA:PA X args (bz Γ (iO c N n sc args))):
 PE X (.Call (.Name x p) args [] pos) (sE Γ (.make j (iO c N n sc args))):=by
 by_cases hl:j<Γ.ie
 ·obtain⟨k,f,fd,ps,M,F,hr,hb⟩:=(C.g.ca j hl).ex
  have hm:=C.g.cls x j hj hl;have n1:=(v8 ok).1;cases args with
  |nil=>
   refine PE.imp (ads M F hr hg hm hb .nil xh n1) λσ H Q q=>?_;simp only[Ng,sE,bz,xq hl,cond_false] at q;exact q
  |cons e es=>
   obtain⟨h1,h2⟩:=jS hs X.env;refine PE.imp (aeS M F hr hg hm hb .nil xh hA n1 h1 (qE X.env h2)) λσ H Q q=>?_;simp only[sE,xq hl,cond_false] at q;show bz Γ _ σ H λvs H1=>∀x dx,H1 x=none->H1 dx=none->dx≠x->Γ.yl j (.ref x::(vs++[])) _ _ _;simpa using q
 ·intro pins s σ H Q I h
  simp only[sE,HY hl,cond_true] at h
theorem adP(h0:args.length≠0)(hs:noStar args=true)(C:Ctx c Γ N aC sc X)(hA:PA X args (bz Γ (iO c N n sc args))):
 PE X (.Call (.Name x p) args [] pos) (sE Γ (.pA (oZ c N sc x) (iO c N n sc args))):=by
 cases args with
 |nil=>simp at h0
 |cons e es=>
  obtain⟨h1,h2⟩:=jS hs X.env;intro pins s σ H Q I h;simp only[sE] at h;refine k_ (aJ (Oh C x p pins s σ H _ I h) λu s1 ⟨y,H1,I1,r1,q1⟩=>?_);obtain⟨j,ey,hl,q1⟩:=q1;subst ey;cases r1;obtain⟨k,fd,ps,F,hr,hk,hb⟩:=(C.g.fa j hl).ex;refine Kd (h₀:=X.base) I.ok.mod.xQ hk (aJ (hA pos pins s1 σ H1 _ I1 q1) λus s2 ⟨vs,H2,I2,r2,q2⟩=>⟨I2.iP,?_⟩) h1 (qE X.env h2);exact HK F hr hb .nil xh I2 r2 (by simpa using q2)
end
section
variable{c:Cfg}{Γ:Ge}{N:List Str}{aC:Bool}{sc:bN}{X:Cx}
theorem zT(C:Ctx c Γ N aC sc X)(h:j7 aC N sc x=some i):X.N[i]?=some x/\Loc X.env.scope x/\(X.fn x=true\/X.env.scope.names.lookup x=some .local):=by
 unfold j7 at h;split at h
 ·rename_i hc
  refine⟨by rw[C.nN];exact oM h,?_⟩;unfold O1 at hc;rw[C.sc];split at hc
  ·rename_i e;exact⟨.inl e,.inr e⟩
  ·rename_i e;exact⟨.inr e,.inl (C.Q6 hc x)⟩
  ·cases hc
 ·cases h
theorem PG.bad{K:aD}:PG X tg (bJ K .bad):=λz z z z z z z z z h=>h.elim
noncomputable def gL:List Nat->uO
 |[]=>Qc
 |i::l=>Pp (fO i) (gL l)
theorem Px:∀(l:List Nat)(xs:List V)(σ:L2.St)(H:Hp)(Q:L2.St->Hp->Prop),xs.length=l.length->Q ((l.zip xs).foldl (λs p=>s.set p.1 (some p.2)) σ) H->gL l xs σ H Q
 |[],[],σ,H,Q,_,q=>⟨rfl,q⟩
 |[],x::xs,σ,H,Q,hl,q=>by simp at hl
 |i::l,[],σ,H,Q,hl,q=>by simp at hl
 |i::l,x::xs,σ,H,Q,hl,q=>⟨x,xs,rfl,Px l xs _ H Q (by simpa using hl) q⟩
set_option tactic.hygienic true in
theorem O4(C:Ctx c Γ N aC sc X):∀{es:List aN}{l:List Nat},AG aC N sc es=some l->xV X es (gL l)/\(mW es X.env).length=l.length/\(mW es X.env).findIdx? (·.1)=none
 |[],l,h=>by cases h;exact⟨aeK,rfl,rfl⟩
 |e::es,l,h=>by
  cases e<;>try (cases h;done)
  rename_i x p;change (match j7 aC N sc x,AG aC N sc es with|some i,some r=>some (i::r)|_,_=>none)=some l at h;split at h
  ·rename_i i r h1 h2
   cases h;obtain⟨a,b,d⟩:=zT C h1;obtain⟨f,g,k⟩:=O4 C h2;refine⟨adn (NS (by rw[C.nN];exact C.nd) a b d) f,?_,?_⟩
   ·show(mW es X.env).length+1=_;rw[g];rfl
   ·show List.findIdx? _ ((false,assign (.Name x p) X.env)::mW es X.env)=none
    rw[TR,k];rfl
  ·cases h
set_option tactic.hygienic true in
theorem HZ(C:Ctx c Γ N aC sc X)(tg:aN):PG X tg (bJ X.K (nA aC N sc tg)):=by
 cases tg<;>try exact PG.bad
 ·rename_i x p
  delta nA;dsimp only;split
  ·rename_i i h
   obtain⟨a,b,d⟩:=zT C h;exact NS (by rw[C.nN];exact C.nd) a b d
  ·exact PG.bad
 ·rename_i es k p
  delta nA;dsimp only;split
  ·rename_i l h
   obtain⟨f,g,k⟩:=O4 C h;intro pins s σ H v u Q I r hq;refine agc C.calm f g k pins s σ H v u Q I r ?_;simp only[bJ] at hq;split at hq
   ·split at hq
    ·rename_i xs e
     exact⟨_,xs,rfl,aP.of e,hq.1,Px l xs σ H Q hq.1 hq.2⟩
    ·exact hq.elim
   ·exact hq.elim
  ·exact PG.bad
theorem aaL(C:Ctx c Γ N aC sc X)(scope:bN):relabel scope X.env=jc scope sc:=by
 unfold relabel jc Mh;rw[C.sc]
theorem Ctx.dh(C:Ctx c Γ N aC sc X)(s:ao)(H:Hp)(scope:bN)(cl:List (Str×Addr))(A:Addr)(fp:List Addr):
 Ctx c Γ N false (jc scope sc) (X.dh s H scope (iK scope cl A X.env) fp) where
 nN:=C.nN
 nd:=C.nd
 sc:=aaL C scope
 calm:=C.calm
 xe:=rfl
 Q6:=λh=>nomatch h
 g:=C.g
noncomputable def qZ:aN->Bool
 | .Set _ _ _=>true
 |_=>false
theorem Gr(h:qZ e=false)(env:Env)(x:Value):yP e env x=pure x:=by
 cases e<;>first|rfl|(simp[qZ] at h)
theorem afd(h:qZ e=true):nO c N n sc b e=.bad:=by
 cases e<;>try (cases h;done)
 cases n<;>rfl
theorem Py{n:Nat}{elt tg it f:aN}{ifs:List aN}{scope:bN}{pos:Pos}{tc:E}(C:Ctx c Γ N aC sc X)(hE:nQ c Γ N n)(hI:BQ c Γ N n)(hb:nj N sc scope (ownOf N scope)=true)
 (ht:∀s H A cl fp,sj (X.dh s H scope (iK scope cl A X.env) fp) ifs (sT Γ tc)):
 PE X (.ListComp elt [⟨tg,it,ifs,0⟩] scope pos) (sE Γ (.lc (aH c N n (jc scope sc) elt) (nA false N (jc scope sc) tg) (nO c N n sc (jy tg) it) tc ((ownOf N scope).map (·.2)))):=by
 cases hs:qZ it with
 |true=>
  intro pins s σ H Q I h;rw[afd hs] at h;simp only[sE,eZ,sI] at h
 |false=>
  refine PE.imp (aiq C.calm (by rw[C.nN];exact C.nd) (hI aC sc X C tg it) (M_ (by rw[C.nN,C.sc];exact hb)) (λs H A cl fp=>HZ (C.dh s H scope cl A fp) tg) ht
   (λs H A cl fp=>(hE false _ _ (C.dh s H scope cl A fp) elt).1) (Gr hs X.env)) λσ H Q q=>?_
  simp only[sE] at q;exact q
end
section
variable{c:Cfg}{Γ:Ge}{N:List Str}
theorem bC:PE X e (sE Γ .bad)/\PT X e (sT Γ .bad):=⟨PE.bad,PT.bad⟩
theorem both(h:PE X e (sE Γ E'))(he:∀whole,m9 e X.env whole=(do let v ←whole;HG e.pos;holding [v] (truthy v)))(hT:sT Γ E'=λσ H Q=>sE Γ E' σ H λx H1=>bE x H1 Q):PE X e (sE Γ E')/\PT X e (sT Γ E'):=⟨h,by rw[hT];exact adH h he⟩
set_option tactic.hygienic true in
theorem adQ(hE:nQ c Γ N n)(hB:BN c Γ N n)(hC:BO c Γ N n)(hA:BP c Γ N n)(hO:Ja c Γ N n)(hI:BQ c Γ N n):nQ c Γ N (n+1):=by
 intro aC sc X C e;have W:=λe'=>hE aC sc X C e'
 have cmp:∀{a:aN}{ops:List xA}{bs:List aN}{pos:Pos},wc ops bs=false->ops.length=bs.length->
  PE X (.Compare a ops bs pos) (sE Γ (.cmp (aH c N n sc a) (pX c N n sc ops bs)))/\PT X (.Compare a ops bs pos) (sT Γ (.cmp (aH c N n sc a) (pX c N n sc ops bs))):=by
  intro a ops bs pos hm hl;constructor
  ·intro pins s σ H Q I h
   simp only[sE] at h;exact Zh (aJ ((W a).1 pins s σ H _ I h) λv s1 ⟨x,H1,I1,r1,q1⟩=>(hC aC sc X C ops bs pos pins s1 σ H1 x v hl I1 r1).1 Q q1) hm
  ·intro pins s σ H Q I h
   simp only[sT,sE] at h;exact adI (aJ ((W a).1 pins s σ H _ I h) λv s1 ⟨x,H1,I1,r1,q1⟩=>(hC aC sc X C ops bs pos pins s1 σ H1 x v hl I1 r1).2 Q q1) hm
 cases e with
 |Name x p=>exact both (Oh C x p) (λw=>rfl) (ae5 x)
 |Constant v k p=>
  cases v<;>try exact bC
  ·exact both (PE.imp OS λσ H Q q=>q) (λw=>rfl) rfl
  ·exact both (PE.imp ah0 λσ H Q q=>q) (λw=>rfl) rfl
  ·exact both (PE.imp OR λσ H Q q=>q) (λw=>rfl) rfl
 |BinOp a op b p=>
  rw[show aH c N (n+1) sc (.BinOp a op b p)=(match AD op with|some o=>.ay o (aH c N n sc a) (aH c N n sc b)|none=>.bad) from rfl];split
  ·rename_i o ho
   exact both (PE.imp (ah8 (agV op o ho) (W a).1 (W b).1) λσ H Q q=>q) (λw=>rfl) rfl
  ·exact bC
 |UnaryOp op a p=>
  cases op<;>try exact bC
  ·refine⟨PE.imp (ag3 (W a).1) λσ H Q q=>q,PT.imp (af_ (W a).2) λσ H Q q=>q⟩
  ·exact both (PE.imp (ag2 (W a).1) λσ H Q q=>q) (λw=>rfl) rfl
 |BoolOp op vs p=>
  exact⟨(hB aC sc X C op vs p).1,(hB aC sc X C op vs p).2.pt⟩
 |IfExp t a b p=>
  refine⟨PE.imp (adj (W t).2 (W a).1 (W b).1) λσ H Q q=>q,PT.imp (adO (W t).2 (W a).2 (W b).2) λσ H Q q=>q⟩
 |Compare a ops bs p=>
  show PE X _ (sE Γ (@ite _ _ _ _ _))/\PT X _ (sT Γ (@ite _ _ _ _ _));split
  ·exact bC
  ·rename_i hc
   have hm:wc ops bs=false:=by
    cases e:wc ops bs with
    |false=>rfl
    |true=>exact absurd (.inl e) hc
   have hl:ops.length=bs.length:=Sd λe=>hc (.inr e);split
   ·rename_i b
    split
    ·rename_i xs hg
     have:=O3 (pos:=p) false C hg (W a).1;exact⟨PE.imp this.1 λσ H Q q=>q,PT.imp this.2 λσ H Q q=>q⟩
    ·exact cmp hm hl
   ·rename_i b
    split
    ·rename_i xs hg
     have:=O3 (pos:=p) true C hg (W a).1;exact⟨PE.imp this.1 λσ H Q q=>q,PT.imp this.2 λσ H Q q=>q⟩
    ·exact cmp hm hl
   ·exact cmp hm hl
 |Attribute a f p=>
  show PE X _ (sE Γ (@ite _ _ _ _ _))/\PT X _ (sT Γ (@ite _ _ _ _ _));split
  ·rename_i hb
   exact both (PE.imp (agZ (W a).1 hb) λσ H Q q=>by rw[C.g.kk];exact q) (λw=>rfl) rfl
  ·exact bC
 |Tuple es k p=>
  show PE X _ (sE Γ (@ite _ _ _ _ _))/\PT X _ (sT Γ (@ite _ _ _ _ _));split
  ·rename_i hs
   exact both (PE.imp (agw (hA aC sc X C es hs)) λσ H Q q=>q) (λw=>rfl) rfl
  ·exact bC
 |List es p=>
  show PE X _ (sE Γ (@ite _ _ _ _ _))/\PT X _ (sT Γ (@ite _ _ _ _ _));split
  ·rename_i hs
   exact both (PE.imp (agx (hA aC sc X C es hs)) λσ H Q q=>q) (λw=>rfl) rfl
  ·exact bC
 |ListComp elt gs scope p=>
  match gs with
  |[]=>exact bC
  |[⟨tg,it,ifs,a⟩]=>
   by_cases ha:a=0
   ·subst ha
    cases hb:nj N sc scope (ownOf N scope) with
    |false=>
     rw[show aH c N (n+1) sc (.ListComp elt [⟨tg,it,ifs,0⟩] scope p)=.bad from if_pos hb];exact bC
    |true=>
     have hn:¬nj N sc scope (ownOf N scope)=false:=by rw[hb];decide
     match ifs with
     |[]=>
      rw[show aH c N (n+1) sc (.ListComp elt [⟨tg,it,[],0⟩] scope p)=.lc (aH c N n (jc scope sc) elt) (nA false N (jc scope sc) tg) (nO c N n sc (jy tg) it) (.cst (.bl true)) ((ownOf N scope).map (·.2)) from if_neg hn];exact both (Py (f:=elt) C hE hI hb λs H A cl fp=>λpins s' σ H Q I h=>N7 pins s' σ H Q I h) (λw=>rfl) rfl
     |[f]=>
      rw[show aH c N (n+1) sc (.ListComp elt [⟨tg,it,[f],0⟩] scope p)=.lc (aH c N n (jc scope sc) elt) (nA false N (jc scope sc) tg) (nO c N n sc (jy tg) it) (aH c N n (jc scope sc) f) ((ownOf N scope).map (·.2)) from if_neg hn];exact both (Py (f:=f) C hE hI hb λs H A cl fp=>N8 (hE false _ _ (C.dh s H scope cl A fp) f).2) (λw=>rfl) rfl
     |f::g::l=>
      rw[show aH c N (n+1) sc (.ListComp elt [⟨tg,it,f::g::l,0⟩] scope p)=.bad from if_neg hn];exact bC
   ·have e:aH c N (n+1) sc (.ListComp elt [⟨tg,it,ifs,a⟩] scope p)=.bad:=by
     cases a with
     |ofNat k=>cases k with
      |zero=>exact absurd rfl ha
      |succ k=>rfl
     |negSucc k=>rfl
    rw[e];exact bC
  |⟨_,_,_,z⟩::b::l=>cases z with
   |ofNat k=>cases k<;>exact bC
   |negSucc k=>exact bC
 |Subscript a b p=>
  have plain:tZ b=true->(match xo c sc a with
   |some j=>E.sy j (aH c N n sc b)
   |none=>match pD c sc a with
   |some xs=>E.yj xs (aH c N n sc b)
   |none=>if AF c N a=true then .fX (aH c N n sc a) (aH c N n sc b) else .ix (aH c N n sc a) (aH c N n sc b))=aH c N (n+1) sc (.Subscript a b p)->
   PE X (.Subscript a b p) (sE Γ (aH c N (n+1) sc (.Subscript a b p)))/\PT X (.Subscript a b p) (sT Γ (aH c N (n+1) sc (.Subscript a b p))):=by
   intro hn he;rw[←he];split
   ·rename_i j hj
    exact both (PE.imp (ag1 C hj (W b).1 (by cases b<;>first|(intro _ _;rfl)|(simp[tZ] at hn))) λσ H Q q=>q) (λw=>rfl) rfl
   split
   ·rename_i xs hg
    exact both (PE.imp (ag0 C hg (W b).1 (FT hn)) λσ H Q q=>q) (λw=>rfl) rfl
   ·split
    ·exact both (PE.imp (HS agW (W a).1 (W b).1 (FT hn)) λσ H Q q=>by rw[C.g.kk];exact q) (λw=>rfl) rfl
    ·exact both (PE.imp (HS aiu (W a).1 (W b).1 (FT hn)) λσ H Q q=>q) (λw=>rfl) rfl
  cases b with
  |Slice lo hi st q=>
   cases st with
   |none=>
    show PE X _ (sE Γ (@ite _ _ _ _ _))/\PT X _ (sT Γ (@ite _ _ _ _ _));split
    ·exact both (PE.imp (M7 agX (W a).1 (hO aC sc X C lo) (hO aC sc X C hi)) λσ H Q q=>by rw[C.g.kk];exact q) (λw=>rfl) rfl
    ·exact both (PE.imp (M7 aiv (W a).1 (hO aC sc X C lo) (hO aC sc X C hi)) λσ H Q q=>q) (λw=>rfl) rfl
   |some st=>exact bC
  |_=>exact plain rfl rfl
 |Call f args kws p=>
  cases kws with
  |cons k ks=>
   cases f with
   |Name x q=>
    obtain⟨nm,v,kpos⟩:=k;cases nm with
    |none=>first|exact bC|(cases ks<;>first|exact bC|(cases args<;>first|exact bC|(rename_i as;cases as<;>exact bC)))
    |some nm=>cases v with
     |Constant z kp pp=>cases z with
      |none=>cases ks with
       |cons _ _=>first|exact bC|(cases ks<;>first|exact bC|(cases args<;>first|exact bC|(rename_i as;cases as<;>exact bC)))
       |nil=>cases args with
        |nil=>exact bC
        |cons a as=>cases as with
         |cons _ _=>exact bC
         |nil=>
          show PE X _ (sE Γ (@ite _ _ _ _ _))/\PT X _ (sT Γ (@ite _ _ _ _ _));split
          ·exact bC
          ·rename_i hc
           have hc:(noStar [a]&&je sc x&& !ja sc x)=true:=by
            cases e:(noStar [a]&&je sc x&& !ja sc x) with
            |true=>rfl
            |false=>exact absurd e hc
           simp only[bx] at hc;split
           ·rename_i hx
            obtain⟨rfl,rfl⟩:=hx;exact both (PE.imp (ae9 hc.1.1 (lS hc.1.2 C.sc) C (W a).1) λσ H Q q=>q) (λw=>rfl) rfl
           ·exact bC
      |_=>first|exact bC|(cases ks<;>first|exact bC|(cases args<;>first|exact bC|(rename_i as;cases as<;>exact bC)))
     |_=>first|exact bC|(cases ks<;>first|exact bC|(cases args<;>first|exact bC|(rename_i as;cases as<;>exact bC)))
   |_=>first|exact bC|(cases args<;>first|exact bC|(rename_i as;cases as<;>exact bC))
  |nil=>
   have go:∀{E':E},sT Γ E'=(λσ H Q=>sE Γ E' σ H λx H1=>bE x H1 Q)->PE X (.Call f args [] p) (sE Γ E')->PE X (.Call f args [] p) (sE Γ E')/\PT X (.Call f args [] p) (sT Γ E'):=λh1 h2=>both h2 (λw=>rfl) h1;cases f with
   |Name x q=>
    show PE X _ (sE Γ (@ite _ _ _ _ _))/\PT X _ (sT Γ (@ite _ _ _ _ _));split
    ·exact bC
    ·rename_i sA
     have hs:noStar args=true:=by simpa using sA
     clear sA;split
     ·exact bC
     ·rename_i ok0
      have ok:kP x=true:=by simpa using ok0
      have BR:=hA aC sc X C args hs;split
      ·split
       ·exact bC
       ·rename_i hl
        exact go rfl (adP hl hs C BR)
      ·split
       ·exact bC
       ·rename_i hg0
        have hg:Gl X x:=lS (by simpa using hg0) C.sc;split
        ·rename_i j hj
         exact go rfl (afb hj ok hs hg C BR)
        ·split
         ·rename_i j hj
          exact go rfl (afc hj ok hs hg C BR)
         ·split
          ·rename_i b hb
           split
           ·rename_i hx
            obtain⟨rfl,hkv⟩:=hx;clear hkv;split
            ·rename_i a
             exact go rfl (PE.imp (afa hs hg C (W a).1) λσ H Q q=>by rw[C.g.kk];exact q)
            ·exact bC
           split
           ·rename_i a d hr
            split
            ·rename_i hx
             subst hx;exact go rfl (PE.imp (ae_ C hr hg (W a).1 (W d).1) λσ H Q q=>q)
            ·exact bC
           exact go rfl (PE.imp (ag4 hb hs hg C BR) λσ H Q q=>q)
          ·exact bC
   |Attribute o m ap=>
    match args with
    |[a]=>
     show PE X _ (sE Γ (@ite _ _ _ _ _))/\PT X _ (sT Γ (@ite _ _ _ _ _));split
     ·exact bC
     ·rename_i hc
      have hc:(oF o&&notStar a&&(ap.endLine==p.line))=true:=by
       cases e:(oF o&&notStar a&&(ap.endLine==p.line)) with
       |true=>rfl
       |false=>exact absurd e hc
      simp only[bx] at hc;obtain⟨⟨h1,h2⟩,h3⟩:=hc;split
      ·rename_i hm
       subst hm;exact go rfl (PE.imp (O2 (r':=kg) (W o).1 (W a).1 h1 h2 h3 Sg PySem.F.type_list_append abL (λx y H Q q=>ae6 q)) λσ H Q q=>q)
      ·split
       ·rename_i hm
        subst hm;exact go rfl (PE.imp (O2 (r':=pN) (W o).1 (W a).1 h1 h2 h3 Sh PySem.F.type_list_extend abM (λx y H Q q=>ae7 q)) λσ H Q q=>q)
       ·exact bC
    |[]=>exact bC
    |a::b::l=>exact bC
   |_=>exact bC
 |_=>exact bC
theorem sound(n:Nat):nQ c Γ N n/\BN c Γ N n/\BO c Γ N n/\BP c Γ N n/\Ja c Γ N n/\BQ c Γ N n:=by
 induction n with
 |zero=>
  refine⟨λaC sc X C e=>by exact bC,λaC sc X C op vs pos=>?_,λaC sc X C ops bs pos pins s σ H x v hl I rx=>?_,λaC sc X C es hs=>?_,λaC sc X C o=>?_,λaC sc X C tg e=>PI.bad⟩
  ·exact⟨PE.bad,λz z z z z z z h=>eV h⟩
  ·exact⟨λQ h=>eV h,λQ h=>eV h⟩
  ·cases es with
   |nil=>exact λpos pins s σ H Q I h=>j4 pos pins s σ H Q I h
   |cons a l=>exact λpos pins s σ H Q I h=>eV h
  ·cases o with
   |none=>exact λpins s σ H Q I h=>NZ pins s σ H Q I h
   |some a=>exact λpins s σ H Q I h=>eV h
 |succ n ih=>
  obtain⟨hE,hB,hC,hA,hO,hI⟩:=ih;exact⟨adQ hE hB hC hA hO hI,adL hE hB,adM hE hC,adJ hE hA,adK hE,adN hE⟩
end
noncomputable def Ol:aN->Bool
 | .Call _ _ _ _=>true
 |_=>false
noncomputable def Qt(N:List Str)(sc:bN):aN->Bool
 | .ListComp _ [⟨_,it,ifs,a⟩] scope _=>decide (a=0)&&nj N sc scope (ownOf N scope)&& !qZ it&&decide (ifs.length<=1)
 | .ListComp _ _ _ _=>false
 | .SetComp _ _ _ _=>false
 | .DictComp _ _ _ _ _=>false
 |_=>true
mutual
noncomputable def BS(c:Cfg)(N:List Str):Nat->bN->dQ->S
 |0,_,_=>.bad
 |n+1,sc,st=>match st with
  | .Return (some e) _=>.ret (aH c N n sc e)
  | .Return none _=>.Qs
  | .Assign [.Name x _] e _=>if Qt N sc e=false then .bad else (match j7 true N sc x with|some i=>.set i (aH c N n sc e)|none=>.bad)
  | .Assign [.Attribute o f _] e _=>.dI (aH c N n sc o) f (aH c N n sc e)
  | .Assign [.Subscript o i _] e _=>if tZ i=true then .rN (aH c N n sc o) (aH c N n sc i) (aH c N n sc e) else .bad
  | .AugAssign (.Name x _) .Add e _=>(match j7 true N sc x with|some i=>.aug i .add (aH c N n sc e)|none=>.bad)
  | .AugAssign (.Name x _) .Sub e _=>(match j7 true N sc x with|some i=>.aug i .sub (aH c N n sc e)|none=>.bad)
  | .If t a b _=>.ifs (aH c N n sc t) (nB c N n sc a) (nB c N n sc b)
  | .While t b [] _=>.yk (aH c N n sc t) (nB c N n sc b)
  | .For tg it b [] _=>if qZ it=true then .bad else .cU (nA true N sc tg) (nO c N n sc (jy tg) it) (nB c N n sc b)
  | .Expr e _=>if Ol e=true then .ex (aH c N n sc e) else .bad
  | .Pass _=>.pass
  | .Break _=>.brk
  | .Continue _=>.cnt
  |_=>.bad
noncomputable def nB(c:Cfg)(N:List Str):Nat->bN->List dQ->Ss
 |_,_,[]=>.nil
 |0,_,_::_=>.cons .bad .nil
 |n+1,sc,s::l=>.cons (BS c N n sc s) (nB c N n sc l)
end
section
variable{c:Cfg}{Γ:Ge}{N:List Str}{sc:bN}{X:Cx}
theorem PS.bad{st:dQ}:PS X st (sS Γ .bad):=λz z z z z z h=>by simp only[sS] at h
theorem PS.imp{st:dQ}(h:PS X st t)(i:∀D σ H,t' D σ H->t D σ H):PS X st t':=λpins s σ H D I q=>h pins s σ H D I (i _ _ _ q)
theorem ag6:qG e (some (.Attribute o f p)) l env=pure false:=by cases e<;>rfl
theorem ag7:qG e (some (.Subscript o i p)) l env=pure false:=by cases e<;>rfl
theorem afe:X0 [.Subscript o i p] e l env=pure false:=ag7 (e:=e) (o:=o) (i:=i) (p:=p) (l:=l) (env:=env)
set_option tactic.hygienic true in
theorem ag8:Ig X rA:=by
 intro pins s σ H o i v ov iv u Q I ro ri rv q;refine set_list pins s σ H o i v ov iv u Q I ro ri rv ?_;cases o<;>try exact(show False from q).elim
 all_goals (cases i<;>try exact(show False from q).elim)
 all_goals (delta rA at q;try dsimp only at q)
 split at q
 ·rename_i e
  split at q
  ·rename_i j e2;exact⟨_,_,_,j,rfl,rfl,e,e2,q⟩
  ·exact q.elim
 ·exact q.elim
theorem afg(ho:PE X o to)(he:PE X e te):PS X (.Assign [.Attribute o f p'] e p) (λD σ H=>te σ H λy H1=>to σ H1 λx H2=>pC X.K f x y H2 λH3=>D.nx σ H3):=by
 refine PS.imp (agv (PE.d7 ho) (PE.d7 he) ag6) λD σ H q=>⟨_,q,λy H1 q1=>⟨_,q1,λx H2 q2=>?_⟩⟩;cases x<;>try exact(show False from q2).elim
 all_goals (delta pC at q2;try dsimp only at q2)
 split at q2
 ·rename_i e;exact⟨_,_,_,_,rfl,e,q2.1,q2.2.1,q2.2.2.1,q2.2.2.2⟩
 ·exact q2.elim
set_option tactic.hygienic true in
theorem ag9(C:Ctx c Γ N true sc X)(hl:Qt N sc e=true)(hi:j7 true N sc x=some i):PS X (.Assign [.Name x p'] e p) (sS Γ (.set i (aH c N n sc e))):=by
 obtain⟨a,b,d⟩:=zT C hi;have hN:X.N.Nodup:=by rw[C.nN];exact C.nd
 have hE:=((sound (c:=c) (Γ:=Γ) (N:=N) n).1 true sc X C e).1
 have plain:qG e (some (.Name x p')) p.line X.env=pure false->PS X (.Assign [.Name x p'] e p) (sS Γ (.set i (aH c N n sc e))):=λhs=>
  PS.imp (agf hN a b hE hs d) λD σ H q=>q
 cases n with
 |zero=>
  intro pins s σ H D I h;exact(show False from h).elim
 |succ n=>
 obtain⟨kE,kB,kC,kA,kO,kI⟩:=sound (c:=c) (Γ:=Γ) (N:=N) n;cases e<;>try exact plain rfl
 case ListComp elt gs scope q=>
  match gs,hl with
  |[⟨tg,it,ifs,z⟩],hl=>
   have hl:(decide (z=0)&&nj N sc scope (ownOf N scope)&& !qZ it&&decide (ifs.length<=1))=true:=hl;simp only[bx,decide_eq_true_eq,Kq] at hl;obtain⟨⟨⟨rfl,hb⟩,ajK⟩,hif⟩:=hl;have ya:qG (.ListComp elt [⟨tg,it,ifs,0⟩] scope q) (some (.Name x p')) p.line X.env=pure (X.env.blockKind==.function&&X.env.kindOf x==some .local&&p'.line==q.line&& !(scope.names.any λ(n,k)=>n==x&&(k==.local||k==.cell))):=rfl;cases hB:(X.env.blockKind==.function&&X.env.kindOf x==some .local&&p'.line==q.line&& !(scope.names.any λ(n,k)=>n==x&&(k==.local||k==.cell))) with
   |false=>exact plain (by rw[ya,hB])
   |true=>
    rw[hB] at ya
    have BC:X.env.scope.names.lookup x=some .local:=by
     simp only[bx] at hB;exact eq_of_beq hB.1.1.2
    have fin:∀{tc:E},(∀s H A cl fp,sj (X.dh s H scope (iK scope cl A X.env) fp) ifs (sT Γ tc))->
     aH c N (n+1) sc (.ListComp elt [⟨tg,it,ifs,0⟩] scope q)=.lc (aH c N n (jc scope sc) elt) (nA false N (jc scope sc) tg) (nO c N n sc (jy tg) it) tc ((ownOf N scope).map (·.2))->
     PS X (.Assign [.Name x p'] (.ListComp elt [⟨tg,it,ifs,0⟩] scope q) p) (sS Γ (.set i (aH c N (n+1) sc (.ListComp elt [⟨tg,it,ifs,0⟩] scope q)))):=by
     intro tc ht he;rw[he]
     refine PS.imp (adu C.calm hN a BC ya (kI true sc X C tg it) (M_ (by rw[C.nN,C.sc];exact hb)) (λs H A cl fp=>HZ (C.dh s H scope cl A fp) tg) ht
      (λs H A cl fp=>(kE false _ _ (C.dh s H scope cl A fp) elt).1) (Gr ajK X.env)) λD σ H q=>q
    have Q7:¬nj N sc scope (ownOf N scope)=false:=by rw[hb];simp
    rcases ifs with _|⟨f,_|⟨g,l⟩⟩
    ·exact fin (tc:=.cst (.bl true)) (λs H A cl fp=>λpins s' σ H Q I h=>N7 pins s' σ H Q I h) (if_neg Q7)
    ·exact fin (λs H A cl fp=>N8 (kE false _ _ (C.dh s H scope cl A fp) f).2) (if_neg Q7)
    ·simp at hif
  |[],hl=>exact gW (show false=true from hl)
  |⟨_,_,_,_⟩::b::l,hl=>exact gW (show false=true from hl)
 case SetComp=>exact gW (show false=true from hl)
 case DictComp=>exact gW (show false=true from hl)
set_option tactic.hygienic true in
theorem O5(ho:(op=.Add/\o=.add)\/(op=.Sub/\o=.sub))(C:Ctx c Γ N true sc X)(hi:j7 true N sc x=some i):PS X (.AugAssign (.Name x p') op e p) (sS Γ (.aug i o (aH c N n sc e))):=by
 obtain⟨a,b,d⟩:=zT C hi;have hN:X.N.Nodup:=by rw[C.nN];exact C.nd
 have hE:=((sound (c:=c) (Γ:=Γ) (N:=N) n).1 true sc X C e).1
 have fin:∀{f:Int->Int->Int},Bs X op (IJ f)->(∀i j H Q,c9 o (.int i) (.int j) H Q->Q (.int (f i j)) H)->PS X (.AugAssign (.Name x p') op e p) (sS Γ (.aug i o (aH c N n sc e))):=by
  intro f hp hf;refine PS.imp (agg hN a b (PE.d7 hE) hp d) λD σ H q=>?_;simp only[sS] at q;split at q
  ·rename_i v e1
   refine⟨v,e1,_,q,λy H1 q1=>?_⟩;split at q1
   ·exact⟨_,_,rfl,rfl,hf _ _ _ _ q1⟩
   ·exact q1.elim
  ·exact q.elim
 rcases ho with⟨rfl,rfl⟩|⟨rfl,rfl⟩
 ·exact fin agh λi j H Q q=>q
 ·exact fin agi λi j H Q q=>q
def Jc(c:Cfg)(Γ:Ge)(N:List Str)(n:Nat):Prop:=∀sc X,Ctx c Γ N true sc X->∀st,PS X st (sS Γ (BS c N n sc st))
def Qu(c:Cfg)(Γ:Ge)(N:List Str)(n:Nat):Prop:=∀sc X,Ctx c Γ N true sc X->∀st,jG X st (ak Γ (nB c N n sc st))
theorem never{X:Cx}(h:X.xe=λz z=>False):MW (model X.prog X.w) X.A X.env X.xe:=by rw[h];exact MW.never
theorem adR(hS:Jc c Γ N n)(BU:Qu c Γ N n):Jc c Γ N (n+1):=by
 intro sc X C st;obtain⟨kE,kB,kC,kA,kO,kI⟩:=sound (c:=c) (Γ:=Γ) (N:=N) n;have W:=λe=>kE true sc X C e;cases st with
 |Return e p=>cases e with
  |some e=>exact agb (W e).1
  |none=>exact aeJ
 |Assign ts e p=>cases ts with
  |nil=>exact PS.bad
  |cons t ts=>cases ts with
   |cons _ _=>first|exact PS.bad|(cases t<;>exact PS.bad)
   |nil=>cases t with
    |Name x q=>
     show PS X _ (sS Γ (@ite _ _ _ _ _));split
     ·exact PS.bad
     ·rename_i hl
      split
      ·rename_i hi;exact ag9 C (by simpa using hl) hi
      ·exact PS.bad
    |Attribute o f q=>exact PS.imp (afg (W _).1 (W _).1) λD σ H q=>by rw[C.g.kk];exact q
    |Subscript o i q=>
     show PS X _ (sS Γ (@ite _ _ _ _ _));split
     ·rename_i hn
      exact age (W _).1 (agd (W _).1 (W _).1 ag8 (by cases i<;>first|(intro _;rfl)|(simp[tZ] at hn))) afe rfl rfl
     ·exact PS.bad
    |_=>exact PS.bad
 |AugAssign tg op e p=>cases tg with
  |Name x q=>cases op with
   |Add=>
    rw[show BS c N (n+1) sc (.AugAssign (.Name x q) .Add e p)=(match j7 true N sc x with|some i=>.aug i .add (aH c N n sc e)|none=>.bad) from rfl];split
    ·rename_i hi;exact O5 (.inl ⟨rfl,rfl⟩) C hi
    ·exact PS.bad
   |Sub=>
    rw[show BS c N (n+1) sc (.AugAssign (.Name x q) .Sub e p)=(match j7 true N sc x with|some i=>.aug i .sub (aH c N n sc e)|none=>.bad) from rfl];split
    ·rename_i hi;exact O5 (.inr ⟨rfl,rfl⟩) C hi
    ·exact PS.bad
   |_=>exact PS.bad
  |_=>first|exact PS.bad|(cases op<;>exact PS.bad)
 |If t a b p=>exact ah5 (W _).2 (BU sc X C _) (BU sc X C _)
 |While t b e p=>cases e with
  |nil=>exact ado (never C.xe) (W _).2 (BU sc X C _)
  |cons _ _=>exact PS.bad
 |For tg it b e p=>cases e with
  |nil=>
   show PS X _ (sS Γ (@ite _ _ _ _ _));split
   ·exact PS.bad
   ·rename_i hs
    exact agj (never C.xe) C.calm (kI true sc X C _ _) (HZ C _) (BU sc X C _) (Gr (by simpa using hs) X.env)
  |cons _ _=>exact PS.bad
 |Expr e p=>
  show PS X _ (sS Γ (@ite _ _ _ _ _));split
  ·rename_i hc
   exact aeI (W _).1 (by cases e<;>first|rfl|(simp[Ol] at hc))
  ·exact PS.bad
 |Pass p=>exact aeH
 |Break p=>exact adl
 |Continue p=>exact Zc
 |_=>exact PS.bad
theorem ag_(n:Nat):Jc c Γ N n/\Qu c Γ N n:=by
 induction n with
 |zero=>
  refine⟨λsc X C st=>PS.bad,λsc X C st=>?_⟩;cases st with
  |nil=>exact λpins s σ H D I q=>NR pins s σ H D I q
  |cons a l=>exact λpins s σ H D I q=>eV q
 |succ n ih=>
  refine⟨adR ih.1 ih.2,λsc X C st=>?_⟩;cases st with
  |nil=>exact λpins s σ H D I q=>NR pins s σ H D I q
  |cons a l=>exact λpins s σ H D I q=>adk (ih.1 sc X C a) (ih.2 sc X C l) pins s σ H D I q
end
end Mini
namespace Mini
open PySem PySem.Spec PyProof.Rows L2
structure AI(c:Cfg)(Γ:Ge)(P:bL)(w:aR)(K:aD)(mg:Str->Option Value)(base:aS)(k:Nat):Prop where
 kk:K=Γ.K
 cst:∀x v,c.consts.lookup x=some v->∃u,mg x=some u/\RelV v u
 gr:∀x j,idx x c.rB=some j->∃u,mg x=some u/\RelV (Γ.gv j) u
 tup:∀x xs,c.iN.lookup x=some xs->∃a,mg x=some (.ref a)/\∀H,aP K H a xs
 fn:∀x j,idx x c.fns=some j->j<Γ.lim->mg x=some (.ref (Γ.fa j))
 fa:∀j,j<Γ.lim->∃(k':Nat)(fd:gY)(ps:List Str),k'<=k/\eF P w K mg base iy k' (Γ.fa j) fd ps (Γ.fn j)/\lA K (.ref (Γ.fa j))=true/\Binds K fd ps []
 cls:∀x j,idx x c.rP=some j->j<Γ.ie->mg x=some (.ref (Γ.cl j))
 ca:∀j,j<Γ.ie->∃(k':Nat)(f:Addr)(fd:gY)(ps:List Str),k'+1<=k/\Mk K (Γ.cl j) f/\eF P w K mg base iy k' f fd ps (Γ.yl j)/\Binds K fd ps []
 blt:∀x,x∈zS->mg x=none
 gd:∀x j,idx x c.rQ=some j->∃a,mg x=some (.ref a)/\AH P w K a (Γ.gd j)
section
variable{c:Cfg}{Γ:Ge}{P:bL}{w:aR}{K:aD}{mg:Str->Option Value}{base:aS}{k:Nat}
theorem AI.at(G:AI c Γ P w K mg base k)(hr:dD k A):Glob c Γ P w K mg base A where
 kk:=G.kk
 un:=hr.units
 cst:=G.cst
 gr:=G.gr
 tup:=G.tup
 fn:=G.fn
 fa:=λj hj=>let ⟨k',fd,ps,hk,F,kp,b⟩:=G.fa j hj;⟨k',fd,ps,F,hr.mono hk,kp,b⟩
 cls:=G.cls
 ca:=λj hj=>let ⟨k',f,fd,ps,hk,M,F,b⟩:=G.ca j hj;⟨k',f,fd,ps,M,F,hr.mono hk,b⟩
 blt:=G.blt
 gd:=G.gd
theorem uz{x qual:Str}{st:dQ}{f:Addr}{fd:gY}{N ps:List Str}{sp:Sp}{body:Ss}{fuel:Nat}(G:AI c Γ P w K mg base k)(F:jh K x qual st f fd)(S:wD N ps (iI st))
 (hb:nB c N fuel (iI st) (lR st)=body) (len:∀vs H Q E,sp vs H Q E->vs.length=ps.length)
 (main:∀vs H Q E,sp vs H Q E->ak Γ body {nx:=λz H'=>Q .az H',rt:=Q} (start N vs) H):eF P w K mg base iy (k+1) f fd ps sp:=by
 refine F.ok S len λcM A outer s H vs Q E hr h=>⟨_,?_,main vs H Q E h⟩;rw[←hb];refine(ag_ (c:=c) (Γ:=Γ) (N:=N) fuel).2 _ _ ⟨rfl,S.nd,rfl,rfl,rfl,λz z=>rfl,G.at hr⟩ _
end
section
variable{H:Hp}{Q:VK}{i j:Int}{a b:Addr}{xs ys:List V}{x y:V}{K:aD}
theorem wR:c9 .add (.int i) (.int j) H Q=Q (.int (i+j)) H:=rfl
theorem aha:c9 .sub (.int i) (.int j) H Q=Q (.int (i-j)) H:=rfl
theorem ahb:c9 .mul (.int i) (.int j) H Q=(xE i j/\Q (.int (i*j)) H):=rfl
theorem Om:c9 .fdiv (.int i) (.int j) H Q=(AR i j/\Q (.int (i/j)) H):=rfl
theorem ahc:c9 .mod (.int i) (.int j) H Q=(0<j/\Q (.int (i % j)) H):=rfl
theorem ahd:c9 .shl (.int i) (.int j) H Q=(Ij i j/\Q (.int (i*2^j.toNat)) H):=rfl
theorem ahe:c9 .shr (.int i) (.int j) H Q=(0<=j/\Q (.int (i/2^j.toNat)) H):=rfl
theorem afh:c9 .band (.int i) (.int j) H Q=Q (.int (vK i j)) H:=rfl
theorem ahf:c9 .bor (.int i) (.int j) H Q=Q (.int (EA i j)) H:=rfl
theorem xr:dW .eq (.int i) (.int j) H Q=Q (.bl (decide (i=j))) H:=rfl
theorem aiw:dW .ne (.int i) (.int j) H Q=Q (.bl (!decide (i=j))) H:=rfl
theorem Pz:dW .lt (.int i) (.int j) H Q=Q (.bl (decide (i<j))) H:=rfl
theorem aix:dW .le (.int i) (.int j) H Q=Q (.bl (decide (i<=j))) H:=rfl
theorem PB:dW .gt (.int i) (.int j) H Q=Q (.bl (decide (j<i))) H:=rfl
theorem aiy:dW .ge (.int i) (.int j) H Q=Q (.bl (decide (j<=i))) H:=rfl
theorem ajL:dW .vd x .az H Q=Q (.bl (decide (x=.az))) H:=by cases x<;>rfl
theorem H_:dW .pL x .az H Q=Q (.bl (!decide (x=.az))) H:=by cases x<;>rfl
theorem lX:bE (.bl c) H R=R c H:=rfl
theorem aun:bE (.int i) H R=R (!decide (i=0)) H:=rfl
theorem auo:bE .az H R=R false H:=rfl
theorem ahg{x y:Bool}:(if c=true then Q (.bl x) H else Q (.bl y) H)=Q (.bl (if c=true then x else y)) H:=by cases c<;>rfl
theorem afi:(if c=true then Q (.int i) H else Q (.int j) H)=Q (.int (if c=true then i else j)) H:=by cases c<;>rfl
theorem au_{x y:Bool}{R:Bool->Hp->Prop}:(if c=true then R x H else R y H)=R (if c=true then x else y) H:=by cases c<;>rfl
theorem afj{c x:Bool}:(if c=true then x else false)=(c&&x):=by cases c<;>rfl
theorem auP{c x:Bool}:(if c=true then true else x)=(c||x):=by cases c<;>rfl
theorem afk:sE Γ (.eG c (.cst (.int i)) (.cst (.int j))) σ H Q=sT Γ c σ H λk H1=>Q (.int (if k=true then i else j)) H1:=by
 simp only[sE];congr 1;funext k H1;cases k<;>simp
theorem ahh:cu .min2 [.int i,.int j] H Q=Q (.int (min i j)) H:=rfl
theorem ahi:cu .max2 [.int i,.int j] H Q=Q (.int (max i j)) H:=rfl
theorem bM(h:H a=some (.lst xs)):rd H a=some xs:=by unfold rd;rw[h]
theorem aO(h:H a=some (.tup xs)):rd H a=some xs:=by unfold rd;rw[h]
theorem d8{α:Type}{x:α}{l:List α}:cF (x::l) 0=some x:=by simp[cF,iS]
theorem Ai{α:Type}{x:α}{l:List α}{n:Nat}:cF (x::l) ((n:Int)+1)=cF l (n:Int):=by
 unfold cF iS;have h1:(0:Int)<=(n:Int)+1:=by omega
 have h2:(0:Int)<=(n:Int):=by omega
 simp only[h1,h2,if_true,ck]
 by_cases h:n<l.length
 ·have a1:((n:Int)+1<((l.length+1:Nat):Int)):=by omega
  have a2:((n:Int)<(l.length:Int)):=by omega
  rw[if_pos a1,if_pos a2];have e:((n:Int)+1).toNat=n+1:=by omega
  simp[e]
 ·have a1:¬((n:Int)+1<((l.length+1:Nat):Int)):=by omega
  have a2:¬((n:Int)<(l.length:Int)):=by omega
  rw[if_neg a1,if_neg a2];rfl
end
end Mini
namespace Mini
section
variable{α:Type}{a b c d e:α}{l:List α}
theorem iA:L2.cF (a::b::l) 1=some b:=by have:=Ai (x:=a) (l:=b::l) (n:=0);simpa[d8] using this
theorem at2:L2.cF (a::b::c::l) 2=some c:=by have:=Ai (x:=a) (l:=b::c::l) (n:=1);simpa[iA] using this
theorem Jd:L2.cF (a::b::c::d::l) 3=some d:=by have:=Ai (x:=a) (l:=b::c::d::l) (n:=2);simpa[at2] using this
theorem at4:L2.cF (a::b::c::d::e::l) 4=some e:=by have:=Ai (x:=a) (l:=b::c::d::e::l) (n:=3);simpa[Jd] using this
end
end Mini
namespace Mini
open PySem PySem.Spec PyProof.Rows L2
theorem ah.upd(s:ah H H')(n:H' a=none):ah H (upd H' a o):=λb x h=>by
 rw[aI (bV (s b x h) n)];exact s b x h
theorem ah.new(n:H a=none):ah H (L2.upd H a o):=ah.upd (ah.refl H) n
theorem ah.put(s:ah H H')(n:H a=none):ah H (L2.upd H' a o):=λb x h=>by
 rw[aI (bV h n)];exact s b x h
set_option tactic.hygienic true in
theorem ah.rows(s:ah H H'):∀{xs:List V}{rs:List (List Int)},rows? H xs=some rs->rows? H' xs=some rs
 |[],rs,h=>h
 |x::xs,rs,h=>by
  cases x<;>simp only[rows?] at h<;>try (cases h;done)
  rename_i a;split at h
  ·rename_i ys e
   split at h
   ·rename_i ns r e2 e3
    simp only[rows?,s a _ e,e2,ah.rows s e3];exact h
   ·cases h
  ·cases h
def aZ(H:Hp)(p:Addr)(rs:List (List Int)):Prop:=∃xs,H p=some (.lst xs)/\rows? H xs=some rs/\rs.length<=70000/\∀r∈rs,r.length<=70000
theorem aZ.same(h:aZ H p rs)(s:ah H H'):aZ H' p rs:=let ⟨xs,a,b,c⟩:=h;⟨xs,s _ _ a,ah.rows s b,c⟩
theorem ints_map(ns:List Int):ints? (ns.map V.int)=some ns:=by
 induction ns with
 |nil=>rfl
 |cons n l ih=>simp only[aV,ints?,ih];rfl
set_option tactic.hygienic true in
theorem wj:∀{xs:List V}{rs:List (List Int)},rows? H xs=some rs->xs.length=rs.length/\∀(i:Nat)(r:List Int),rs[i]?=some r->∃a:Addr,xs[i]?=some (V.ref a)/\H a=some (.tup (r.map V.int))
 |[],rs,h=>by cases h;exact⟨rfl,λi r e=>by simp at e⟩
 |x::xs,rs,h=>by
  cases x<;>simp only[rows?] at h<;>try (cases h;done)
  rename_i a;split at h
  ·rename_i ys e
   split at h
   ·rename_i ns r e2 e3
    cases h;obtain⟨l,g⟩:=wj e3;refine⟨by simp[l],λi q hq=>?_⟩;cases i with
    |zero=>
     simp at hq;subst hq;exact⟨a,rfl,by rw[e,ints_of e2]⟩
    |succ i=>simpa using g i q (by simpa using hq)
   ·cases h
  ·cases h
set_option tactic.hygienic true in
theorem wk:∀{xs:List V}{rs:List (List Int)}{a:Addr}{r:List Int},rows? H xs=some rs->H a=some (.tup (r.map V.int))->rows? H (xs++[V.ref a])=some (rs++[r])
 |[],rs,a,r,h,e=>by cases h;simp only[KN,rows?,e,ints_map]
 |x::xs,rs,a,r,h,e=>by
  cases x<;>simp only[rows?] at h<;>try (cases h;done)
  split at h
  ·rename_i ys e1
   split at h
   ·rename_i ns q e2 e3
    cases h;simp only[qe,rows?,e1,e2,wk e3 e]
   ·cases h
  ·cases h
section
variable{K:aD}{a:Addr}{xs:List V}{tt:TT}{te:TE}{vs:List Nat}{σ:L2.St}{H1:Hp}{D:Addr}{Qd:Hp->Prop}{f:Nat->Option V}
abbrev kh(tt:TT)(te:TE)(σ:L2.St)(H:Hp)(l:Option V):Prop:=∀R:Option V->Hp->Prop,(∀H',ah H H'->R l H')->tt σ H λb H3=>if b=true then te σ H3 λy H4=>R (some y) H4 else R none H3
noncomputable def flat(f:Nat->Option V)(n:Nat):List V:=(cS n).filterMap f
theorem My(f:Nat->Option V)(i:Nat):flat f (i+1)=flat f i++(f i).toList:=by
 unfold flat;rw[DR,List.filterMap_append];cases e:f i<;>simp[e]
theorem afl(f:Nat->Option V)(n:Nat):(flat f n).length<=n:=by
 unfold flat;have:=List.length_filterMap_le f (cS n);simpa using this
theorem uw{J:It}{g:TG}(hD:H1 D=none)(hn:n<=sizeLine)(aiz:∀H,ah H1 H->J.stop n H)(hgo:∀i H,i<n->ah H1 H->J.go i H)(aiA:∀i H x H',i<n->ah H1 H->J.nG i H x H'->∀Q:L2.St->Hp->Prop,(∀cZ H2,ah H H2->wipe cZ vs=wipe σ vs->kh tt te cZ H2 (f i)->Q cZ H2)->g x (wipe σ vs) H' Q)(hd:∀H,ah H1 H->H D=some (.lst (flat f n))->Qd H):
 ∃W:Nat->Nat->Hp->Prop,(∃m,W 0 m (L2.upd H1 D (.lst [])))/\∀i m H,W i m H->
  (J.stop i H/\Qd H)\/(J.go i H/\∃Nx:Hp->Prop,(∀H',Nx H'->∃m',m'<m/\W (i+1) m' H')/\∀x H',J.nG i H x H'->g x (wipe σ vs) H' λcZ H2=>wipe cZ vs=wipe σ vs/\tt cZ H2 λb H3=>
   if b=true then te cZ H3 λy H4=>∃acc,H4 D=some (.lst acc)/\acc.length<sizeLine/\Nx (L2.upd H4 D (.lst (acc++[y]))) else Nx H3):=by
 refine⟨λi m H=>m=n-i/\i<=n/\ah H1 H/\H D=some (.lst (flat f i)),⟨n,by simp,dH _,ah.new hD,au⟩,?_⟩;rintro i m H ⟨rfl,hi,hs,Q8⟩
 by_cases aM:i<n
 ·refine .inr ⟨hgo i H aM hs,λH'=>ah H1 H'/\H' D=some (.lst (flat f (i+1))),λH' ⟨a,b⟩=>⟨n-(i+1),by grind,rfl,by trivial,a,b⟩,λx H' hy=>?_⟩
  refine aiA i H x H' aM hs hy _ λcZ H2 s2 hw had=>⟨hw,?_⟩
  refine had (λl H'=>match l with
   |none=>ah H1 H'/\H' D=some (.lst (flat f (i+1)))
   |some y=>∃acc,H' D=some (.lst acc)/\acc.length<sizeLine/\ah H1 (L2.upd H' D (.lst (acc++[y])))/\(L2.upd H' D (.lst (acc++[y]))) D=some (.lst (flat f (i+1)))) λH3 s3=>?_
  have yp:H3 D=some (.lst (flat f i)):=s3 _ _ (s2 _ _ Q8);have x9:ah H1 H3:=(hs.trans s2).trans s3;cases e:f i with
  |none=>exact⟨x9,by rw[My,e,yp];simp⟩
  |some y=>
   have:=afl f i;exact⟨_,yp,by lia,ah.put x9 hD,by rw[au,My,e];rfl⟩
 ·have e:i=n:=by lia
  subst e;exact .inl ⟨aiz H hs,hd H hs Q8⟩
theorem afm(hx:H1 a=some (.lst xs))(hD:H1 D=none)(hn:xs.length<=sizeLine)(hw:∀u v:V,wipe (((wipe σ vs).set k (some u)).set x (some v)) vs=wipe σ vs)(hs:∀(i:Nat)(v:V)(H:Hp),xs[i]?=some v->ah H1 H->kh tt te (((wipe σ vs).set k (some (.int (i:Nat)))).set x (some v)) H (f i))(hd:∀H,ah H1 H->H D=some (.lst (flat f xs.length))->Qd H):
 ∃W:Nat->Nat->Hp->Prop,(∃m,W 0 m (L2.upd H1 D (.lst [])))/\∀i m H,W i m H->
  ((nJ K a).stop i H/\Qd H)\/((nJ K a).go i H/\∃Nx:Hp->Prop,(∀H',Nx H'->∃m',m'<m/\W (i+1) m' H')/\∀z H',(nJ K a).nG i H z H'->bJ K (.tup [k,x]) z (wipe σ vs) H' λcZ H2=>wipe cZ vs=wipe σ vs/\tt cZ H2 λb H3=>
    if b=true then te cZ H3 λy H4=>∃acc,H4 D=some (.lst acc)/\acc.length<sizeLine/\Nx (L2.upd H4 D (.lst (acc++[y]))) else Nx H3):=by
 refine uw (n:=xs.length) hD hn (λH s=>⟨xs,aG.of (s _ _ hx),aY _⟩) (λi H hi s=>⟨xs,xs[i],aG.of (s _ _ hx),by simp[hi]⟩) (λi H z H' hi s hy Q hQ=>?_) hd;obtain⟨T,v,rfl,hT,rfl,hv⟩:=hy;have hv:=hv xs (aG.of (s _ _ hx));simp only[bJ,au,ck,eT,true_and,qa,sY,oi,tD];have s2:ah H (L2.upd H T (.tup [.int i,v])):=ah.new hT;exact hQ _ _ s2 (hw _ _) (hs i v _ hv (s.trans s2))
theorem O6(hx:H1 a=some (.lst xs))(hD:H1 D=none)(hn:xs.length<=sizeLine)(hw:∀v:V,wipe ((wipe σ vs).set x (some v)) vs=wipe σ vs)(hs:∀i v H,xs[i]?=some v->ah H1 H->kh tt te ((wipe σ vs).set x (some v)) H (f i))(hd:∀H,ah H1 H->H D=some (.lst (flat f xs.length))->Qd H):
 ∃W:Nat->Nat->Hp->Prop,(∃m,W 0 m (L2.upd H1 D (.lst [])))/\∀i m H,W i m H->
  ((kY K a).stop i H/\Qd H)\/((kY K a).go i H/\∃Nx:Hp->Prop,(∀H',Nx H'->∃m',m'<m/\W (i+1) m' H')/\∀z H',(kY K a).nG i H z H'->bJ K (.name x) z (wipe σ vs) H' λcZ H2=>wipe cZ vs=wipe σ vs/\tt cZ H2 λb H3=>
    if b=true then te cZ H3 λy H4=>∃acc,H4 D=some (.lst acc)/\acc.length<sizeLine/\Nx (L2.upd H4 D (.lst (acc++[y]))) else Nx H3):=by
 refine uw (n:=xs.length) hD hn (λH s=>⟨xs,aG.of (s _ _ hx),aY _⟩) (λi H hi s=>⟨xs,xs[i],aG.of (s _ _ hx),by simp[hi]⟩) (λi H z H' hi s hy Q hQ=>?_) hd;obtain⟨rfl,hv⟩:=hy;have hv:=hv xs (aG.of (s _ _ hx));exact hQ _ _ (ah.refl _) (hw _) (hs i z _ hv s)
theorem afn(hx:aP K H1 a xs)(BV:∀H,ah H1 H->aP K H a xs)(hD:H1 D=none)(hn:xs.length<=sizeLine)(hw:∀v:V,wipe ((wipe σ vs).set x (some v)) vs=wipe σ vs)(hs:∀i v H,xs[i]?=some v->ah H1 H->kh tt te ((wipe σ vs).set x (some v)) H (f i))(hd:∀H,ah H1 H->H D=some (.lst (flat f xs.length))->Qd H):
 ∃W:Nat->Nat->Hp->Prop,(∃m,W 0 m (L2.upd H1 D (.lst [])))/\∀i m H,W i m H->
  ((rY K a).stop i H/\Qd H)\/((rY K a).go i H/\∃Nx:Hp->Prop,(∀H',Nx H'->∃m',m'<m/\W (i+1) m' H')/\∀z H',(rY K a).nG i H z H'->bJ K (.name x) z (wipe σ vs) H' λcZ H2=>wipe cZ vs=wipe σ vs/\tt cZ H2 λb H3=>
    if b=true then te cZ H3 λy H4=>∃acc,H4 D=some (.lst acc)/\acc.length<sizeLine/\Nx (L2.upd H4 D (.lst (acc++[y]))) else Nx H3):=by
 refine uw (n:=xs.length) hD hn (λH s=>⟨xs,BV H s,aY _⟩) (λi H hi s=>⟨xs,xs[i],BV H s,by simp[hi]⟩) (λi H z H' hi s hy Q hQ=>?_) hd;obtain⟨rfl,hv⟩:=hy;have hv:=hv xs (BV _ s);exact hQ _ _ (ah.refl _) (hw _) (hs i z _ hv s)
theorem ahj{lo:Int}(hD:H1 D=none)(hn:n<=sizeLine)(hw:∀v:V,wipe ((wipe σ vs).set x (some v)) vs=wipe σ vs)(hs:∀i H,i<n->ah H1 H->kh tt te ((wipe σ vs).set x (some (.int (lo+i)))) H (f i))(hd:∀H,ah H1 H->H D=some (.lst (flat f n))->Qd H):
 ∃W:Nat->Nat->Hp->Prop,(∃m,W 0 m (L2.upd H1 D (.lst [])))/\∀i m H,W i m H->
  ((L2.iu lo n).stop i H/\Qd H)\/((L2.iu lo n).go i H/\∃Nx:Hp->Prop,(∀H',Nx H'->∃m',m'<m/\W (i+1) m' H')/\∀z H',(L2.iu lo n).nG i H z H'->bJ K (.name x) z (wipe σ vs) H' λcZ H2=>wipe cZ vs=wipe σ vs/\tt cZ H2 λb H3=>
    if b=true then te cZ H3 λy H4=>∃acc,H4 D=some (.lst acc)/\acc.length<sizeLine/\Nx (L2.upd H4 D (.lst (acc++[y]))) else Nx H3):=by
 refine uw (n:=n) hD hn (λH s=>aY _) (λi H hi s=>hi) (λi H z H' hi s hy Q hQ=>?_) hd;obtain⟨rfl,rfl⟩:=hy;exact hQ _ _ (ah.refl _) (hw _) (hs i _ hi s)
end
section
variable{K:aD}{wi:TI}{x k n:Nat}{lo c:Int}{a:Addr}{xs:List V}{tt:TT}{te:TE}{vs:List Nat}{σ:L2.St}{H H1:Hp}{Q:VK}
theorem Je(f:Nat->Option V)(hI:∀R,R (L2.iu lo n) H1->wi σ H R)(hn:n<=sizeLine)(hw:∀v:V,wipe ((wipe σ vs).set x (some v)) vs=wipe σ vs)
 (hs:∀i H,i<n->ah H1 H->kh tt te ((wipe σ vs).set x (some (.int (lo+i)))) H (f i)) (hd:∀H' D,ah H1 H'->H' D=some (.lst (flat f n))->Q (.ref D) H'):eZ wi (bJ K (.name x)) tt te vs σ H Q:=
 hI _ λD hD=>ahj (f:=f) hD hn hw hs λH' s e=>hd H' D s e
theorem jJ(f:Nat->Option V)(hI:∀R,R (nJ K a) H1->wi σ H R)(hx:H1 a=some (.lst xs))(hn:xs.length<=sizeLine)(hw:∀u v:V,wipe (((wipe σ vs).set k (some u)).set x (some v)) vs=wipe σ vs)
 (hs:∀(i:Nat)(v:V)(H:Hp),xs[i]?=some v->ah H1 H->kh tt te (((wipe σ vs).set k (some (.int (i:Nat)))).set x (some v)) H (f i)) (hd:∀H' D,ah H1 H'->H' D=some (.lst (flat f xs.length))->Q (.ref D) H'):eZ wi (bJ K (.tup [k,x])) tt te vs σ H Q:=
 hI _ λD hD=>afm (f:=f) hx hD hn hw hs λH' s e=>hd H' D s e
theorem pY(f:Nat->Option V)(hI:∀R,R (kY K a) H1->wi σ H R)(hx:H1 a=some (.lst xs))(hn:xs.length<=sizeLine)(hw:∀v:V,wipe ((wipe σ vs).set x (some v)) vs=wipe σ vs)
 (hs:∀i v H,xs[i]?=some v->ah H1 H->kh tt te ((wipe σ vs).set x (some v)) H (f i)) (hd:∀H' D,ah H1 H'->H' D=some (.lst (flat f xs.length))->Q (.ref D) H'):eZ wi (bJ K (.name x)) tt te vs σ H Q:=
 hI _ λD hD=>O6 (f:=f) hx hD hn hw hs λH' s e=>hd H' D s e
theorem lcT(f:Nat->Option V)(hI:∀R,R (rY K a) H1->wi σ H R)(hx:H1 a=some (.tup xs))(hn:xs.length<=sizeLine)(hw:∀v:V,wipe ((wipe σ vs).set x (some v)) vs=wipe σ vs)
 (hs:∀i v H,xs[i]?=some v->ah H1 H->kh tt te ((wipe σ vs).set x (some v)) H (f i)) (hd:∀H' D,ah H1 H'->H' D=some (.lst (flat f xs.length))->Q (.ref D) H'):eZ wi (bJ K (.name x)) tt te vs σ H Q:=
 hI _ λD hD=>afn (f:=f) (.of hx) (λH s=>.of (s _ _ hx)) hD hn hw hs λH' s e=>hd H' D s e
theorem Im(P:Nat->Bool)(w:V->V->L2.St)(hI:∀R,R (nJ K a) H1->wi σ H R)(hx:H1 a=some (.lst xs))(hw0:∀u v:V,((σ.set k (some u)).set x (some v))=w u v)(hw1:∀u v u' v':V,(((w u' v').set k (some u)).set x (some v))=w u v)(hb:∀(i:Nat)(v:V)(H:Hp)(N:L2.St->Hp->Prop),xs[i]?=some v->ah H1 H->(∀j,j<i->P j=false)->(P i=true->∀H',ah H H'->D.rt (.int (i:Nat)) H')->(P i=false->∀H',ah H H'->N (w (.int (i:Nat)) v) H')->tb {D with nx:=N,ct:=N,bk:=D.nx} (w (.int (i:Nat)) v) H)(gD:∀i H',i<xs.length->P i=true->(∀j,j<i->P j=false)->ah H1 H'->D.rt (.int (i:Nat)) H')(nR:(∀i,i<xs.length->P i=false)->∀σ H',ah H1 H'->D.nx σ H'):gf wi (bJ K (.tup [k,x])) tb D σ H:=by
 refine hI _ ⟨λi m τ H'=>m=xs.length-i/\i<=xs.length/\ah H1 H'/\(τ=σ\/∃u v,τ=w u v)/\∀j,j<i->P j=false,⟨_,rfl,dH _,ah.refl _,.inl rfl,λj h=>absurd h (qk _)⟩,?_⟩;rintro i m τ H' ⟨rfl,hi,hs,hτ,hP⟩
 by_cases aM:i<xs.length
 ·refine .inr ⟨⟨xs,xs[i],aG.of (hs _ _ hx),by simp[aM]⟩,λmD H2=>ah H1 H2/\(∃u v,mD=w u v)/\P i=false,λmD H2 ⟨a1,a2,a3⟩=>⟨xs.length-(i+1),by grind,rfl,by trivial,a1,.inr a2,λj hj=>?_⟩,λz H2 hy=>?_⟩
  ·rcases JW.mp hj with q|q
   ·exact hP j q
   ·rw[q];exact a3
  ·obtain⟨T,v,rfl,hT,rfl,hv⟩:=hy
   have hv:=hv xs (aG.of (hs _ _ hx));simp only[bJ,au,ck,eT,true_and,qa,sY,oi,tD];have s2:ah H' (L2.upd H' T (.tup [.int i,v])):=ah.new hT
   have e:((τ.set k (some (.int (i:Nat)))).set x (some v))=w (.int (i:Nat)) v:=by
    rcases hτ with rfl|⟨u,v',rfl⟩
    ·exact hw0 _ _
    ·exact hw1 _ _ _ _
   rw[e];refine hb i v _ _ hv (hs.trans s2) hP (λhp H3 s3=>gD i H3 aM hp hP ((hs.trans s2).trans s3)) λhp H3 s3=>⟨(hs.trans s2).trans s3,⟨_,_,rfl⟩,hp⟩
 ·have e:i=xs.length:=by lia
  subst e;exact .inl ⟨⟨xs,aG.of (hs _ _ hx),aY _⟩,nR hP τ H' hs⟩
end
noncomputable def bF:Option Nat->V
 |some i=>.int (i:Nat)
 |none=>.az
theorem Mz{α:Type}(P:Nat->α->Bool)(g:Nat->Option V):∀(l:List α)(k:Nat),(∀i x,l[i]?=some x->g (k+i)=if P (k+i) x then some (.int ((k+i:Nat))) else none)->((jU k l.length).filterMap g).headD .az=bF (((l.zipIdx k).find? λx=>P x.2 x.1).map (·.2))
 |[],k,h=>rfl
 |y::l,k,h=>by
  have h0:=h 0 y rfl;simp only[oz] at h0
  have ih:=Mz P g l (k+1) λi x hx=>by
   have:=h (i+1) x (by simpa using hx);rw[show k+1+i=k+(i+1) by simp+arith];exact this
  simp only[ck,vE,tu,iD];cases e:P k y with
  |true=>
   rw[e] at h0;rw[nZ,h0];rfl
  |false=>
   rw[e] at h0;rw[nZ,h0];exact ih
theorem iH{α:Type}{P:Nat->α->Bool}{l:List α}(h:∀i x,l[i]?=some x->f i=if P i x then some (.int (i:Nat)) else none):(flat f l.length).headD .az=bF (eu l P):=by
 unfold flat eu;rw[CF];exact Mz P f l 0 λi x hx=>by simpa using h i x hx
theorem y_{α:Type}(p:α->Bool)(l:List α):l.findIdx? p=eu l λz x=>p x:=by
 have:∀(l:List α)(k:Nat),((l.zipIdx k).find? λx=>p x.1).map (·.2)=(l.findIdx? p).map (·+k):=by
  intro l
  induction l with
  |nil=>intro k;rfl
  |cons y l ih=>
   intro k;simp only[tu,iD,TR];cases e:p y with
   |true=>simp
   |false=>
    have e2:=ih (k+1);simp only[e2];cases l.findIdx? p with
    |none=>rfl
    |some i=>simp;simp+arith
 have:=this l 0;unfold eu;rw[this];cases l.findIdx? p<;>simp
theorem Yi{α:Type}{P:Nat->α->Bool}{l:List α}{x:α}(h:l[i]?=some x)(hp:P i x=true)(hb:∀j y,j<i->l[j]?=some y->P j y=false):eu l P=some i:=by
 have gen:∀(l:List α)(k i:Nat)(x:α),l[i]?=some x->P (k+i) x=true->(∀j y,j<i->l[j]?=some y->P (k+j) y=false)->((l.zipIdx k).find? λx=>P x.2 x.1).map (·.2)=some (k+i):=by
  intro l
  induction l with
  |nil=>intro k i x h;simp at h
  |cons y l ih=>
   intro k i x h hp hb;simp only[tu,iD];cases i with
   |zero=>
    simp at h;subst h;simp only[oz] at hp;simp[hp]
   |succ i=>
    have e:=hb 0 y (by simp) rfl;simp only[oz] at e;simp only[e]
    have:=ih (k+1) i x (by simpa using h) (by rw[show k+1+i=k+(i+1) by lia];exact hp) λj z hj hz=>by
     rw[show k+1+j=k+(j+1) by lia];exact hb (j+1) z (by simp[*]) (by simpa using hz)
    rw[this];congr 1;lia
 have:=gen l 0 i x h (by simpa using hp) (λj y hj hy=>by simpa using hb j y hj hy);unfold eu;simpa using this
theorem jR{α:Type}{P:Nat->α->Bool}{l:List α}:eu l P=none↔∀i x,l[i]?=some x->P i x=false:=by
 unfold eu;rw[JY,qb];constructor
 ·intro h i x hx
  have:=h (x,i) (by rw[SI];exact⟨i,by simp[S0,hx]⟩);simpa using this
 ·rintro h ⟨x,i⟩ hm
  rw[SI] at hm;obtain⟨j,hj⟩:=hm;rw[S0] at hj;cases e:l[j]? with
  |none=>rw[e] at hj;cases hj
  |some y=>
   rw[e] at hj;simp at hj;obtain⟨rfl,rfl⟩:=hj;simpa using h _ _ e
end Mini
namespace bO
open Se
noncomputable def vf:List Int:=[0,31,59,90,120,151,181,212,243,273,304,334,365]
noncomputable def lp(y:Int):Int:=if y % 4=0 then 1 else 0
theorem GZ(y:Int):(y % 4=0/\lp y=1/\leap y=true)\/(¬y % 4=0/\lp y=0/\leap y=false):=by
 unfold lp leap
 by_cases h:y % 4=0
 ·exact .inl ⟨h,by simp[h],by simp[h]⟩
 ·exact .inr ⟨h,by simp[h],by simp[h]⟩
theorem adS(y:Int):((before y 1:Nat):Int)=0:=rfl
theorem zl(y:Int)(m:Nat):before y (m+2)=before y (m+1)+lengthOf y (m+1):=by
 unfold before;rw[show m+2-1=m+1 from rfl,show m+1-1=m from rfl,DR,ql,V7];simp
theorem zq(y:Int):((before y 1:Nat):Int)=0/\((before y 2:Nat):Int)=31/\((before y 3:Nat):Int)=59+lp y/\((before y 4:Nat):Int)=90+lp y/\((before y 5:Nat):Int)=120+lp y/\((before y 6:Nat):Int)=151+lp y/\
 ((before y 7:Nat):Int)=181+lp y/\((before y 8:Nat):Int)=212+lp y/\((before y 9:Nat):Int)=243+lp y/\((before y 10:Nat):Int)=273+lp y/\((before y 11:Nat):Int)=304+lp y/\((before y 12:Nat):Int)=334+lp y/\((before y 13:Nat):Int)=365+lp y:=by
 rcases GZ y with⟨_,h1,h2⟩|⟨_,h1,h2⟩<;>(rw[h1];unfold before lengthOf;simp only[h2];decide)
noncomputable def Jf(y m:Int):Int:=vf.getD (m-1).toNat 0+(if 2<m/\y % 4=0 then 1 else 0)
theorem ahk(h:1<=m/\m<=13):Jf y m=((before y m.toNat:Nat):Int):=by
 obtain⟨n,rfl⟩:∃n:Nat,m=n:=⟨m.toNat,by grind⟩;have hn:n<14:=by omega
 have h1:1<=n:=by lia
 rcases GZ y with⟨h4,_,h2⟩|⟨h4,_,h2⟩<;>unfold Jf before lengthOf<;>simp only[h2,h4,and_true,and_false]<;>clear h2 h4 h<;>revert n<;>decide
theorem length_eq(h:1<=m/\m<=12):((lengthOf y m:Nat):Int)=((before y (m+1):Nat):Int)-((before y m:Nat):Int):=by
 obtain⟨k,rfl⟩:∃k,m=k+1:=⟨m-1,by simp[*]⟩;have:=zl y k;rw[show k+1+1=k+2 from rfl,this];simp+arith
theorem Zi(y:Int)(m:Nat)(h:1<=m):before y m<=before y (m+1):=by
 obtain⟨k,rfl⟩:∃k,m=k+1:=⟨m-1,by simp[*]⟩;have:=zl y k;rw[show k+1+1=k+2 from rfl,this];simp
theorem Gs(y:Int)(h:1<=m):m<=k->before y m<=before y k:=by
 intro hk
 induction k with
 |zero=>simp_all
 |succ k ih=>
  by_cases e:m=k+1
  ·rw[e];exact aY _
  ·exact eU (ih (by lia)) (Zi y k (by lia))
theorem Yj(y:Int)(m n:Nat):∀(f k:Nat),1<=k->k<=m->m<=k+f->before y m<=n+before y k->n+before y k<before y (m+1)->MY y f k n=(m,n+before y k-before y m+1):=by
 intro f
 induction f generalizing n with
 |zero=>
  intro k h1 h2 h3 h4 h5;have:m=k:=by lia
  subst this;simp only[MY];congr 1;simp
 |succ f ih=>
  intro k h1 h2 h3 h4 h5
  have hs:before y (k+1)=before y k+lengthOf y k:=by
   obtain⟨j,rfl⟩:∃j,k=j+1:=⟨k-1,by lia⟩;exact zl y j
  simp only[MY]
  by_cases hn:n<lengthOf y k
  ·rw[if_pos hn]
   have:m=k:=by
    by_cases e:m=k
    ·exact e
    ·have:=Gs y (m:=k+1) (k:=m) (by simp) (by lia)
     lia
   subst this;congr 1;lia
  ·rw[if_neg hn]
   have q:n-lengthOf y k+before y (k+1)=n+before y k:=by rw[hs,vU (before y k),←Nat.add_assoc,Nat.sub_add_cancel (tU.1 hn)]
   have hk:k+1<=m:=by
    refine Nat.lt_of_le_of_ne h2 λe=>hn ?_;rw[←e,hs,vU] at h5;exact Nat.lt_of_add_lt_add_left h5
   rw[ih (n-lengthOf y k) (k+1) (V8 1 k) hk (by lia) (q▸h4) (q▸h5),q]
theorem tK(y:Int):yearDay (y+1)=yearDay y+365+lp y:=by
 unfold yearDay lp;split<;>lia
theorem zF:bZ d=true↔0<=d/\d<=730499:=by
 unfold bZ within DAYS;simp
theorem aaM:within 1 eE y=true↔1<=y/\y<=2000:=by
 unfold within eE;simp
theorem qo(d:Int):yearDay (yearOf d)<=d/\d<yearDay (yearOf d)+365+lp (yearOf d):=by
 unfold yearOf yearDay lp;rw[vY];split<;>split<;>lia
theorem aaN(h:0<=d/\d<=730499):1<=yearOf d/\yearOf d<=2000:=by
 unfold yearOf;rw[vY];split<;>omega
theorem Lf(h:a<=b):yearDay a<=yearDay b:=by
 unfold yearDay
 omega
theorem MA(h1:yearDay y<=d)(h2:d<yearDay (y+1)):yearOf d=y:=by
 unfold yearDay at h1 h2;unfold yearOf;rw[vY];split<;>omega
theorem uA(y:Int):0<=lp y/\lp y<=1:=by unfold lp;split<;>simp
theorem MB(y:Int):∀m:Nat,before y (m+1)<=31*m
 |0=>aY _
 |m+1=>by
  rw[zl];have h1:=MB y m
  have h2:lengthOf y (m+1)<=31:=by
   unfold lengthOf;split
   ·split<;>simp
   all_goals simp
  lia
theorem FW(h1:1<=m)(h2:m<=12)(h3:((before (yearOf d) m:Nat):Int)<=d-yearDay (yearOf d))(h4:d-yearDay (yearOf d)<((before (yearOf d) (m+1):Nat):Int)):
 monthOf d=(m,(d-yearDay (yearOf d)-before (yearOf d) m+1).toNat):=by
 unfold monthOf;have h0:before (yearOf d) 1=0:=rfl;have hy:=(qo d).1;rw[Yj (yearOf d) m _ 11 1 (by simp) h1 (by omega) (by rw[h0];simp[*]) (by rw[h0];simp[*]),h0];congr 1
 grind
theorem MC(f:Nat->Int)(n:Int):∀k:Nat,f 1<=n->n<f (k+1)->∃m,1<=m/\m<=k/\f m<=n/\n<f (m+1)
 |0,h1,h2=>by
  rw[Y7] at h2
  omega
 |k+1,h1,h2=>by
  by_cases h:n<f (k+1)
  ·obtain⟨m,a,b,c,d⟩:=MC f n k h1 h
   exact⟨m,a,by(constructor<;>omega),c,d⟩
  ·exact⟨k+1,by lia,by simp,by simp_all,h2⟩
theorem zG(y:Int):((before y 13:Nat):Int)=365+lp y:=(zq y).2.2.2.2.2.2.2.2.2.2.2.2
theorem aaO(d:Int):∃m:Nat,1<=m/\m<=12/\((before (yearOf d) m:Nat):Int)<=d-yearDay (yearOf d)/\d-yearDay (yearOf d)<((before (yearOf d) (m+1):Nat):Int):=by
 obtain⟨f1,f2⟩:=qo d;have Jg:=zG (yearOf d);have h1:((before (yearOf d) 1:Nat):Int)=0:=rfl;exact MC (λm=>((before (yearOf d) m:Nat):Int)) _ 12 (by show((before (yearOf d) 1:Nat):Int)<=_;simp[*]) (by show _<((before (yearOf d) 13:Nat):Int);lia)
theorem FY(d:Int):1<=(monthOf d).1/\(monthOf d).1<=12/\1<=(monthOf d).2/\(monthOf d).2<=lengthOf (yearOf d) (monthOf d).1/\d=bU (yearOf d) (monthOf d).1 (monthOf d).2:=by
 obtain⟨m,h1,h2,h3,h4⟩:=aaO d;have e:=FW h1 h2 h3 h4;have hl:=length_eq (y:=yearOf d) (m:=m) ⟨h1,h2⟩;rw[e];refine⟨h1,h2,by show 1<=(_:Nat);grind,?_,?_⟩
 ·show(_:Nat)<=lengthOf (yearOf d) m
  (simp;lia)
 show d=bU (yearOf d) m _;unfold bU
 grind
theorem Zj(h1:1<=m)(h2:m<=12)(h3:1<=k)(h4:k<=lengthOf y m):yearOf (bU y m k)=y/\monthOf (bU y m k)=(m,k)/\yearDay y<=bU y m k/\bU y m k<yearDay (y+1):=by
 have hl:=length_eq (y:=y) (m:=m) ⟨h1,h2⟩;have hb:=Gs y (m:=m+1) (k:=13) (by lia) (by simp[*]);have Jg:=zG y;have hs:=tK y;have a1:yearDay y<=bU y m k:=by unfold bU;lia
 have a2:bU y m k<yearDay (y+1):=by unfold bU;lia
 have ey:=MA a1 a2;refine⟨ey,?_,a1,a2⟩;rw[FW (m:=m) h1 h2 (by rw[ey];unfold bU;lia) (by rw[ey];unfold bU;lia),ey];congr 1;unfold bU;simp+arith
theorem qp(d:Int):((weekday d:Nat):Int)=(d+5) % 7:=by unfold weekday;(simp;lia)
theorem Gu(y:Int):easter y=moon y+7-((moon y+5) % 7+1) % 7:=by
 unfold easter;have:=qp (moon y);simp+arith [*]
theorem aaP(y:Int):bU y 3 21=yearDay y+79+lp y:=by
 have:=(zq y).2.2.1;unfold bU;simp+arith [*]
theorem za(y:Int):yearDay y+80+lp y<=easter y/\easter y<=yearDay y+115+lp y:=by
 rw[Gu];have h:moon y=yearDay y+79+lp y+(19*(y % 19)+15) % 30:=by unfold moon;rw[aaP]
 (simp;lia)
theorem LP(y:Int):lengthOf 1 m<=lengthOf y m:=by
 have e1:leap 1=false:=rfl;unfold lengthOf;split<;>simp[e1];split<;>simp
noncomputable def fd(f:ua)(y:Int):Int:=if f.moves=0 then bU y f.m f.d else easter y+f.off
theorem adT(f:ua)(y:Int):f.dayIn y=if bZ (fd f y)=true then some (fd f y) else none:=rfl
theorem MD(hf:f.fine=true)(y:Int):yearDay y-10<=fd f y/\fd f y<yearDay (y+1)/\(f.moves=0->yearDay y<=fd f y):=by
 unfold iF at hf;unfold fd;have hs:=tK y;have hl:=uA y;split at hf
 ·rename_i h0
  simp only[bx,decide_eq_true_eq] at hf;obtain⟨a,b,c,d,_⟩:=hf;rw[if_pos h0];have hb:=Gs y (m:=f.m+1) (k:=13) (by simp) (by simp[*]);have Jg:=zG y;have mC:=length_eq (y:=y) (m:=f.m) ⟨a,b⟩;have:=LP y (m:=f.m);have q1:yearDay y<=bU y f.m f.d:=by unfold bU;lia
  have q2:bU y f.m f.d<yearDay (y+1):=by unfold bU;lia
  exact⟨by lia,q2,λz=>q1⟩
 ·rename_i h0
  simp only[bx,within,decide_eq_true_eq] at hf;obtain⟨_,_,_,h1,h2⟩:=hf;rw[if_neg h0];have:=za y;exact⟨by lia,by lia,λh=>absurd h h0⟩
theorem Gv(he:bZ e=true):(f.dayIn y==some e)=decide (fd f y=e):=by
 rw[adT]
 by_cases h:fd f y=e
 ·subst h;simp[he]
 ·simp only[h,decide_false]
  split
  ·simp[h]
  ·rfl
theorem adU(hf:f.fine=true)(he:bZ e=true):f.on e=(decide (fd f (yearOf e)=e)||(within 1 eE (yearOf e+1)&&decide (fd f (yearOf e+1)=e))):=by
 have hd:=zF.mp he;have hy:=aaN hd;have hyf:=qo e;have hw:within 1 eE (yearOf e)=true:=aaM.mpr hy
 have aiB:decide (fd f (yearOf e+ -1)=e)=false:=by
  have:=(MD hf (yearOf e+ -1)).2.1;rw[show yearOf e+ -1+1=yearOf e by simp+arith] at this;simp
  omega
 unfold i6 MZ;simp only[he,gu,aV,bB];rw[show yearOf e+0=yearOf e by simp]
 by_cases c1:within 1 eE (yearOf e+ -1)=true<;>by_cases c2:within 1 eE (yearOf e+1)=true<;>
  simp[oh,hw,c1,c2,Gv he,aiB]
theorem adV(first k:Int):later first k=bU (yearOf first+k) (monthOf first).1 (monthOf first).2:=by
 unfold later;dsimp only;split
 ·rename_i h
  obtain⟨h1,h2,h3⟩:=h;rw[h1,h2];have b:=zq (yearOf first+k);rcases GZ (yearOf first+k) with⟨_,e,e2⟩|⟨_,e,e2⟩
  ·rw[e2] at h3;cases h3
  ·unfold bU
   lia
 ·rfl
noncomputable def turn(s:Nat)(y:Int):Int:=match s with
 |0=>bU y 1 1
 |1=>bU y 3 25
 |2=>bU y 3 25
 |3=>bU y 12 25
 |4=>easter y
 |_=>bU y 9 1
noncomputable def ahead(s:Nat):Int:=match s with
 |0=>0
 |1=>0
 |2=>1
 |3=>1
 |4=>0
 |_=>1
theorem ME(s:Nat)(x:Int):begins s x=turn s (x-ahead s):=by
 unfold begins turn ahead;split<;>simp
theorem LB(s:Nat)(y:Int):yearDay y<=turn s y/\turn s y<yearDay (y+1):=by
 have hs:=tK y;have hl:=uA y
 have q:∀{m k:Nat}{b:Int},((before y m:Nat):Int)=b+lp y->1<=k->0<=b->b+k<=364->yearDay y<=bU y m k/\bU y m k<yearDay (y+1):=by
  intro m k b e h1 h2 h3;unfold bU;rw[e,hs]
  omega
 have q0:yearDay y<=bU y 1 1/\bU y 1 1<yearDay (y+1):=by
  unfold bU;rw[adS,hs]
  (simp;omega)
 have hb:=zq y;unfold turn;split
 ·exact q0
 ·exact q hb.2.2.1 (by decide) (by decide) (by decide)
 ·exact q hb.2.2.1 (by decide) (by decide) (by decide)
 ·exact q hb.2.2.2.2.2.2.2.2.2.2.2.1 (by decide) (by decide) (by decide)
 ·have:=za y
  clear hb q q0
  omega
 ·exact q hb.2.2.2.2.2.2.2.2.1 (by decide) (by decide) (by decide)
theorem aaQ(s:Nat)(x d:Int):Gi s x d=(decide (turn s (x-ahead s)<=d)&&decide (d<turn s (x-ahead s+1))):=by
 unfold Gi;rw[ME,ME,show x+1-ahead s=x-ahead s+1 by simp+arith]
noncomputable def pO(s:Nat)(d:Int):Int:=if turn s (yearOf d)<=d then yearOf d+ahead s else yearOf d+ahead s-1
theorem E8(s:Nat)(x d:Int):Gi s x d=decide (x=pO s d):=by
 rw[aaQ];unfold pO;obtain⟨f1,f2⟩:=qo d;rw[←tK] at f2;have t1:=LB s (x-ahead s);have t2:=LB s (x-ahead s+1);generalize hz:x-ahead s=z at*;have hx:x=z+ahead s:=by lia
 subst hx
 have key:(turn s z<=d/\d<turn s (z+1))↔(z=if turn s (yearOf d)<=d then yearOf d else yearOf d-1):=by
  by_cases c1:z=yearOf d
  ·subst c1
   by_cases c:turn s (yearOf d)<=d
   ·rw[if_pos c];constructor
    ·intro _;rfl
    ·intro _;exact⟨c,by omega⟩
   ·rw[if_neg c];constructor
    ·intro h;exact absurd h.1 c
    ·intro h;lia
  ·by_cases c2:z=yearOf d-1
   ·have e:z+1=yearOf d:=by simp[*]
    rw[e] at t1 t2 ⊢
    by_cases c:turn s (yearOf d)<=d
    ·rw[if_pos c];constructor
     ·intro h;lia
     ·intro h;trivial
    ·rw[if_neg c];constructor
     ·intro _;exact c2
     ·intro _;exact⟨by lia,by simp_all⟩
   ·constructor
    ·intro h
     exfalso
     by_cases c3:yearOf d+1<=z
     ·have:=Lf c3;omega
     ·have:=Lf (show z+1+1<=yearOf d by lia);omega
    ·intro h
     split at h<;>trivial
 rw[←V6];refine decide_eq_decide.mpr (key.trans ?_);split<;>constructor<;>intro h<;>lia
theorem Lg(s:Nat)(d:Int):tL s d=pO s d:=by
 unfold tL;dsimp only;rw[E8 s _ d,E8 s _ d];have:ahead s=0\/ahead s=1:=by unfold ahead;split<;>simp
 have hb:pO s d=yearOf d+1\/pO s d=yearOf d\/pO s d=yearOf d-1:=by
  unfold pO;split<;>lia
 rcases hb with h|h|h<;>rw[h]
 ·simp
 ·simp
 ·have e1:¬(yearOf d+1=yearOf d-1):=by simp+arith
  have e2:¬(yearOf d=yearOf d-1):=by simp+arith
  simp[e1,e2]
theorem ab1(y:Int)(a:Nat)(h:a<=6):(weekday (yearDay y+(a:Int))==6)=decide (6-((weekday (yearDay y):Nat):Int)=(a:Int)):=by
 have h1:=qp (yearDay y);have h2:=qp (yearDay y+(a:Int))
 by_cases c:6-((weekday (yearDay y):Nat):Int)=(a:Int)
 ·rw[decide_eq_true c]
  simp;lia
 ·rw[decide_eq_false c]
  simp;lia
noncomputable def sD(d:Int):Bool:=within 1 eE (yearOf d)&&decide (easter (yearOf d)=d)
theorem aaR(y:Int):weekday (easter y)=6:=by
 have:=qp (easter y);have:=qp (moon y);rw[Gu] at*;lia
theorem afo(h:weekday d≠6):sD d=false:=by
 unfold sD;cases e:decide (easter (yearOf d)=d) with
 |false=>simp
 |true=>
  have:=of_decide_eq_true e;rw[←this,aaR] at h;exact absurd rfl h
theorem Zk(y:Int):yearOf (easter y)=y:=by
 have:=za y;have:=uA y;exact MA (by lia) (by rw[tK];lia)
theorem Zl{f:ua}(hf:f.fine=true)(h0:f.moves=0)(he:bZ e=true):f.on e=(decide (((monthOf e).1:Int)=f.m)&&decide (((monthOf e).2:Int)=f.d)):=by
 rw[adU hf he];have hb:=(MD hf (yearOf e+1)).2.2 h0;have hy:=qo e;have hs:=tK (yearOf e);have e2:decide (fd f (yearOf e+1)=e)=false:=by simp;lia
 rw[e2,oj,ou];have mE:=hf;unfold iF at mE;rw[if_pos h0] at mE;simp only[bx,decide_eq_true_iff] at mE;have hl:=LP (yearOf e) (m:=f.m);obtain⟨a1,a2,_,_⟩:=Zj (y:=yearOf e) (m:=f.m) (k:=f.d) mE.1 mE.2.1 mE.2.2.1 (by lia);have ef:fd f (yearOf e)=bU (yearOf e) f.m f.d:=by unfold fd;rw[if_pos h0]
 rw[ef,aT];simp only[bx,decide_eq_true_iff];constructor
 ·intro h
  rw[h] at a2;rw[a2];exact⟨rfl,rfl⟩
 ·rintro⟨h1,h2⟩
  have:=(FY e).2.2.2.2;rw[show(monthOf e).1=f.m by lia,show(monthOf e).2=f.d by lia] at this;exact this.symm
theorem Zm{f:ua}(hf:f.fine=true)(h0:f.moves≠0)(he:bZ e=true):f.on e=sD (e-f.off):=by
 have ed:=zF.mp he;have mE:=hf;unfold iF at mE;rw[if_neg h0] at mE;simp only[bx,beq_iff_eq,within,decide_eq_true_iff] at mE;unfold i6 sD;rw[he,gu,aT,qf];simp only[bx,decide_eq_true_iff];constructor
 ·rintro⟨y,hy,hd⟩
  rw[Gv he] at hd;have hd:=of_decide_eq_true hd;have ef:fd f y=easter y+f.off:=by unfold fd;rw[if_neg h0]
  rw[ef] at hd;have e1:e-f.off=easter y:=by grind
  rw[e1,Zk];unfold MZ at hy;exact⟨(ly.mp hy).2,rfl⟩
 ·rintro⟨h1,h2⟩
  refine⟨yearOf (e-f.off),?_,?_⟩
  ·unfold MZ
   refine ly.mpr ⟨?_,h1⟩;have a:=qo e;have b:=za (yearOf (e-f.off));have c:=uA (yearOf (e-f.off));have c2:=uA (yearOf e);generalize yearOf (e-f.off)=y at*;generalize yearOf e=z at*
   have:y=z-1\/y=z\/y=z+1:=by
    unfold yearDay at a b;lia
   simp only[aV,bB,cH]
   (simp;lia)
  ·rw[Gv he]
   have ef:fd f (yearOf (e-f.off))=easter (yearOf (e-f.off))+f.off:=by unfold fd;rw[if_neg h0]
   rw[ef,h2];simp
end bO
namespace cT
open Se
def Ch:Nat->List Way->Prop
 |_,[]=>True
 |i,w::p=>w.i=i/\Ch w.j p
noncomputable def endOf:Nat->List Way->Nat
 |i,[]=>i
 |_,w::p=>endOf w.j p
noncomputable def sum:List Way->Nat
 |[]=>0
 |w::p=>w.days+sum p
theorem q_:∀{i:Nat}{p q:List Way},Ch i (p++q)↔Ch i p/\Ch (endOf i p) q
 |i,[],q=>by simp[Ch,endOf]
 |i,w::p,q=>by
  have:=q_ (i:=w.j) (p:=p) (q:=q);simp only[qe,Ch,endOf,this,and_assoc]
theorem qP:∀{i:Nat}{p q:List Way},endOf i (p++q)=endOf (endOf i p) q
 |i,[],q=>rfl
 |i,w::p,q=>qP (i:=w.j) (p:=p) (q:=q)
theorem qQ:∀{p q:List Way},sum (p++q)=sum p+sum q
 |[],q=>by simp[sum]
 |w::p,q=>by
  have:=qQ (p:=p) (q:=q);simp only[qe,sum,this];simp+arith
theorem HN:∀(n:Nat)(l:List Nat),(∀x∈l,x<n)->n<l.length->∃a b c x,l=a++x::(b++x::c)
 |0,l,h,hl=>by
  cases l with
  |nil=>simp at hl
  |cons x t=>exact absurd (h x (by simp)) (qk _)
 |n+1,l,h,hl=>by
  by_cases hn:n∈l
  ·obtain⟨a,t,rfl⟩:=Kg hn
   by_cases ht:n∈t
   ·obtain⟨b,c,rfl⟩:=Kg ht
    exact⟨a,b,c,n,rfl⟩
   ·by_cases ha:n∈a
    ·obtain⟨a1,a2,rfl⟩:=Kg ha
     exact⟨a1,a2,t,n,by simp⟩
    ·obtain⟨a',b',c',x,e⟩:=HN n (a++t) (λy hy=>by
      have h1:=h y (by simp at hy ⊢;rcases hy with q|q;exact .inl q;exact .inr (.inr q));have:y≠n:=λe=>by subst e;simp at hy;rcases hy with q|q;exact ha q;exact ht q
      lia) (by simp at hl ⊢;lia)
     have key:∀(a t a' r:List Nat),a++t=a'++r->(∃u,a=a'++u/\r=u++t)\/(∃u,a'=a++u/\t=u++r):=λa t a' r e=>by
      rcases List.append_eq_append_iff.mp e with⟨u,q1,q2⟩|⟨u,q1,q2⟩
      ·exact .inr ⟨u,q1,q2⟩
      ·exact .inl ⟨u,q1,q2⟩
     rcases key _ _ _ _ e with⟨u,rfl,q⟩|⟨u,rfl,q⟩
     ·cases u with
      |nil=>exact⟨a'++[n],b',c',x,by simp at q ⊢;rw[←q]⟩
      |cons y u=>
       simp at q;obtain⟨rfl,q⟩:=q;rcases key _ _ _ _ q.symm with⟨v,q1,q2⟩|⟨v,q1,q2⟩
       ·cases v with
        |nil=>exact⟨a',u++[n],c',x,by simp at q1 q2 ⊢;rw[←q2]⟩
        |cons z v=>
         simp at q2;obtain⟨rfl,rfl⟩:=q2;exact⟨a',b',v++n::t,x,by simp[q1]⟩
       ·exact⟨a',u++n::v,c',x,by simp[q2]⟩
     ·exact⟨a++n::u,b',c',x,by simp[q]⟩
  ·obtain⟨a,b,c,x,e⟩:=HN n l (λy hy=>by
    have:=h y hy;have:y≠n:=λe=>hn (e▸hy);lia) (by lia)
   exact⟨a,b,c,x,e⟩
noncomputable def jC:Nat->List Way->List Nat
 |i,[]=>[i]
 |i,w::p=>i::jC w.j p
theorem MF:∀(i:Nat)(p:List Way),(jC i p).length=p.length+1
 |i,[]=>rfl
 |i,w::p=>by simp[jC,MF]
theorem Nh:∀{i:Nat}{p:List Way},i<n->(∀w∈p,w.j<n)->∀x∈jC i p,x<n
 |i,[],hi,_,x,hx=>by simp[jC] at hx;simp[*]
 |i,w::p,hi,hp,x,hx=>by
  simp only[jC,cH] at hx;rcases hx with rfl|hx
  ·exact hi
  ·exact Nh (hp w (by simp)) (λv hv=>hp v (by simp[hv])) x hx
theorem Gw:∀{i:Nat}{p:List Way}{a r:List Nat}{x:Nat},jC i p=a++x::r->∃p1 p2,p=p1++p2/\p1.length=a.length/\endOf i p1=x/\jC x p2=x::r
 |i,p,[],r,x,h=>by
  cases p with
  |nil=>simp[jC] at h;obtain⟨rfl,rfl⟩:=h;exact⟨[],[],rfl,rfl,rfl,rfl⟩
  |cons w p=>simp[jC] at h;obtain⟨rfl,rfl⟩:=h;exact⟨[],w::p,rfl,rfl,rfl,rfl⟩
 |i,p,y::a,r,x,h=>by
  cases p with
  |nil=>simp[jC] at h
  |cons w p=>
   simp[jC] at h;obtain⟨p1,p2,e1,e2,e3,e4⟩:=Gw h.2;exact⟨w::p1,p2,by rw[e1];rfl,by simp[e2],e3,e4⟩
theorem short:∀(m:Nat){i:Nat}{p:List Way},p.length<=m->i<n->(∀w∈p,w.j<n)->Ch i p->∃q,(∀w∈q,w∈p)/\Ch i q/\endOf i q=endOf i p/\sum q<=sum p/\q.length<n
 |0,i,p,hm,hi,hp,hc=>by
  have:p=[]:=vz.mp (by simp_all);subst this;exact⟨[],λz h=>h,hc,rfl,aY _,by simp;lia⟩
 |m+1,i,p,hm,hi,hp,hc=>by
  by_cases hl:p.length<n
  ·exact⟨p,λz h=>h,hc,rfl,aY _,hl⟩
  ·obtain⟨a,b,c,x,e⟩:=HN n (jC i p) (Nh hi hp) (by rw[MF];lia)
   obtain⟨p1,p2,rfl,e2,e3,e4⟩:=Gw e;rw[show x::(b++x::c)=(x::b)++x::c from rfl] at e4;obtain⟨p3,p4,rfl,e5,e6,e7⟩:=Gw e4;rw[q_,e3,q_,e6] at hc;have hlen:(p1++p4).length<=m:=by simp at hm e5 ⊢;lia
   obtain⟨q,k1,k2,k3,k4,k5⟩:=short m (i:=i) (p:=p1++p4) hlen hi (λw hw=>hp w (by simp at hw ⊢;rcases hw with q|q;exact .inl q;exact .inr (.inr q))) (by rw[q_,e3];exact⟨hc.1,hc.2.2⟩);refine⟨q,λw hw=>?_,k2,?_,?_,k5⟩
   ·have:=k1 w hw;simp at this ⊢;rcases this with q|q;exact .inl q;exact .inr (.inr q)
   ·rw[k3,qP,qP,qP,e3,e6]
   ·rw[qQ] at k4;rw[qQ,qQ];lia
def fP(o:Option Nat)(P:Nat->Prop):Prop:=match o with
 |none=>∀s,¬P s
 |some s=>P s/\∀t,P t->s<=t
theorem fP.congr(h:fP o P)(e:∀s,P s↔P' s):fP o P':=by
 cases o with
 |none=>exact λs q=>h s ((e s).mpr q)
 |some s=>exact⟨(e s).mp h.1,λt q=>h.2 t ((e t).mpr q)⟩
theorem fP.of_le(h:fP o P)(h1:∀s,P s->P' s)(h2:∀s,P' s->∃t,t<=s/\P t):fP o P':=by
 cases o with
 |none=>exact λs q=>let ⟨t,_,k⟩:=h2 s q;h t k
 |some s=>exact⟨h1 s h.1,λt q=>let ⟨u,k1,k2⟩:=h2 t q;eU (h.2 u k2) k1⟩
theorem fP.uniq(h:fP o P)(h':fP o' P):o=o':=by
 cases o with
 |none=>cases o' with
  |none=>rfl
  |some t=>exact absurd h'.1 (h t)
 |some s=>cases o' with
  |none=>exact absurd h.1 (h' s)
  |some t=>
   have a:=h.2 t h'.1;have b:=h'.2 s h.1;rw[show s=t by lia]
theorem adW(h:fP a P)(h':fP b P'):fP (least a b) λs=>P s\/P' s:=by
 cases a with
 |none=>cases b with
  |none=>exact λs q=>q.elim (h s) (h' s)
  |some t=>exact⟨.inr h'.1,λu q=>q.elim (λk=>absurd k (h u)) (h'.2 u)⟩
 |some s=>cases b with
  |none=>exact⟨.inl h.1,λu q=>q.elim (h.2 u) (λk=>absurd k (h' u))⟩
  |some t=>
   refine⟨?_,λu q=>?_⟩
   ·show P (min s t)\/P' (min s t)
    rcases Nat.le_total s t with k|k
    ·rw[vH k];exact .inl h.1
    ·rw[Dn k];exact .inr h'.1
   ·show min s t<=u
    rcases q with q|q
    ·have:=h.2 u q;grind
    ·have:=h'.2 u q;grind
theorem fP.add(h:fP o P)(d:Nat):fP (o.map λx=>x+d) λs=>∃t,P t/\s=t+d:=by
 cases o with
 |none=>exact λs ⟨t,q,_⟩=>h t q
 |some s=>exact⟨⟨s,h.1,rfl⟩,λu ⟨t,q,e⟩=>by have:=h.2 t q;show s+d<=u;simp[*]⟩
theorem FZ{t:Nat->Option Nat}{T:Nat->Nat->Prop}(n:Nat)(hT:∀k,k<n->fP (t k) (T k)):∀(ws:List Way)(a:Option Nat)(A:Nat->Prop),(∀w∈ws,w.i<n)->fP a A->fP (ws.foldl (λ(a:Option Nat)(w:Way)=>if w.j=j then least a ((t w.i).map λ(x:Nat)=>x+w.days) else a) a) λs=>A s\/∃w∈ws,w.j=j/\∃u,T w.i u/\s=u+w.days
 |[],a,A,_,h=>h.congr λs=>by simp
 |w::ws,a,A,hw,h=>by
  rw[oi]
  by_cases c:w.j=j
  ·rw[if_pos c]
   refine(FZ n hT ws _ _ (λv hv=>hw v (by simp[hv])) (adW h ((hT w.i (hw w (by simp))).add w.days))).congr λs=>?_;constructor
   ·rintro((q|q)|⟨v,hv,q⟩)
    ·exact .inl q
    ·exact .inr ⟨w,by simp,c,q⟩
    ·exact .inr ⟨v,by simp[hv],q⟩
   ·rintro(q|⟨v,hv,q⟩)
    ·exact .inl (.inl q)
    ·rcases cH.mp hv with rfl|hv
     ·exact .inl (.inr q.2)
     ·exact .inr ⟨v,hv,q⟩
  ·rw[if_neg c]
   refine(FZ n hT ws _ _ (λv hv=>hw v (by simp[hv])) h).congr λs=>?_;constructor
   ·rintro(q|⟨v,hv,q⟩)
    ·exact .inl q
    ·exact .inr ⟨v,by simp[hv],q⟩
   ·rintro(q|⟨v,hv,q⟩)
    ·exact .inl q
    ·rcases cH.mp hv with rfl|hv
     ·exact absurd q.1 c
     ·exact .inr ⟨v,hv,q⟩
def Qv(b:bW)(i j m s:Nat):Prop:=∃p,(∀w∈p,w∈b.ways)/\Ch i p/\endOf i p=j/\sum p=s/\p.length<=m
theorem zH(hw:∀w∈b.ways,w.i<b.places.length):∀(m j:Nat),j<b.places.length->fP ((b.far i m).getD j none) (Qv b i j m)
 |0,j,hj=>by
  have e:(b.far i 0).getD j none=if j=i then some 0 else none:=by
   unfold bW.far;simp[hj]
  rw[e];split
  ·rename_i c
   subst c;exact⟨⟨[],by simp,trivial,rfl,rfl,by simp⟩,λt z=>dH _⟩
  ·rename_i c
   rintro s ⟨p,_,_,h3,_,h5⟩;have:p=[]:=vz.mp (by lia);subst this;exact c h3.symm
 |m+1,j,hj=>by
  have e:(b.far i (m+1)).getD j none=b.ways.foldl (λ(a:Option Nat)(w:Way)=>if w.j=j then least a (((b.far i m).getD w.i none).map λ(x:Nat)=>x+w.days) else a) ((b.far i m).getD j none):=by
   conv=>lhs;unfold bW.far
   simp[hj]
  rw[e];refine(FZ (t:=λk=>(b.far i m).getD k none) (T:=λk=>Qv b i k m) b.places.length (λk hk=>zH hw m k hk) b.ways _ _ hw (zH hw m j hj)).of_le ?_ ?_
  ·rintro s (⟨p,h1,h2,h3,h4,h5⟩|⟨w,hw',rfl,u,⟨p,h1,h2,h3,h4,h5⟩,rfl⟩)
   ·exact⟨p,h1,h2,h3,h4,by(constructor<;>omega)⟩
   ·refine⟨p++[w],λv hv=>?_,?_,?_,?_,by simp;omega⟩
    ·rcases jO.mp hv with q|q
     ·exact h1 v q
     ·simp at q;subst q;exact hw'
    ·rw[q_,h3];exact⟨h2,rfl,trivial⟩
    ·rw[qP];rfl
    ·rw[qQ,h4];simp[sum]
  ·rintro s ⟨p,h1,h2,h3,h4,h5⟩
   refine⟨s,aY _,?_⟩;rcases Cy p with rfl|⟨q,w,rfl⟩
   ·exact .inl ⟨[],by simp,h2,h3,h4,by simp⟩
   ·right
    simp only[Cz] at*;rw[q_] at h2;refine⟨w,h1 w (by simp),by rw[qP] at h3;exact h3,sum q,⟨q,λv hv=>h1 v (by simp[hv]),h2.1,h2.2.1.symm,rfl,by simp at h5;lia⟩,by rw[qQ] at h4;simp[sum] at h4;simp[*]⟩
theorem F0{b:bW}(hw:∀w∈b.ways,w.i<b.places.length/\w.j<b.places.length)(hi:i<b.places.length)(hj:j<b.places.length):fP (b.ride i j) λs=>∃p,(∀w∈p,w∈b.ways)/\Ch i p/\endOf i p=j/\sum p=s:=by
 refine(zH (λw h=>(hw w h).1) b.places.length j hj).of_le (λs ⟨p,h1,h2,h3,h4,_⟩=>⟨p,h1,h2,h3,h4⟩) ?_;rintro s ⟨p,h1,h2,h3,h4⟩;obtain⟨q,k1,k2,k3,k4,k5⟩:=short p.length (aY _) hi (λw h=>(hw w (h1 w h)).2) h2;exact⟨sum q,by simp_all,q,λw h=>h1 w (k1 w h),k2,by rw[k3,h3],rfl,by lia⟩
def nT(k:Nat):List Way->Prop
 |[]=>True
 |[_]=>True
 |w::v::p=>w.j<k/\nT k (v::p)
theorem Ni(h:p≠[]->w.j<k)(hp:nT k p):nT k (w::p):=by
 cases p with
 |nil=>trivial
 |cons v p=>exact⟨h (by simp),hp⟩
theorem Ho:∀{p:List Way},(∀w∈p,w.j<k)->nT k p
 |[],_=>trivial
 |w::p,h=>Ni (λz=>h w (by simp)) (Ho λv hv=>h v (by simp[hv]))
theorem MG:∀{p:List Way}{i:Nat},Ch i p->nT (k+1) p->nT k p\/∃p1 p3,(∀w∈p1,w∈p)/\(∀w∈p3,w∈p)/\Ch i p1/\endOf i p1=k/\Ch k p3/\endOf k p3=endOf i p/\nT k p1/\nT k p3/\sum p1+sum p3<=sum p
 |[],i,_,_=>.inl trivial
 |[w],i,_,_=>.inl trivial
 |w::v::p,i,hc,hv=>by
  rcases MG (p:=v::p) (i:=w.j) hc.2 hv.2 with q|⟨p1,p3,a1,a2,a3,a4,a5,a6,a7,a8,a9⟩
  ·by_cases c:w.j<k
   ·exact .inl ⟨c,q⟩
   ·have e:w.j=k:=by have:=hv.1;lia
    refine .inr ⟨[w],v::p,by simp,λx hx=>by simp at hx ⊢;exact .inr hx,⟨hc.1,trivial⟩,e,e▸hc.2,by rw[←e];rfl,trivial,q,by simp[sum]⟩
  ·by_cases c:w.j<k
   ·refine .inr ⟨w::p1,p3,λx hx=>?_,λx hx=>fD _ (a2 x hx),⟨hc.1,a3⟩,a4,a5,a6,Ni (λz=>c) a7,a8,by simp only[sum] at a9 ⊢;lia⟩
    rcases cH.mp hx with rfl|hx
    ·simp
    ·exact fD _ (a1 x hx)
   ·have e:w.j=k:=by have:=hv.1;lia
    exact .inr ⟨[w],p3,by simp,λx hx=>fD _ (a2 x hx),⟨hc.1,trivial⟩,e,a5,a6,trivial,a8,by simp only[sum] at a9 ⊢;lia⟩
noncomputable def NO:Int:=1000000
structure Good(b:bW)(k:Nat)(T:Nat->Nat->Int):Prop where
 le:∀i j,T i j<=NO
 nn:∀i j,0<=T i j
 at_:∀i j,i<b.places.length->j<b.places.length->T i j<NO->∃p,(∀w∈p,w∈b.ways)/\Ch i p/\endOf i p=j/\(sum p:Int)=T i j
 lo:∀i j p,i<b.places.length->(∀w∈p,w∈b.ways)->Ch i p->endOf i p=j->nT k p->T i j<=sum p
theorem Good.next(g:Good b k T)(hk:k<b.places.length):Good b (k+1) λi j=>min (T i j) (T i k+T k j) where
 le:=λi j=>by have:=g.le i j;grind
 nn:=λi j=>by have:=g.nn i j;have:=g.nn i k;have:=g.nn k j;omega
 at_:=λi j hi hj h=>by
  by_cases c:T i j<=T i k+T k j
  ·obtain⟨p,h1,h2,h3,h4⟩:=g.at_ i j hi hj (by lia)
   exact⟨p,h1,h2,h3,by rw[h4];lia⟩
  ·have n1:=g.nn i k
   have n2:=g.nn k j;obtain⟨p,h1,h2,h3,h4⟩:=g.at_ i k hi hk (by grind);obtain⟨q,k1,k2,k3,k4⟩:=g.at_ k j hk hj (by grind);refine⟨p++q,λw hw=>?_,by rw[q_,h3];exact⟨h2,k2⟩,by rw[qP,h3,k3],by rw[qQ];grind⟩;rcases jO.mp hw with z|z
   ·exact h1 w z
   ·exact k1 w z
 lo:=λi j p hi hp hc he hv=>by
  rcases MG hc hv with q|⟨p1,p3,a1,a2,a3,a4,a5,a6,a7,a8,a9⟩
  ·have:=g.lo i j p hi hp hc he q;grind
  ·have l1:=g.lo i k p1 hi (λw hw=>hp w (a1 w hw)) a3 a4 a7
   have l2:=g.lo k j p3 hk (λw hw=>hp w (a2 w hw)) a5 (by rw[a6,he]) a8;lia
theorem Good.ride(hw:∀w∈b.ways,w.i<b.places.length/\w.j<b.places.length/\w.days<=1000)(hn:b.places.length<=16)(g:Good b b.places.length T)(hi:i<b.places.length)(hj:j<b.places.length):T i j=match b.ride i j with|some s=>(s:Int)|none=>NO:=by
 have hL:=F0 (λw h=>⟨(hw w h).1,(hw w h).2.1⟩) hi hj
 have small:∀(p:List Way),(∀w∈p,w∈b.ways)->sum p<=1000*p.length:=by
  intro p
  induction p with
  |nil=>intro _;simp[sum]
  |cons w p ih=>
   intro h;have:=ih λv hv=>h v (by simp[hv]);have:=(hw w (h w (by simp))).2.2;simp only[sum,ck];lia
 have hle:=g.le i j;cases e:b.ride i j with
 |none=>
  rw[e] at hL
  by_cases c:T i j<NO
  ·obtain⟨p,h1,h2,h3,h4⟩:=g.at_ i j hi hj c
   exact absurd ⟨p,h1,h2,h3,rfl⟩ (hL (sum p))
  ·show T i j=NO
   lia
 |some s=>
  rw[e] at hL;obtain⟨⟨p,h1,h2,h3,h4⟩,ajM⟩:=hL;have l1:=g.lo i j p hi h1 h2 h3 (Ho λw h=>(hw w (h1 w h)).2.1);obtain⟨q,k1,k2,k3,k4,k5⟩:=short p.length (aY _) hi (λw h=>(hw w (h1 w h)).2.1) h2;have:=small q λw h=>h1 w (k1 w h);have l2:=g.lo i j q hi (λw h=>h1 w (k1 w h)) k2 (by rw[k3,h3]) (Ho λw h=>(hw w (h1 w (k1 w h))).2.1);have c:T i j<NO:=by unfold NO;lia
  obtain⟨r,m1,m2,m3,m4⟩:=g.at_ i j hi hj c;have:=ajM (sum r) ⟨r,m1,m2,m3,rfl⟩;show T i j=(s:Int);lia
noncomputable def start(b:bW)(i j:Nat):Int:=if i=j then 0 else match b.ways.find? (λw=>w.i==i&&w.j==j) with
 |some w=>(w.days:Nat)
 |none=>NO
theorem Good.start(hd:∀w∈b.ways,w.days<=1000)(hu:∀w∈b.ways,∀v∈b.ways,w.i=v.i->w.j=v.j->w=v):Good b 0 (start b) where
 le:=λi j=>by
  unfold cT.start;split
  ·decide
  ·split
   ·rename_i w e
    have:=hd w (sR e);unfold NO;lia
   ·exact Int.le_refl _
 nn:=λi j=>by
  unfold cT.start;split
  ·decide
  ·split
   ·simp
   ·decide
 at_:=λi j hi hj h=>by
  unfold cT.start at h ⊢
  by_cases c:i=j
  ·exact⟨[],by simp,trivial,c,by rw[if_pos c];rfl⟩
  ·rw[if_neg c] at h ⊢
   cases e:b.ways.find? (λw=>w.i==i&&w.j==j) with
   |none=>rw[e] at h;exact absurd h (Int.lt_irrefl _)
   |some w=>
    have hp:=DS e;simp at hp;exact⟨[w],λv hv=>by simp at hv;subst hv;exact sR e,⟨hp.1,trivial⟩,hp.2,by simp[sum]⟩
 lo:=λi j p hi hp hc he hv=>by
  match p,hp,hc,he,hv with
  |[],_,_,he,_=>
   unfold cT.start;rw[if_pos (show i=j from he)];simp[sum]
  |[w],hp,hc,he,_=>
   have hw:=hp w (by simp);have hi':w.i=i:=hc.1;have hj':w.j=j:=he;unfold cT.start;split
   ·simp[sum]
   ·cases e:b.ways.find? (λw=>w.i==i&&w.j==j) with
    |none=>
     have:=qb.mp e w hw;simp[hi',hj'] at this
    |some v=>
     have hp':=DS e;simp at hp';have:=hu v (sR e) w hw (by simp[*]) (by simp[*]);subst this;simp[sum]
  |w::v::p,_,_,_,hv=>exact absurd hv.1 (qk _)
end cT
namespace Sets
open Se
noncomputable def cl(sets:List Nat)(c:List Nat):Bool:= !(sets.any λs=>c.all λi=>s.testBit i)
noncomputable def subs:Nat->Nat->Nat->List (List Nat)
 |_,0,_=>[[]]
 |0,_+1,_=>[]
 |f+1,k+1,i=>(subs f k (i+1)).map (i::·)++subs f (k+1) (i+1)
theorem ab2(sets:List Nat)(i:Nat)(c:List Nat):cl (sets.filter λs=>s.testBit i) c=cl sets (i::c):=by
 unfold cl;rw[V9];simp only[kJ]
theorem O7(sets:List Nat)(h:sets≠[]):cl sets []=false:=by
 cases sets with
 |nil=>exact absurd rfl h
 |cons a l=>simp[cl]
theorem kL(f i:Nat):subs f 0 i=[[]]:=by cases f<;>rfl
theorem K3{α:Type}{p:α->Bool}{a b:List α}(h:(a++b).find? p=none):a.find? p=none/\b.find? p=none:=by
 rw[Kr] at h;cases e:a.find? p with
 |none=>rw[e] at h;exact⟨rfl,by simpa using h⟩
 |some x=>rw[e] at h;simp at h
theorem K4(l:List (List Nat))(i:Nat)(sets:List Nat):(l.map (i::·)).find? (cl sets)=(l.find? (cl (sets.filter λs=>s.testBit i))).map (i::·):=by
 rw[List.find?_map];congr 1;have:(cl sets ∘ λx=>i::x)=cl (sets.filter λs=>s.testBit i):=by funext c;simp only[tE];rw[ab2]
 rw[this]
theorem E9:∀(f k i:Nat)(sets:List Nat),(∀k',k'<k->(subs f k' i).find? (cl sets)=none)->choosing f k i sets=(subs f k i).find? (cl sets)
 |f,k,i,[],h=>by
  cases k with
  |zero=>rw[kL];cases f<;>simp[choosing,cl]
  |succ k=>
   have:=h 0 (by simp);rw[kL] at this;simp[cl] at this
 |0,0,i,a::l,_=>by rw[kL];simp[choosing,List.find?,O7 (a::l) (by simp)]
 |0,k+1,i,a::l,_=>by simp[choosing,subs]
 |f+1,0,i,a::l,_=>by rw[kL];simp[choosing,List.find?,O7 (a::l) (by simp)]
 |f+1,k+1,i,a::l,h=>by
  have h1:∀k',k'<k->(subs f k' (i+1)).find? (cl ((a::l).filter λs=>s.testBit i))=none:=λk' hk=>by
   have:=h (k'+1) (by simp[*]);simp only[subs] at this;have:=(K3 this).1;rw[K4] at this;simpa using this
  have h2:∀k',k'<k+1->(subs f k' (i+1)).find? (cl (a::l))=none:=λk' hk=>by
   cases k' with
   |zero=>rw[kL];have:=h 0 (by lia);rw[kL] at this;exact this
   |succ k'=>
    have:=h (k'+1) (by omega);simp only[subs] at this;exact(K3 this).2
  simp only[choosing,subs];rw[E9 f k (i+1) _ h1,E9 f (k+1) (i+1) _ h2,Kr,K4];cases(subs f k (i+1)).find? (cl ((a::l).filter λs=>s.testBit i))<;>simp
theorem oN:∀(f k i:Nat)(c:List Nat),c∈subs f k i->c.length=k/\∀x∈c,i<=x/\x<i+f
 |f,0,i,c,h=>by rw[kL] at h;simp at h;subst h;simp
 |0,k+1,i,c,h=>by simp[subs] at h
 |f+1,k+1,i,c,h=>by
  simp only[subs,jO,gH] at h;rcases h with⟨c',hc,rfl⟩|h
  ·obtain⟨a,b⟩:=oN f k (i+1) c' hc
   refine⟨by simp[a],λx hx=>?_⟩;simp only[cH] at hx;rcases hx with rfl|hx
   ·simp
   ·have:=b x hx;grind
  ·obtain⟨a,b⟩:=oN f (k+1) (i+1) c h
   exact⟨a,λx hx=>by have:=b x hx;lia⟩
noncomputable def gQ(n:Nat)(P:List Nat->Bool):Option (List Nat):=(cS (n+1)).findSome? λk=>(subs n k 0).find? P
theorem KU{α:Type}(g h:Nat->Option α)(hg:∀k,(∀k',k'<k->h k'=none)->g k=h k):∀(m s:Nat),(∀k',k'<s->h k'=none)->(jU s m).findSome? g=(jU s m).findSome? h
 |0,s,_=>rfl
 |m+1,s,hs=>by
  rw[vE,yN,yN,hg s hs];cases e:h s with
  |some x=>rfl
  |none=>
   refine KU g h hg m (s+1) λk' hk=>?_
   by_cases c:k'<s
   ·exact hs k' c
   ·have:k'=s:=by lia
    rw[this,e]
theorem Zn(n:Nat)(sets:List Nat):zm n sets=gQ n (cl sets):=by
 unfold zm
 have key:(cS (n+1)).findSome? (λk=>(choosing n k 0 sets.eraseDups).bind λl=>if l.length=k then some l else none)=gQ n (cl sets):=by
  unfold gQ;rw[CF];refine KU _ _ (λk hk=>?_) _ 0 (λk' h=>absurd h (by simp))
  have e:cl sets.eraseDups=cl sets:=by
   funext c;unfold cl;congr 1;rw[aT,qf,qf];simp only[List.mem_eraseDups]
  rw[E9 n k 0 _ (by rw[e];exact hk),e];cases e2:(subs n k 0).find? (cl sets) with
  |none=>rfl
  |some l=>
   have:=(oN n k 0 l (sR e2)).1;simp[this]
 rw[key];split
 ·rename_i h
  symm
  unfold gQ;rw[yG];intro k _;rw[qb];intro c hc;have hx:=(oN n k 0 c hc).2;simp only[List.contains_eq_mem,decide_eq_true_eq] at h
  have hh:(sets.any λs=>c.all λi=>s.testBit i)=true:=by
   rw[qf];refine⟨_,h,?_⟩;rw[fc];intro x hm;have:=hx x hm;rw[RX];simp;simp_all
  simp[cl,hh]
 ·rfl
noncomputable def bg(i:Nat)(c:List Nat):Nat:=match c.getLast? with|none=>i|some x=>x+1
theorem zI:∀(f s i:Nat),subs f (s+1) i=(subs f s i).flatMap λc=>(jU (bg i c) (i+f-bg i c)).map λk=>c++[k]
 |0,0,i=>by simp[subs,bg]
 |0,s+1,i=>by simp[subs]
 |f+1,0,i=>by
  simp only[subs];rw[zI f 0 (i+1),kL];simp only[aV,bB,C6,Vd,KJ,bg,Ks,KN];rw[show i+(f+1)-i=f+1 from by simp,vE,show i+1+f-(i+1)=f from by simp];simp
 |f+1,s+1,i=>by
  rw[show subs (f+1) (s+1) i=(subs f s (i+1)).map (i::·)++subs f (s+1) (i+1) from rfl];rw[show subs (f+1) (s+1+1) i=(subs f (s+1) (i+1)).map (i::·)++subs f (s+1+1) (i+1) from rfl];rw[CL];congr 1
  ·rw[zI f s (i+1),List.map_flatMap,List.flatMap_map]
   congr 1;funext c
   have:bg i (i::c)=bg (i+1) c:=by
    unfold bg;cases c with
    |nil=>rfl
    |cons a l=>rw[Cr,Kh]
   rw[this,show i+(f+1)=i+1+f from by simp+arith];simp[ff,Ku]
  ·rw[zI f (s+1) (i+1)]
   rw[Ve,Ve];congr 1;refine k9 λc hc=>?_;have hl:=(oN _ _ _ _ hc).1
   have:bg i c=bg (i+1) c:=by
    unfold bg;cases c with
    |nil=>simp at hl
    |cons a l=>rw[Kh]
   rw[this,show i+(f+1)=i+1+f from by lia]
noncomputable def bits:Nat->(Nat->Bool)->Nat
 |0,_=>0
 |N+1,p=>bits N p+if p N=true then 2^N else 0
theorem Hq(p:Nat->Bool):∀N,bits N p<2^N
 |0=>by simp[bits]
 |N+1=>by
  have:=Hq p N;simp only[bits,Y8];split<;>lia
theorem jY(p:Nat->Bool):∀N i,(bits N p).testBit i=(decide (i<N)&&p i)
 |0,i=>by simp[bits]
 |N+1,i=>by
  have hl:=Hq p N;simp only[bits]
  by_cases h:i=N
  ·subst h
   split
   ·rename_i e
    rw[vU,Nat.testBit_two_pow_add_eq,JZ hl,e];simp
   ·rename_i e
    rw[oz,JZ hl];simp[e]
  ·by_cases h2:i<N
   ·split
    ·rw[vU,Nat.testBit_two_pow_add_gt h2,jY p N i];simp[h2];lia
    ·rw[oz,jY p N i];simp[h2];lia
   ·have h3:bits (N+1) p<2^(N+1):=Hq p (N+1)
    have h4:bits (N+1) p<2^i:=gG h3 (J8 (by simp) (by lia));have:=JZ h4;simp only[bits] at this;rw[this];have:¬i<N+1:=by(simp;lia)
    simp[this]
theorem zu:∀{N},(∀i,i<N->p i=q i)->bits N p=bits N q
 |0,_=>rfl
 |N+1,h=>by simp only[bits];rw[zu λi hi=>h i (by(constructor<;>assumption)),h N (by simp)]
theorem Nj(N:Nat)(p q:Nat->Bool):bits N p &&& bits N q=bits N λi=>p i&&q i:=by
 refine CG λi=>?_;rw[Nat.testBit_and,jY,jY,jY];cases decide (i<N)<;>cases p i<;>cases q i<;>rfl
theorem afp(N:Nat)(p q:Nat->Bool):bits N p ||| bits N q=bits N λi=>p i||q i:=by
 refine CG λi=>?_;rw[Nat.testBit_or,jY,jY,jY];cases decide (i<N)<;>cases p i<;>cases q i<;>rfl
theorem v9:bits N p=0↔∀i,i<N->p i=false:=by
 constructor
 ·intro h i hi
  have:=jY p N i;rw[h] at this;simp[hi] at this;exact this
 ·intro h
  refine CG λi=>?_;rw[jY,Nat.zero_testBit]
  by_cases hi:i<N
  ·simp[h i hi]
  ·simp[hi]
theorem ab3(h:a<=b)(hb:b<N):2^(b+1)-2^a=bits N λi=>decide (a<=i)&&decide (i<=b):=by
 have e:2^(b+1)-2^a=2^a*(2^(b+1-a)-1):=by
  rw[Nat.mul_sub,←Nat.pow_add,Nat.mul_one,show a+(b+1-a)=b+1 from by grind]
 rw[e];refine CG λi=>?_;rw[Nat.testBit_two_pow_mul,RX,jY]
 by_cases h1:a<=i
 ·by_cases h2:i<=b
  ·have:i<N:=by lia
   have h3:i-a<b+1-a:=by grind
   simp[h1,h2,this,h3]
  ·have h3:¬(i-a<b+1-a):=by(simp;lia)
   simp[h1,h2,h3]
 ·simp[h1]
theorem ab4(N:Nat):bits N (λz=>false)=0:=v9.2 λz z=>rfl
theorem LQ:∀(L:List Bool)(i:Nat),(maskOf L).testBit i=L.getD i false
 |[],i=>by simp[maskOf]
 |x::L,0=>by
  show((if x=true then 1 else 0)+2*maskOf L).testBit 0=x;rw[Nat.testBit_zero];cases x<;>simp<;>lia
 |x::L,i+1=>by
  show((if x=true then 1 else 0)+2*maskOf L).testBit (i+1)=L.getD i false;rw[Nat.testBit_succ,←LQ L i];congr 1;cases x<;>simp<;>lia
noncomputable def cE(first:Int)(N:Nat):List Int:=(cS N).map λ(i:Nat)=>first+(i:Int)
theorem afq{α:Type}(first:Int)(N:Nat)(l:List α)(h:Int->α->Bool)(c:List Nat):
 cl ((cE first N).map λd=>maskOf (l.map (h d))) c=decide (bits N (λi=>c.all λk=>((l[k]?).map (h (first+(i:Int)))).getD false)=0):=by
 unfold cl cE;rw[qu,qu,aT];simp only[Ku,LQ,Kq,decide_eq_true_eq,v9,CZ,yY,nX,eS,Bool.not_eq_true]
noncomputable def cm(N:Nat)(q:Nat->Nat->Bool)(c:List Nat):Int:=if c=[] then -1 else ((bits N λi=>c.all λk=>q k i:Nat):Int)
theorem Hr(N:Nat)(q:Nat->Nat->Bool)(c:List Nat)(h:c≠[]):cm N q c=((bits N λi=>c.all λk=>q k i:Nat):Int):=by simp[cm,h]
theorem ahl(N:Nat)(q:Nat->Nat->Bool)(k:Nat):cm N q ([]++[k])=(bits N (q k):Int):=by simp[cm]
theorem ahm(N:Nat)(q:Nat->Nat->Bool)(c:List Nat)(k:Nat):cm N q (c++[k])=((bits N (λi=>c.all λk=>q k i) &&& bits N (q k):Nat):Int):=by
 rw[Nj,Hr _ _ _ (by simp)];congr 1;refine zu λi z=>?_;simp
theorem G1(first:Int)(P:Int->Bool):∀N:Nat,(((cE first N).filter P).map λd=>(2:Int)^(d-first).toNat).sum=((bits N λi=>P (first+(i:Int)):Nat):Int)
 |0=>rfl
 |N+1=>by
  have ih:=G1 first P N
  unfold cE at ih ⊢;rw[DR,ql,Kl,ql,V7,ih];simp only[bits,aV,bB,oh,List.filter_nil];split
  ·rename_i e
   simp[show first+(N:Int)-first=N from by simp+arith]
  ·rename_i e
   simp
noncomputable def sn(S:List iM)(d:Int):List iM:=match S.getLast? with
 |some s=>if s.last=d-1 then S.dropLast++[⟨s.first,d⟩] else S++[⟨d,d⟩]
 |none=>[⟨d,d⟩]
noncomputable def cn(a:Int)(S:List iM):List iM:=match S with
 |s::r=>if s.first=a+1 then ⟨a,s.last⟩::r else ⟨a,a⟩::s::r
 |[]=>[⟨a,a⟩]
theorem EH(a:Int)(l:List Int):iG (a::l)=cn a (iG l):=rfl
theorem zU(s t:iM)(r:List iM)(d:Int):sn (s::t::r) d=s::sn (t::r) d:=by
 unfold sn;rw[Cr,Kh];dsimp only;split<;>simp
theorem aiC(a d:Int):∀S:List iM,cn a (sn S d)=sn (cn a S) d
 |[]=>by
  show(if d=a+1 then _ else _)=if a=d-1 then _ else _
  by_cases h:d=a+1
  ·rw[if_pos h,if_pos (by simp[*])];rfl
  ·rw[if_neg h,if_neg (by lia)];rfl
 |[s]=>by
  have e1:sn [s] d=if s.last=d-1 then [⟨s.first,d⟩] else [s,⟨d,d⟩]:=rfl
  rw[e1]
  by_cases h:s.last=d-1<;>by_cases h2:s.first=a+1
  ·simp[cn,sn,h,h2]
  ·simp[cn,sn,h,h2]
  ·simp[cn,sn,h,h2]
  ·simp[cn,sn,h,h2]
 |s::t::r=>by
  rw[zU];unfold cn;dsimp only;split
  ·rw[zU]
  ·rw[zU,zU]
theorem Lh(d:Int):∀l:List Int,iG (l++[d])=sn (iG l) d
 |[]=>rfl
 |a::l=>by
  rw[qe,EH,Lh d l,EH,aiC]
noncomputable def ends(S:List iM):List Int:=S.flatMap λs=>[s.first,s.last]
theorem Nk(S:List iM):(ends S).length=2*S.length:=by
 unfold ends
 induction S with
 |nil=>rfl
 |cons a l ih=>simp[ih];trivial
theorem ends_app(S T:List iM):ends (S++T)=ends S++ends T:=by simp[ends]
theorem afr(S:List iM)(d:Int):ends (sn S d)=match (ends S).getLast? with
 |some x=>if x=d-1 then (ends S).set ((ends S).length-1) d else ends S++[d,d]
 |none=>[d,d]:=by
 rcases Cy S with rfl|⟨T,s,rfl⟩
 ·rfl
 ·unfold sn
  simp only[Cz,J9,vA,K1,List.dropLast_concat];rw[ends_app];have e:ends [s]=[s.first,s.last]:=rfl;rw[e,J9];simp only[Cr,vA,K1];split
  ·rw[ends_app]
   have e2:ends [(⟨s.first,d⟩:iM)]=[s.first,d]:=rfl;rw[e2,jq,List.set_append];simp;simp+arith
  ·rw[ends_app,ends_app];rfl
set_option tactic.hygienic true in
theorem MH(l:List Int):(iG l).length<=l.length:=by
 induction l with
 |nil=>exact aY _
 |cons a l ih=>
  rw[EH];unfold cn;split
  ·rename_i s r e
   rw[e] at ih;split<;>simp at*<;>omega
  ·simp
theorem adX(n:Nat)(p:Nat->Bool)(L:List Nat)(h1:∀o∈L,o<n)(h2:∀o,o<n->(p o=true↔o∈L)):(cS n).find? p=L.min?:=by
 cases e:L.min? with
 |none=>
  rw[SJ] at e;subst e;rw[qb];intro x hx hp;simp at hx;have:=(h2 x hx).1 hp;simp at this
 |some m=>
  rw[J1] at e;obtain⟨hm,hl⟩:=e;have Q9:=h1 m hm;rw[List.find?_range_eq_some];refine⟨(h2 m Q9).2 hm,by simpa using Q9,λj hj=>?_⟩;cases hp:p j with
  |false=>rfl
  |true=>
   have:=hl j ((h2 j (by lia)).1 hp);lia
noncomputable def stays(T:Nat->Nat->Int)(p:Nat):Int->List Seen->List (Int×Int)
 |di,[]=>[(di,730499)]
 |di,s::r=>(di,s.day-T p s.place)::stays T p (s.day+T s.place p) r
noncomputable def cJ(d:Int)(x:Int×Int):Bool:=decide (x.1<=d)&&decide (d<=x.2)
noncomputable def jl(G:Nat->Nat->Int->Bool)(p:Nat)(d:Int)(l:List Seen):Bool:=
 ((l.filter λ(s:Seen)=>decide (s.day<=d)).getLast?.all λ(s:Seen)=>G s.place p (d-s.day))&&(l.find? λ(s:Seen)=>decide (d<=s.day)).all λ(s:Seen)=>G p s.place (s.day-d)
def Lk(P:Nat)(T:Nat->Nat->Int):List Seen->Prop
 |[]=>True
 |[s]=>s.place<P/\s.day<=730499
 |s::t::r=>s.place<P/\s.day<=730499/\s.day<t.day/\T s.place t.place<=t.day-s.day/\Lk P T (t::r)
structure Tb(P:Nat)(T:Nat->Nat->Int)(G:Nat->Nat->Int->Bool):Prop where
 g:∀i j days,i<P->j<P->days<=730499->G i j days=decide (T i j<=days)
 z:∀i j,i<P->j<P->T i j<=0->i=j
 s:∀i,i<P->T i i=0
 p:∀i j,i<P->j<P->0<=T i j
section
variable{P:Nat}{T:Nat->Nat->Int}{G:Nat->Nat->Int->Bool}{p:Nat}{d:Int}
theorem Lk.tail(h:Lk P T (s::r)):Lk P T r:=by
 cases r with
 |nil=>trivial
 |cons t r=>exact h.2.2.2.2
theorem Lk.head(h:Lk P T (s::r)):s.place<P/\s.day<=730499:=by
 cases r with
 |nil=>exact h
 |cons t r=>exact⟨h.1,h.2.1⟩
theorem Lk.lt:∀{r:List Seen}{s:Seen},Lk P T (s::r)->∀t∈r,s.day<t.day
 |[],s,_,t,ht=>by simp at ht
 |a::r,s,h,t,ht=>by
  simp only[cH] at ht;rcases ht with rfl|ht
  ·exact h.2.2.1
  ·have:=Lk.lt h.tail t ht
   have:=h.2.2.1;lia
theorem Lk.mem:∀{r:List Seen},Lk P T r->∀t∈r,t.place<P
 |[],_,t,ht=>by simp at ht
 |a::r,h,t,ht=>by
  simp only[cH] at ht;rcases ht with rfl|ht
  ·exact h.head.1
  ·exact Lk.mem h.tail t ht
theorem F1(tb:Tb P T G)(hp:p<P):∀{r:List Seen}{di:Int},d<di->(∀t∈r,d<t.day/\t.place<P)->(stays T p di r).any (cJ d)=false
 |[],di,h,_=>by simp[stays,cJ];grind
 |s::r,di,h,hr=>by
  have hs:=hr s (by simp);have:=tb.p s.place p hs.2 hp;simp only[stays,lE,F1 tb hp (r:=r) (di:=s.day+T s.place p) (by lia) (λt ht=>hr t (by simp[ht]))];simp[cJ];omega
theorem zV{r:List Seen}(h:∀t∈r,d<t.day):r.filter (λs=>decide (s.day<=d))=[]:=by
 rw[List.filter_eq_nil_iff];intro t ht;have:=h t ht;simp;omega
theorem adY(h1:a.day<s.day)(h2:s.day<=d):jl G p d (a::s::r)=jl G p d (s::r):=by
 unfold jl;have e1:decide (a.day<=d)=true:=by simp;lia
 have e2:decide (s.day<=d)=true:=by simp;omega
 have e3:decide (d<=a.day)=false:=by simp;omega
 rw[oh,if_pos e1,oh,if_pos e2,Cr,iD,e3]
theorem LR(tb:Tb P T G)(hp:p<P)(hd:0<=d/\d<=730499):∀(r:List Seen)(a:Seen),Lk P T (a::r)->a.day<=d->0<=a.day->(stays T p (a.day+T a.place p) r).any (cJ d)=jl G p d (a::r)
 |[],a,h,ha,h0=>by
  have hh:=h.head
  have eA:jl G p d [a]=(G a.place p (d-a.day)&&(if d<=a.day then G p a.place (a.day-d) else true)):=by
   unfold jl;have e1:decide (a.day<=d)=true:=by simp;lia
   rw[oh,if_pos e1,iD]
   by_cases c:d<=a.day<;>simp[c]
  rw[eA,tb.g _ _ _ hh.1 hp (by lia),tb.g _ _ _ hp hh.1 (by lia)];have:=tb.p a.place p hh.1 hp;simp only[stays,lE,List.any_nil,ou,cJ]
  by_cases c:T a.place p<=d-a.day
  ·have e1:decide (a.day+T a.place p<=d)=true:=by simp;lia
   have e2:decide (d<=(730499:Int))=true:=by simp;simp[*]
   rw[e1,e2,decide_eq_true c]
   by_cases c2:d<=a.day
   ·have ep:=tb.z _ _ hh.1 hp (show T a.place p<=0 by lia)
    have:=tb.s p hp;rw[ep,this];rw[if_pos c2];have:decide ((0:Int)<=a.day-d)=true:=by simp;omega
    rw[this]
   ·simp[c2]
  ·have e1:decide (a.day+T a.place p<=d)=false:=by simp;lia
   rw[e1,decide_eq_false c];rfl
 |s::r,a,h,ha,h0=>by
  have hh:=h.head;have hs:=h.tail.head;have aM:=h.2.2.1;have hlk:=h.2.2.2.1;have tp:=tb.p a.place p hh.1 hp;have tq:=tb.p p s.place hp hs.1;simp only[stays,lE]
  by_cases c:s.day<=d
  ·rw[LR tb hp hd r s h.tail c (by lia),adY aM c]
   cases hc:jl G p d (s::r) with
   |true=>simp
   |false=>
    rw[ou];cases hi:cJ d (a.day+T a.place p,s.day-T p s.place) with
    |false=>rfl
    |true=>
     exfalso;simp[cJ] at hi;have ed:d=s.day:=by lia
     have ep:=tb.z _ _ hp hs.1 (show T p s.place<=0 by lia);have es:=tb.s p hp;have ht:=h.tail.lt;unfold jl at hc;have f1:decide (s.day<=d)=true:=by simp;omega
     have f2:decide (d<=s.day)=true:=by simp;simp[*]
     rw[oh,if_pos f1,zV (λt h=>by have:=ht t h;simp[*]),iD,f2] at hc;simp only[vA,kG] at hc;rw[tb.g _ _ _ hs.1 hp (by simp[*]),tb.g _ _ _ hp hs.1 (by simp[*]),←ep,es] at hc;simp at hc
     simp_all
  ·have hl:=h.tail.lt
   rw[F1 tb hp (by have:=tb.p s.place p hs.1 hp;lia) (λt ht=>⟨by have:=hl t ht;lia,h.tail.mem t (by simp[ht])⟩),ou];unfold jl;have e1:decide (a.day<=d)=true:=by simp;lia
   rw[oh,if_pos e1,zV (λt ht=>by
    simp only[cH] at ht;rcases ht with rfl|ht
    ·simp_all
    ·have:=hl t ht;lia),iD]
   simp only[vA,kG];rw[tb.g _ _ _ hh.1 hp (by lia)]
   by_cases c2:d<=a.day
   ·have e2:decide (d<=a.day)=true:=by simp;lia
    rw[e2];simp only[kG];rw[tb.g _ _ _ hp hh.1 (by lia)]
    by_cases c3:T a.place p<=0
    ·have ep:=tb.z _ _ hh.1 hp c3
     have es:=tb.s p hp;rw[ep] at hlk ⊢;rw[es,aT];simp only[cJ,bx,decide_eq_true_iff];grind
    ·have:¬(T a.place p<=d-a.day):=by lia
     rw[decide_eq_false this];simp[cJ];omega
   ·have e2:decide (d<=a.day)=false:=by simp;simp_all
    have e3:decide (d<=s.day)=true:=by simp;lia
    rw[e2,iD,e3];simp only[kG];rw[tb.g _ _ _ hp hs.1 (by lia)];simp only[cJ];congr 1
    ·rw[aT,decide_eq_true_iff,decide_eq_true_iff];lia
    ·rw[aT,decide_eq_true_iff,decide_eq_true_iff];lia
theorem ab5(tb:Tb P T G)(hp:p<P)(hd:0<=d/\d<=730499)(l:List Seen)(h:Lk P T l)(h0:∀s∈l,0<=s.day):(stays T p 0 l).any (cJ d)=jl G p d l:=by
 cases l with
 |nil=>simp[stays,cJ,jl];omega
 |cons s r=>
  have hs:=h.head;have tq:=tb.p p s.place hp hs.1;simp only[stays,lE]
  by_cases c:s.day<=d
  ·rw[LR tb hp hd r s h c (h0 s (by simp))]
   cases hc:jl G p d (s::r) with
   |true=>simp
   |false=>
    rw[ou];cases hi:cJ d (0,s.day-T p s.place) with
    |false=>rfl
    |true=>
     exfalso;simp[cJ] at hi;have ed:d=s.day:=by lia
     have ep:=tb.z _ _ hp hs.1 (show T p s.place<=0 by lia);have es:=tb.s p hp;have ht:=h.lt;unfold jl at hc;have f1:decide (s.day<=d)=true:=by simp;lia
     have f2:decide (d<=s.day)=true:=by simp;lia
     rw[oh,if_pos f1,zV (λt h=>by have:=ht t h;lia),iD,f2] at hc;simp only[vA,kG] at hc;rw[tb.g _ _ _ hs.1 hp (by lia),tb.g _ _ _ hp hs.1 (by lia),←ep,es] at hc;simp at hc;lia
  ·have hl:=h.lt
   rw[F1 tb hp (by have:=tb.p s.place p hs.1 hp;lia) (λt ht=>⟨by have:=hl t ht;lia,h.mem t (by simp[ht])⟩),ou];unfold jl;have e3:decide (d<=s.day)=true:=by simp;lia
   rw[zV (λt ht=>by
    simp only[cH] at ht;rcases ht with rfl|ht
    ·simp_all
    ·have:=hl t ht;lia),iD,e3]
   simp only[kG,Ks,Option.all_none,gu];rw[tb.g _ _ _ hp hs.1 (by lia)];simp only[cJ];rw[aT,bx,decide_eq_true_iff,decide_eq_true_iff,decide_eq_true_iff];simp+arith [*]
end
theorem jR{α:Type}{l:List α}{p:Nat->α->Bool}(h:eu l p=none){i:Nat}{x:α}(hx:l[i]?=some x):p i x=false:=by
 unfold eu at h;rw[JY,qb] at h;have:=h (x,i) (by rw[RU];simpa using hx);simpa using this
theorem E_{α:Type}{l:List α}{p:α->Bool}(h:eu l (λz x=>p x)=none){x:α}(hx:x∈l):p x=false:=by
 obtain⟨i,hi⟩:=vB hx;exact jR h hi
theorem tQ{b:bW}(h:b.fault=none){i:Nat}(hi:b.rules[i]?=some o):o=none:=by
 unfold K2 at h;split at h
 ·cases h
 ·rw[yG] at h
  have:=h (o,i) (by rw[RU];simpa using hi);simpa using this
noncomputable def tR(b:bW)(i j:Nat):Int:=match b.ride i j with|some s=>(s:Int)|none=>cT.NO
structure Ok(b:bW):Prop where
 pe:b.persons.length<=32
 of:b.offices.length<=16
 ho:b.holds.length<=64
 sl:b.seals.length<=16
 pl:b.places.length<=16
 sn:b.seens.length<=64
 wy:b.ways.length<=240
 holds:∀h∈b.holds,h.who<b.persons.length/\h.office<b.offices.length
 ways:∀w∈b.ways,w.i<b.places.length/\w.j<b.places.length/\w.i≠w.j/\1<=w.days/\w.days<=1000
 uniq:∀w∈b.ways,∀v∈b.ways,w.i=v.i->w.j=v.j->w=v
 seens:∀s∈b.seens,(0<=s.day/\s.day<=730499)/\s.place<b.places.length
 lk:Lk b.places.length (tR b) b.seens
theorem PC:∀{l:List Seen},(∀s∈l,s.place<P/\s.day<=730499)->(∀i x y,l[i]?=some x->l[i+1]?=some y->x.day<y.day/\T x.place y.place<=y.day-x.day)->Lk P T l
 |[],_,_=>trivial
 |[s],h,_=>h s (by simp)
 |s::t::r,h,h2=>by
  have h0:=h2 0 s t rfl rfl;have hs:=h s (by simp);exact⟨hs.1,hs.2,h0.1,h0.2,PC (λx hx=>h x (by simp at hx ⊢;exact .inr hx)) λi x y hx hy=>h2 (i+1) x y (by simpa using hx) (by simpa using hy)⟩
theorem Fb(hn:n<=730499):b.reaches i j n=decide (tR b i j<=n):=by
 unfold X_ tR;cases b.ride i j with
 |none=>
  have:¬((1000000:Int)<=n):=by lia
  simp[cT.NO,this]
 |some s=>simp
theorem Oo{l:List Way}(h:∀i w,l[i]?=some w->((l.take i).any λ(v:Way)=>v.i==w.i&&v.j==w.j)=false):∀w∈l,∀v∈l,w.i=v.i->w.j=v.j->w=v:=by
 intro w hw v hv e1 e2;obtain⟨i,hi⟩:=vB hw;obtain⟨j,hj⟩:=vB hv;rcases Nat.lt_trichotomy i j with c|c|c
 ·have:=h j v hj
  rw[CZ] at this;have:=this w (eO (i:=i) (by rw[CQ];simp[c,hi]));simp[e1,e2] at this
 ·subst c;rw[hi] at hj;exact dM hj
 ·have:=h i w hi
  rw[CZ] at this;have:=this v (eO (i:=j) (by rw[CQ];simp[c,hj]));simp[e1,e2] at this
theorem Ok.mk'(h:b.fault=none):Ok b:=by
 have r0:=tQ h (i:=0) rfl;have r5:=tQ h (i:=5) rfl;have sF:=tQ h (i:=11) rfl;have Jh:=tQ h (i:=12) rfl;have r13:=tQ h (i:=13) rfl;have r14:=tQ h (i:=14) rfl
 have z (k:Nat) (x:Nat×Nat) (hx:b.sizes[k]?=some x):x.1<=x.2:=by
  have:=jR r0 hx;simpa using this
 have ways:∀w∈b.ways,w.i<b.places.length/\w.j<b.places.length/\w.i≠w.j/\1<=w.days/\w.days<=1000:=by
  intro w hw;obtain⟨i,hi⟩:=vB hw;have:=jR sF hi;simp at this
  grind
 have seens:∀s∈b.seens,(0<=s.day/\s.day<=730499)/\s.place<b.places.length:=by
  intro s hs;have:=E_ Jh hs;simp only[CH,TU,decide_eq_false_iff_not] at this;rw[bO.zF] at this
  simp_all
 refine⟨z 0 _ rfl,z 1 _ rfl,z 2 _ rfl,z 3 _ rfl,z 4 _ rfl,z 5 _ rfl,z 6 _ rfl,?_,ways,?_,seens,?_⟩
 ·intro x hx
  have:=E_ r5 hx;simp at this;simp[*]
 ·refine Oo λi w hi=>?_
  have:=jR sF hi;simp only[CH] at this;exact this.2.2.2.2.2
 ·refine PC (λs hs=>⟨(seens s hs).2,(seens s hs).1.2⟩) λi x y hx hy=>?_
  have BV:=seens x (eO hx);have Q_:=seens y (eO hy);have a:=jR r13 hy;have c:=jR r14 hy;simp[hx] at a c;rw[Fb (by omega)] at c;simp at c;exact⟨by omega,c⟩
theorem afs(i j:Nat):0<=tR b i j:=by
 unfold tR;split
 ·simp
 ·decide
theorem ab6(o:Ok b)(hi:i<b.places.length)(hj:j<b.places.length)(h:tR b i j<=0):i=j:=by
 have hL:=cT.F0 (λw h=>⟨(o.ways w h).1,(o.ways w h).2.1⟩) hi hj;unfold tR at h;cases e:b.ride i j with
 |none=>rw[e] at h;simp[cT.NO] at h
 |some s=>
  rw[e] at h hL;obtain⟨⟨p,h1,h2,h3,h4⟩,_⟩:=hL;cases p with
  |nil=>exact h3
  |cons w p=>
   have:=(o.ways w (h1 w (by simp))).2.2.2.1;simp only[cT.sum] at h4;simp at h
   simp_all
theorem ab7(o:Ok b)(hi:i<b.places.length):tR b i i=0:=by
 have hL:=cT.F0 (λw h=>⟨(o.ways w h).1,(o.ways w h).2.1⟩) hi hi;unfold tR;cases e:b.ride i i with
 |none=>rw[e] at hL;exact absurd ⟨[],by simp,trivial,rfl,rfl⟩ (hL 0)
 |some s=>
  rw[e] at hL;have:=hL.2 0 ⟨[],by simp,trivial,rfl,rfl⟩;simp;simp_all
theorem Oq{b:bW}{n:Int}(hi:i<b.places.length):goes b.rides i j n=b.reaches i j n:=by
 unfold goes X_ bW.rides bW.ride;simp[Array.getD,hi]
theorem aaS(o:Ok b):Tb b.places.length (tR b) b.reaches where
 g:=λi j n y y h=>Fb h
 z:=λi j hi hj h=>ab6 o hi hj h
 s:=λi hi=>ab7 o hi
 p:=λi j y y=>afs i j
theorem adZ(o:Ok b)(hp:p<b.places.length)(hd:0<=d/\d<=730499):b.courtAt p d=(stays (tR b) p 0 b.seens).any (cJ d):=by
 rw[ab5 (aaS o) hp hd b.seens o.lk λs hs=>(o.seens s hs).1.1];rfl
theorem Xl(o:Ok b)(hp:p<b.places.length):b.courtBy b.rides p d=b.courtAt p d:=by
 unfold bW.courtBy bW.courtAt;congr 1
 ·cases e:(b.seens.filter λ(s:Seen)=>decide (s.day<=d)).getLast? with
  |none=>rfl
  |some s=>
   have hm:s∈b.seens:=(ly.1 (S1 e)).1;simp only[kG];exact Oq (o.seens s hm).2
 ·cases e:b.seens.find? (λ(s:Seen)=>decide (d<=s.day)) with
  |none=>rfl
  |some s=>
   simp only[kG];exact Oq hp
theorem Nl(o:Ok b)(hc:c.right b=true)(d:Int):b.canBy b.rides d c=b.can d c:=by
 unfold bW.canBy bW.can;split
 ·rename_i h
  rw[h];unfold lC at hc;rw[h] at hc;simp at hc;exact Xl o hc.1
 ·rfl
noncomputable def dR(b:bW)(c:Claim):List (Int×Int):=match c.kind with
 |0=>(b.persons[c.a]?).toList.map λx=>(x.life.first,x.life.last)
 |1=>(b.holds.filter λh=>decide (h.who=c.a)&&decide (h.office=c.b)).map λh=>(h.when_.first,h.when_.last)
 |2=>(b.seals[c.a]?).toList.map λs=>(s.first,s.last)
 |_=>stays (tR b) c.a 0 b.seens
theorem Gx(o:Ok b)(hc:c.right b=true)(hd:0<=d/\d<=730499):b.can d c=(dR b c).any (cJ d):=by
 unfold lC at hc;unfold bW.can dR
 match e:c.kind with
 |0=>
  simp only[bW.lives];cases b.persons[c.a]?<;>simp[vZ,within,cJ]
 |1=>
  simp only[Yb,qu,V9];congr 1;funext h;simp only[tE,vZ,within,cJ]
  by_cases c1:h.who=c.a<;>by_cases c2:h.office=c.b<;>simp[c1,c2]
 |2=>
  simp only;cases b.seals[c.a]?<;>simp[vZ,within,cJ]
 |3=>
  rw[e] at hc;simp at hc;exact adZ o hc.1 hd
 |n+4=>
  rw[e] at hc;simp at hc
theorem aaT(o:Ok b)(p:Nat)(d:Int):b.highest p d=((b.holds.filter λh=>decide (h.who=p)&&h.when_.has d).map λh=>h.office).min?:=by
 unfold bW.highest;refine adX _ _ _ (λx hx=>?_) λx hx=>?_
 ·simp only[gH,ly] at hx
  obtain⟨h,⟨hm,_⟩,rfl⟩:=hx;exact(o.holds h hm).2
 ·simp only[Yb,qf,gH,ly,bx,beq_iff_eq,decide_eq_true_iff]
  constructor
  ·rintro⟨h,hm,h1,h2,h3⟩;exact⟨h,⟨hm,h1,h3⟩,h2⟩
  ·rintro⟨h,⟨hm,h1,h3⟩,h2⟩;exact⟨h,hm,h1,h2,h3⟩
theorem ab8(b:bW)(o:Nat)(d:Int):b.holder o d=((b.holds.filter λh=>decide (h.office=o)&&h.when_.has d).map λh=>h.who).head?:=by
 unfold bW.holder;rw[List.head?_map,List.head?_filter];congr 2
noncomputable def wt:(Nat->Nat->Int)->List Way->Nat->Nat->Int
 |T,[]=>T
 |T,w::l=>wt (λi j=>if i=w.i/\j=w.j then (w.days:Int) else T i j) l
noncomputable def vg(i j:Nat):Int:=if i=j then 0 else cT.NO
theorem PD:∀(l:List Way)(T:Nat->Nat->Int)(i j:Nat),(∀w∈l,∀v∈l,w.i=v.i->w.j=v.j->w=v)->wt T l i j=match l.find? (λw=>w.i==i&&w.j==j) with|some w=>(w.days:Int)|none=>T i j
 |[],T,i,j,_=>rfl
 |w::l,T,i,j,h=>by
  have ih:=PD l (λi j=>if i=w.i/\j=w.j then (w.days:Int) else T i j) i j λa ha b hb=>h a (by simp[ha]) b (by simp[hb]);simp only[wt];rw[ih,iD]
  by_cases c:w.i=i/\w.j=j
  ·have e:(w.i==i&&w.j==j)=true:=by simp[c]
   rw[e];cases q:l.find? (λw=>w.i==i&&w.j==j) with
   |none=>simp[c]
   |some v=>
    have hv:=DS q;simp at hv;have:=h w (by simp) v (by simp[sR q]) (by rw[c.1,hv.1]) (by rw[c.2,hv.2]);subst this;rfl
  ·have e:(w.i==i&&w.j==j)=false:=by
    rw[SK]
    by_cases c1:w.i=i
    ·exact .inr (by simp;exact λc2=>c ⟨c1,c2⟩)
    ·exact .inl (by simp[c1])
   rw[e];have c':¬(i=w.i/\j=w.j):=λz=>c ⟨z.1.symm,z.2.symm⟩;simp[c']
theorem ad0(o1:∀w∈b.ways,w.i≠w.j)(o2:∀w∈b.ways,∀v∈b.ways,w.i=v.i->w.j=v.j->w=v)(i j:Nat):wt vg b.ways i j=cT.start b i j:=by
 rw[PD _ _ _ _ o2];unfold cT.start vg;cases q:b.ways.find? (λw=>w.i==i&&w.j==j) with
 |none=>rfl
 |some w=>
  have hv:=DS q;simp at hv;have:=o1 w (sR q);have dJ:¬i=j:=by simp_all
  simp[dJ]
noncomputable def nx(T:Nat->Nat->Int)(k i j:Nat):Int:=min (T i j) (T i k+T k j)
noncomputable def part(T:Nat->Nat->Int)(k a c:Nat)(i j:Nat):Int:=if i<a\/(i=a/\j<c) then nx T k i j else T i j
theorem Nm(T:Nat->Nat->Int)(k a c i:Nat)(h0:T k k=0):part T k a c i k=T i k/\part T k a c k i=T k i:=by
 unfold part nx;constructor
 ·split
  ·rw[h0];simp
  ·rfl
 ·split
  ·rw[h0];simp
  ·rfl
theorem ab9(T:Nat->Nat->Int)(k a c i j:Nat)(h0:T k k=0):part T k a (c+1) i j=if i=a/\j=c then min (part T k a c a c) (part T k a c a k+part T k a c k c) else part T k a c i j:=by
 rw[(Nm T k a c a h0).1,(Nm T k a c c h0).2]
 by_cases h:i=a/\j=c
 ·obtain⟨rfl,rfl⟩:=h
  simp only[and_self,if_true];unfold part nx;rw[if_pos (by simp),if_neg (by simp)]
 ·rw[if_neg h]
  unfold part
  by_cases h2:i<a\/(i=a/\j<c)
  ·rw[if_pos (by grind),if_pos h2]
  ·rw[if_neg (by grind),if_neg h2]
theorem ab_(T:Nat->Nat->Int)(k i j:Nat):part T k 0 0 i j=T i j:=by
 unfold part;rw[if_neg (by simp)]
theorem acd(g:cT.Good b k T)(hi:i<b.places.length):T i i=0:=by
 have h1:=g.lo i i [] hi (by simp) trivial rfl trivial;have h2:=g.nn i i;simp[cT.sum] at h1;lia
theorem aft(hw:∀w∈b.ways,w.i<b.places.length/\w.j<b.places.length/\w.days<=1000)(hn:b.places.length<=16)(g:cT.Good b b.places.length T)(hi:i<b.places.length)(hj:j<b.places.length):T i j=tR b i j:=by
 have:=cT.Good.ride hw hn g hi hj;rw[this];rfl
noncomputable def ia(n:Nat)(c:List Nat):List (List Nat):=(jU (bg 0 c) (n-bg 0 c)).map λk=>c++[k]
noncomputable def pre(n s i:Nat)(c:List Nat)(k:Nat):List (List Nat):=((subs n s 0).take i).flatMap (ia n)++(jU (bg 0 c) (k-bg 0 c)).map λk=>c++[k]
theorem Gy(n s:Nat):subs n (s+1) 0=(subs n s 0).flatMap (ia n):=by
 rw[zI n s 0];simp only[Y7];rfl
theorem aaU(h1:b<=k)(h2:k<n):jU b (n-b)=jU b (k-b)++k::jU (k+1) (n-(k+1)):=by
 have e:=TV (s:=b) (m:=k-b) (n:=n-k) (step:=1);rw[show n-b=(k-b)+(n-k) by grind,←e];congr 1;rw[show b+1*(k-b)=k by simp[*],show n-k=(n-(k+1))+1 by grind,vE]
theorem ad1(hi:(subs n s 0)[i]?=some c)(h1:bg 0 c<=k)(h2:k<n):∃post,subs n (s+1) 0=pre n s i c k++(c++[k])::post:=by
 have hl:i<(subs n s 0).length:=by
  rcases Y9 i (subs n s 0).length with h|h
  ·exact h
  ·rw[SE h] at hi;cases hi
 have ec:(subs n s 0)[i]=c:=by
  rw[gF hl] at hi;exact dM hi
 have e:subs n s 0=(subs n s 0).take i++c::(subs n s 0).drop (i+1):=by
  conv=>lhs;rw[←J2 i (subs n s 0)]
  rw[yH hl,ec]
 refine⟨(jU (k+1) (n-(k+1))).map (λk=>c++[k])++((subs n s 0).drop (i+1)).flatMap (ia n),?_⟩;rw[Gy]
 conv=>lhs;rw[e]
 rw[CL,C6];unfold pre;rw[C2];congr 1;rw[show ia n c=(jU (bg 0 c) (n-bg 0 c)).map λk=>c++[k] from rfl,aaU h1 h2,ql,aV];simp
theorem Nn(n s i:Nat)(c:List Nat)(h:bg 0 c<=k):pre n s i c (k+1)=pre n s i c k++[c++[k]]:=by
 unfold pre;rw[show k+1-bg 0 c=(k-bg 0 c)+1 by grind,List.range'_concat];simp;simp[*]
theorem afu:((subs n s 0).take (subs n s 0).length).flatMap (ia n)=subs n (s+1) 0:=by
 rw[Vf,Gy]
theorem ad2(h0:∀k,k<=s->(subs n k 0).find? P=none)(hs:s<n)(e:subs n (s+1) 0=pr++x::po)(h1:∀y∈pr,P y=false)(h2:P x=true):gQ n P=some x:=by
 unfold gQ;rw[CF,show n+1=(s+1)+((n-s-1)+1) by grind,←TV,List.findSome?_append]
 have a:(jU 0 (s+1)).findSome? (λk=>(subs n k 0).find? P)=none:=by
  rw[yG];intro k hk;simp[List.mem_range'] at hk;exact h0 k (by lia)
 rw[a,Xd,show 0+1*(s+1)=s+1 by simp,vE,yN]
 have b:(subs n (s+1) 0).find? P=some x:=by
  rw[e,Kr,qb.mpr (λy hy=>by simp[h1 y hy]),Xd,iD,h2]
 rw[b]
theorem ace(h0:∀k,k<=n->(subs n k 0).find? P=none):gQ n P=none:=by
 unfold gQ;rw[yG];intro k hk;simp at hk;exact h0 k (by lia)
theorem F3:∀(f k i:Nat),(subs f k i).length<=2^f
 |f,0,i=>by rw[kL];exact Nat.one_le_two_pow
 |0,k+1,i=>by simp[subs]
 |f+1,k+1,i=>by
  have h1:=F3 f k (i+1);have h2:=F3 f (k+1) (i+1);simp only[subs,jq,aU,Y8];lia
theorem Np{l:List (List Nat)}(h:∀y∈l,P y=false):l.find? P=none:=qb.mpr λy hy=>by simp[h y hy]
theorem MI:pre n s i c (bg 0 c)=((subs n s 0).take i).flatMap (ia n):=by
 unfold pre;simp
theorem afv(hi:(subs n s 0)[i]?=some c)(h:bg 0 c<=n):pre n s i c n=((subs n s 0).take (i+1)).flatMap (ia n):=by
 unfold pre;rw[List.take_add_one,hi,Option.toList_some,CL,C6,Vd,KJ];rfl
theorem Gz:∀(f k i:Nat),f<k->subs f k i=[]
 |f,0,i,h=>by simp_all
 |0,k+1,i,_=>rfl
 |f+1,k+1,i,h=>by
  simp only[subs];rw[Gz f k (i+1) (by simp_all),Gz f (k+1) (i+1) (by lia)];rfl
theorem afw(hn:n<=8)(hi:(subs n s 0)[i]?=some c)(hk:k<=n):(pre n s i c k).length<=1000:=by
 have h8:(subs n (s+1) 0).length<=2^8:=eU (F3 n (s+1) 0) (J8 (by simp) hn)
 have hp:(((subs n s 0).take i).flatMap (ia n)).length<=(subs n (s+1) 0).length:=by
  rw[Gy]
  conv=>rhs;rw[←J2 i (subs n s 0)]
  rw[CL,jq];lia
 unfold pre;rw[jq,aU,List.length_range']
 omega
end Sets
namespace Cd
open Se
noncomputable def gx(f:ua):List Int:=[f.moves,f.m,f.d,f.off]
noncomputable def dZ(s:iM):List Int:=[s.first,s.last]
noncomputable def iL(k:oW):List Int:=[k.kind,k.a,k.b,k.c,k.x]
noncomputable def aX(n:j3):List Int:=n.map λc=>((c.toNat:Nat):Int)
noncomputable def eW(h:lW):List Int:=[h.who,h.office,h.when_.first,h.when_.last]
noncomputable def gM(w:m_):List Int:=[w.i,w.j,w.days]
noncomputable def jv(s:m6):List Int:=[s.day,s.place]
noncomputable def bP(c:Nat)(ns:List Int):List (List Int):=(cS ((ns.length+c-1)/c)).map λi=>(ns.drop (i*c)).take c
noncomputable def cI(c:Nat)(cols:List Int)(ns:List Int):Bool:=decide (ns.length % c=0)&&(cS ns.length).all λi=>decide (0<=ns.getD i 0)|| !decide (((i % c:Nat):Int)∈cols)
noncomputable def parts:List Int->List (List Int)
 |[]=>[[]]
 |c::l=>if c=32 then []::parts l else match parts l with
  |h::t=>(c::h)::t
  |[]=>[[c]]
noncomputable def g_(ns:List Int):List (List Int):=if ns=[] then [] else parts ns
theorem Fc:∀{l:List Int},(∀c∈l,c≠32)->parts l=[l]
 |[],_=>rfl
 |c::l,h=>by
  have h0:c≠32:=h c (by simp);have ih:=Fc (l:=l) λd hd=>h d (by simp[hd]);simp only[parts,h0,if_false,ih]
theorem GA:∀{l:List Int}{m:List Int},(∀c∈l,c≠32)->parts (l++32::m)=l::parts m
 |[],m,_=>by simp[parts]
 |c::l,m,h=>by
  have h0:c≠32:=h c (by simp);have ih:=GA (l:=l) (m:=m) λd hd=>h d (by simp[hd]);simp only[qe,parts,h0,if_false,ih]
set_option tactic.hygienic true in
theorem LC:∀(l:List Int),(parts l).length<=l.length+1/\∀r∈parts l,r.length<=l.length
 |[]=>by simp[parts]
 |c::l=>by
  obtain⟨i1,i2⟩:=LC l;unfold parts;split
  ·refine⟨by simp;omega,λr hr=>?_⟩
   simp at hr;rcases hr with rfl|hr
   ·simp
   ·have:=i2 r hr;simp;(constructor<;>omega)
  ·split
   ·rename_i hd t e
    rw[e] at i1 i2;refine⟨by simp at i1 ⊢;(constructor<;>omega),λr hr=>?_⟩;simp at hr;rcases hr with rfl|hr
    ·have:=i2 hd (by simp);simp;omega
    ·have:=i2 r (by simp[hr]);simp;lia
   ·exact⟨by simp,λr hr=>by simp at hr;subst hr;simp⟩
theorem Yk(h:∀z∈l,0<=z/\z<=255):aX (cG l)=l:=by
 unfold aX cG;rw[ff]
 conv=>rhs;rw[←aas l]
 refine k9 λz hz=>?_;have:=h z hz;simp only[tE];rw[TX];show((z.toNat % 2^8:Nat):Int)=z;lia
theorem LS:∀(f:Nat)(b:j3),b.length<f->(V_ f b).map aX=parts (aX b)
 |0,b,h=>absurd h (qk _)
 |f+1,b,h=>by
  have hn:∀c∈b.takeWhile (λ(c:UInt8)=>c !=32),c≠32:=λc hc=>by
   have:=List.all_takeWhile (p:=λ(c:UInt8)=>c !=32) (l:=b);have:=fc.mp this c hc;simpa using this
  have Bp:∀c∈aX (b.takeWhile (λ(c:UInt8)=>c !=32)),c≠32:=λc hc=>by
   unfold aX at hc;obtain⟨d,hd,rfl⟩:=gH.mp hc;intro e;exact hn d hd (KR.mp (by show d.toNat=32;lia))
  unfold V_;have hd:=List.takeWhile_append_dropWhile (p:=λ(c:UInt8)=>c !=32) (l:=b);generalize b.takeWhile (λ(c:UInt8)=>c !=32)=n at*;simp only;split
  ·rename_i e
   have e2:n=b:=by
    cases q:b.dropWhile (λ(c:UInt8)=>c !=32) with
    |nil=>rw[q] at hd;simpa using hd
    |cons x t=>rw[q] at hd;have:=congrArg vX hd;simp at this;simp_all
   subst e2;rw[Fc Bp];rfl
  ·rename_i e
   cases q:b.dropWhile (λ(c:UInt8)=>c !=32) with
   |nil=>rw[q] at hd;exact absurd (by rw[←hd];simp) e
   |cons x t=>
    have hx:x=32:=by
     have:=List.head?_dropWhile_not (p:=λ(c:UInt8)=>c !=32) (l:=b);rw[q] at this;simpa using this
    subst hx;rw[q] at hd;have ht:b.drop (n.length+1)=t:=by rw[←hd];simp
    rw[ht,aV,LS f t (by have:=congrArg vX hd;simp at this;lia)];rw[←hd];have:aX (n++32::t)=aX n++32::aX t:=by unfold aX;simp
    rw[this,GA Bp]
theorem Fe(h:∀z∈l,0<=z/\z<=255):(mR (cG l)).map aX=g_ l:=by
 unfold mR g_
 by_cases c:l=[]
 ·subst c;rfl
 ·have:cG l≠[]:=λe=>c (by unfold cG at e;simpa using e)
  rw[if_neg this,if_neg c,LS _ _ (by simp),Yk h]
theorem zW(hc:1<=c)(hx:xs.length=c)(l:List Int):bP c (xs++l)=xs::bP c l:=by
 unfold bP
 have e:((xs++l).length+c-1)/c=(l.length+c-1)/c+1:=by
  rw[jq,hx,show c+l.length+c-1=(l.length+c-1)+c by lia,Uo _ (by trivial)]
 rw[e,yJ,aV,ff];congr 1
 ·simp[←hx]
 ·refine k9 λi z=>?_
  simp only[tE];rw[show Nat.succ i*c=xs.length+i*c by rw[Y3,hx,vU],List.drop_append];simp[yK]
theorem ug:∀(l:List Int),if l.length % 2=0 then ∃ps,M0 l=some ps/\bP 2 l=ps.map (λ(x:Int×Int)=>[x.1,x.2]) else M0 l=none
 |[]=>by rw[if_pos (by simp)];exact⟨[],rfl,rfl⟩
 |[a]=>by rw[if_neg (by simp)];rfl
 |a::b::l=>by
  have ih:=ug l;have el:(a::b::l).length % 2=l.length % 2:=by simp only[ck];simp+arith
  rw[el];split
  ·rename_i hz
   rw[if_pos hz] at ih;obtain⟨ps,h1,h2⟩:=ih;refine⟨(a,b)::ps,congrArg (lJ ((a,b)::·)) h1,?_⟩;have:=zW (c:=2) (by simp) (xs:=[a,b]) rfl l;rw[show a::b::l=[a,b]++l from rfl,this,h2];rfl
  ·rename_i hz
   rw[if_neg hz] at ih;exact congrArg (lJ ((a,b)::·)) ih
theorem Aj:∀(l:List Int),if l.length % 3=0 then ∃ps,GU l=some ps/\bP 3 l=ps.map (λ(x:Int×Int×Int)=>[x.1,x.2.1,x.2.2]) else GU l=none
 |[]=>by rw[if_pos (by simp)];exact⟨[],rfl,rfl⟩
 |[a]=>by rw[if_neg (by simp)];rfl
 |[a,b]=>by rw[if_neg (by simp)];rfl
 |a::b::c::l=>by
  have ih:=Aj l;have el:(a::b::c::l).length % 3=l.length % 3:=by simp only[ck];simp+arith
  rw[el];split
  ·rename_i hz
   rw[if_pos hz] at ih;obtain⟨ps,h1,h2⟩:=ih;refine⟨(a,b,c)::ps,congrArg (lJ ((a,b,c)::·)) h1,?_⟩;have:=zW (c:=3) (by simp) (xs:=[a,b,c]) rfl l;rw[show a::b::c::l=[a,b,c]++l from rfl,this,h2];rfl
  ·rename_i hz
   rw[if_neg hz] at ih;exact congrArg (lJ ((a,b,c)::·)) ih
theorem Hs:∀(l:List Int),if l.length % 4=0 then ∃ps,Dates.by4 l=some ps/\bP 4 l=ps.map (λ(x:Int×Int×Int×Int)=>[x.1,x.2.1,x.2.2.1,x.2.2.2]) else Dates.by4 l=none
 |[]=>by rw[if_pos (by simp)];exact⟨[],rfl,rfl⟩
 |[a]=>by rw[if_neg (by simp)];rfl
 |[a,b]=>by rw[if_neg (by simp)];rfl
 |[a,b,c]=>by rw[if_neg (by simp)];rfl
 |a::b::c::d::l=>by
  have ih:=Hs l;have el:(a::b::c::d::l).length % 4=l.length % 4:=by simp only[ck];simp+arith
  rw[el];split
  ·rename_i hz
   rw[if_pos hz] at ih;obtain⟨ps,h1,h2⟩:=ih;refine⟨(a,b,c,d)::ps,congrArg (lJ ((a,b,c,d)::·)) h1,?_⟩;have:=zW (c:=4) (by simp) (xs:=[a,b,c,d]) rfl l;rw[show a::b::c::d::l=[a,b,c,d]++l from rfl,this,h2];rfl
  ·rename_i hz
   rw[if_neg hz] at ih;exact congrArg (lJ ((a,b,c,d)::·)) ih
theorem Ht:∀(l:List Int),if l.length % 5=0 then ∃ps,GV l=some ps/\bP 5 l=ps.map (λ(x:Int×Int×Int×Int×Int)=>[x.1,x.2.1,x.2.2.1,x.2.2.2.1,x.2.2.2.2]) else GV l=none
 |[]=>by rw[if_pos (by simp)];exact⟨[],rfl,rfl⟩
 |[a]=>by rw[if_neg (by simp)];rfl
 |[a,b]=>by rw[if_neg (by simp)];rfl
 |[a,b,c]=>by rw[if_neg (by simp)];rfl
 |[a,b,c,d]=>by rw[if_neg (by simp)];rfl
 |a::b::c::d::e::l=>by
  have ih:=Ht l;have el:(a::b::c::d::e::l).length % 5=l.length % 5:=by simp only[ck];simp+arith
  rw[el];split
  ·rename_i hz
   rw[if_pos hz] at ih;obtain⟨ps,h1,h2⟩:=ih;refine⟨(a,b,c,d,e)::ps,congrArg (lJ ((a,b,c,d,e)::·)) h1,?_⟩;have:=zW (c:=5) (by simp) (xs:=[a,b,c,d,e]) rfl l;rw[show a::b::c::d::e::l=[a,b,c,d,e]++l from rfl,this,h2];rfl
  ·rename_i hz
   rw[if_neg hz] at ih;exact congrArg (lJ ((a,b,c,d,e)::·)) ih
noncomputable def jf(b:cP):Nat->List (Int×Int)
 |0=>[(1,12),(1,31),(0,0),(0,0)]
 |1=>[(1,12),(0,2),(0,0),(1,19)]
 |2=>[(0,6),(0,0),(0,0),(0,0)]
 |3=>[(0,5),(0,0),(0,0),(1,2000)]
 |4=>[(0,1),(0,0),(0,0),(1,15)]
 |5=>[(0,(((b.feasts.length:Nat):Int)-1)),(0,0),(0,0),((-400),400)]
 |6=>[(0,(((b.feasts.length:Nat):Int)-1)),(0,6),(0,1),(0,0)]
 |7=>[(0,(((b.reigns.length:Nat):Int)-1)),(0,0),(0,0),(1,2000)]
 |8=>[(0,0),(0,0),(0,0),(1,19)]
 |9=>[(0,6),(0,0),(0,0),(0,0)]
 |_=>[]
noncomputable def f_(c:Nat)(cols:List Int)(r:List Int):Bool:=(cS c).all λj=>decide (0<=r.getD j 0)|| !decide ((j:Int)∈cols)
theorem Nq(hc:1<=c)(cols l:List Int):cI c cols l=(decide (l.length % c=0)&&(bP c l).all (f_ c cols)):=by
 unfold cI
 by_cases h:l.length % c=0
 ·rw[decide_eq_true h,gu,gu,aT]
  have hq:(l.length+c-1)/c=l.length/c:=by
   have hd:=KS l.length c;rw[h,oz] at hd;generalize l.length/c=q at*;rw[←hd,Nat.add_sub_assoc hc,Nat.mul_add_div (by trivial),Vg (by omega)];simp
  have hd:=KS l.length c;rw[h,oz] at hd;unfold bP;rw[hq];simp only[fc,yY,gH,f_,forall_exists_index,and_imp,forall_apply_eq_imp_iff₂];constructor
  ·intro H i hi j hj
   have aM:i*c+j<l.length:=by
    rw[←hd];have:(i+1)*c<=(l.length/c)*c:=Nat.mul_le_mul_right c (by trivial);rw[Nat.add_mul,Nat.one_mul] at this;rw[zd c]
    omega
   have:=H (i*c+j) aM;rw[show(i*c+j) % c=j from by rw[zd,Nat.mul_add_mod];exact Nat.mod_eq_of_lt hj] at this
   have e:((l.drop (i*c)).take c).getD j 0=l.getD (i*c+j) 0:=by
    simp[nX,CQ,hj,Km]
   rw[e];exact this
  ·intro H i hi
   have h1:i/c<l.length/c:=by
    rw[Nat.div_lt_iff_lt_mul (by lia),zd,hd];exact hi
   have h2:i % c<c:=Nat.mod_lt _ (by lia);have:=H (i/c) h1 (i % c) h2
   have e:((l.drop (i/c*c)).take c).getD (i % c) 0=l.getD i 0:=by
    have e0:i/c*c+i % c=i:=by rw[zd];exact KS i c
    simp[nX,CQ,h2,Km,e0]
   rw[e] at this;exact this
 ·rw[decide_eq_false h];rfl
theorem jK{α:Type}{l:List α}(h:l.length=0):l=[]:=vz.mp h
@[elab_as_elim] theorem fQ {α:Type} {P:List α->Prop} {l:List α} (q:l.length=0) (h:P []):P l:=jK q▸h
@[elab_as_elim] theorem eX {α:Type} {P:List α->Prop} {n:Nat}:∀{l:List α},l.length=n+1->(∀a t,t.length=n->P (a::t))->P l
  |_::_,q,h=>h _ _ (Lv q)
@[elab_as_elim] theorem jE {α:Type} {P:List α->Prop} {l:List α} (q:l.length=1) (z:∀a,P [a]):P l:=eX q λa y q=>fQ q (z a)
@[elab_as_elim] theorem uH {α:Type} {P:List α->Prop} {l:List α} (q:l.length=2) (z:∀a b,P [a,b]):P l:=eX q λa y q=>eX q λb y q=>fQ q (z a b)
@[elab_as_elim] theorem Qw {α:Type} {P:List α->Prop} {l:List α} (q:l.length=3) (z:∀a b c,P [a,b,c]):P l:=eX q λa y q=>eX q λb y q=>eX q λc y q=>fQ q (z a b c)
@[elab_as_elim] theorem aiD {α:Type} {P:List α->Prop} {l:List α} (q:l.length=11) (z:∀a b c d e f g h i j k,P [a,b,c,d,e,f,g,h,i,j,k]):P l:=eX q λa y q=>eX q λb y q=>eX q λc y q=>eX q λd y q=>eX q λe y q=>eX q λf y q=>eX q λg y q=>eX q λh y q=>eX q λi y q=>eX q λj y q=>eX q λk y q=>fQ q (z a b c d e f g h i j k)
@[elab_as_elim] theorem ajN {α:Type} {P:List α->Prop} {l:List α} (q:l.length=5) (z:∀a b c d e,P [a,b,c,d,e]):P l:=eX q λa y q=>eX q λb y q=>eX q λc y q=>eX q λd y q=>eX q λe y q=>fQ q (z a b c d e)
theorem mF{P:Nat->Prop}{n:Nat}(h:P 0)(g:∀k,k<n->P (k+1)):∀k,k<n+1->P k
 |0,_=>h
 |k+1,q=>g k (Nat.lt_of_succ_lt_succ q)
theorem lt10{P:Nat->Prop}(a:P 0)(b:P 1)(c:P 2)(d:P 3)(e:P 4)(f:P 5)(g:P 6)(h:P 7)(i:P 8)(j:P 9):∀k,k<10->P k:=mF a (mF b (mF c (mF d (mF e (mF f (mF g (mF h (mF i (mF j λk q=>absurd q (qk k))))))))))
theorem qR{α β:Type}{f:α->Option β}{g:α->β}{p:α->Bool}(h:∀x,f x=if p x=true then some (g x) else none):∀l:List α,l.mapM f=if l.all p=true then some (l.map g) else none
 |[]=>rfl
 |x::l=>by
  rw[List.mapM_cons,qR h l,h x];cases e:p x with
  |false=>simp[e]
  |true=>simp only[if_true,kJ,e,gu];split<;>rfl
theorem nat_eq(n:Int):gK n=if decide (0<=n)=true then some n.toNat else none:=by
 unfold gK
 by_cases h:0<=n<;>simp[h]
noncomputable abbrev P5:=Int×Int×Int×Int×Int
noncomputable def vh(y:P5):oW:=⟨y.1.toNat,y.2.1.toNat,y.2.2.1.toNat,y.2.2.2.1.toNat,y.2.2.2.2⟩
noncomputable def jL(y:P5):Bool:=decide (0<=y.1)&&(decide (0<=y.2.1)&&(decide (0<=y.2.2.1)&&decide (0<=y.2.2.2.1)))
theorem afx(y:P5):(match gK y.1,gK y.2.1,gK y.2.2.1,gK y.2.2.2.1 with
 |some k,some a,some b,some c=>some (⟨k,a,b,c,y.2.2.2.2⟩:oW)
 |_,_,_,_=>none)=if jL y=true then some (vh y) else none:=by
 simp only[nat_eq,jL]
 by_cases h1:0<=y.1<;>by_cases h2:0<=y.2.1<;>by_cases h3:0<=y.2.2.1<;>by_cases h4:0<=y.2.2.2.1<;>simp[h1,h2,h3,h4,vh]
theorem ajO(y:P5):f_ 5 [0,1,2,3] [y.1,y.2.1,y.2.2.1,y.2.2.2.1,y.2.2.2.2]=jL y:=by
 simp[f_,jL,cS,yU]
theorem Hu(h:jL y=true):iL (vh y)=[y.1,y.2.1,y.2.2.1,y.2.2.2.1,y.2.2.2.2]:=by
 simp[jL] at h;simp[iL,vh]
 grind
theorem G2(h:GV l=some ps):ow l=if ps.all jL=true then some (ps.map vh) else none:=by
 unfold ow;rw[h,qg];exact qR afx ps
theorem Nr(l:List Int):(cI 5 [0,1,2,3] l=true/\∃ms,ow l=some ms/\bP 5 l=ms.map iL)\/(cI 5 [0,1,2,3] l=false/\ow l=none):=by
 rw[Nq (by decide)];have hb:=Ht l;split at hb
 ·rename_i h
  obtain⟨ps,h1,h2⟩:=hb;rw[G2 h1,h2,decide_eq_true h,gu,qv];have e:(f_ 5 [0,1,2,3] ∘ λ(x:P5)=>[x.1,x.2.1,x.2.2.1,x.2.2.2.1,x.2.2.2.2])=jL:=by funext y;exact ajO y
  rw[e];cases c:ps.all jL with
  |false=>exact .inr ⟨rfl,rfl⟩
  |true=>
   refine .inl ⟨rfl,_,rfl,?_⟩;rw[ff];refine k9 λy hy=>?_;rw[fc] at c;exact(Hu (c y hy)).symm
 ·rename_i h
  rw[decide_eq_false h];refine .inr ⟨rfl,?_⟩;unfold ow;rw[hb];rfl
noncomputable def gT(x:Int×Int)(n:Int):Bool:=decide (x.1<=n)&&decide (n<=x.2)
noncomputable def fL(b:cP)(r:List Int):Bool:=decide (r.length=5)&&(decide (0<=r.getD 0 0)&&(decide (r.getD 0 0<=9)&&(((jf b (r.getD 0 0).toNat).zip (r.drop 1)).all λx=>gT x.1 x.2)))
theorem Ia(n:Nat):gT (0,0) n=(n==0):=by rw[aT];simp[gT]
theorem aiE(x:Int):gT (0,0) x=(x==0):=by rw[aT];simp[gT];(constructor<;>lia)
theorem rC(m n:Nat):gT (0,(m:Int)) n=decide (n<=m):=by rw[aT];simp[gT]
theorem Ib(m n:Nat):gT (0,(m:Int)-1) n=decide (n<m):=by rw[aT];simp[gT];(constructor<;>lia)
theorem Ic(m n:Nat):gT (1,(m:Int)) n=(decide (1<=n)&&decide (n<=m)):=by rw[aT];simp[gT];omega
theorem l6{a b c d x y z w:Bool}(h:a=x)(i:b=y)(j:c=z)(k:d=w):(a&&(b&&(c&&(d&&true))))=(x&&(y&&(z&&w))):=by rw[h,i,j,k,tF]
theorem F4(b:cP)(k:oW):fL b (iL k)=k.right b:=by
 obtain⟨k,x,y,z,w⟩:=k;have e:=Ia y;have f:=Ia z;have g:=aiE w
 match k with
 |0=>exact(l6 (Ic 12 x) (Ic 31 y) f g).trans (by simp only[Xe];rfl)
 |1=>exact(l6 (Ic 12 x) (rC 2 y) f rfl).trans (by simp only[Xe];rfl)
 |2=>exact l6 (rC 6 x) e f g
 |3=>exact l6 (rC 5 x) e f rfl
 |4=>exact l6 (rC 1 x) e f rfl
 |5=>exact l6 (Ib _ x) e f rfl
 |6=>exact l6 (Ib _ x) (rC 6 y) (rC 1 z) g
 |7=>exact l6 (Ib _ x) e f rfl
 |8=>exact l6 (Ia x) e f rfl
 |9=>exact l6 (rC 6 x) e f g
 |n+10=>
  have e:decide (((n+10:Nat):Int)<=9)=false:=decide_eq_false (by simp+arith);unfold fL iL;simp only[yO,e,mP,oj];rfl
theorem aiF(b:cP):∀k,k<10->∃x y z w,jf b k=[x,y,z,w]/\0<=x.1/\0<=y.1/\0<=z.1:=by
 apply lt10<;>exact⟨_,_,_,_,rfl,n9 _,n9 _,n9 _⟩
theorem LU(b:cP)(l:List Int):fL b l=(match ow l with|some [k]=>k.right b|_=>false):=by
 by_cases h5:l.length=5
 ·refine ajN h5 λk a c d x=>?_
  ·rw[G2 (l:=[k,a,c,d,x]) (ps:=[(k,a,c,d,x)]) rfl]
   rw[show [(k,a,c,d,x)].all jL=jL (k,a,c,d,x) from tF _];cases e:jL (k,a,c,d,x) with
   |true=>
    show fL b [k,a,c,d,x]=(vh (k,a,c,d,x)).right b;rw[←F4,Hu e]
   |false=>
    show fL b [k,a,c,d,x]=false;rw[sZ];intro hh;simp only[fL,yO,bx,decide_eq_true_eq] at hh;obtain⟨_,p,q,r⟩:=hh;obtain⟨x,y,z,w,e2,h0,h1,h2⟩:=aiF b k.toNat (by lia);rw[e2] at r;simp only[To,Xf,qa,kJ,gT,bx,decide_eq_true_eq] at r;cases e.symm.trans (show(decide (0<=k)&&(decide (0<=a)&&(decide (0<=c)&&decide (0<=d))))=true by rw[decide_eq_true p,decide_eq_true (zf h0 r.1.1),decide_eq_true (zf h1 r.2.1.1),decide_eq_true (zf h2 r.2.2.1.1)];rfl)
 ·have hl:fL b l=false:=by simp[fL,h5]
  rw[hl]
  symm
  rcases Nr l with⟨_,ms,e,hg⟩|⟨_,e⟩
  ·rw[e]
   match ms with
   |[]=>rfl
   |[k]=>
    exfalso;have hb:=Ht l;split at hb
    ·rename_i hz
     have:=congrArg vX hg;unfold bP at this;simp at this;lia
    ·rw[show ow l=(GV l).bind _ from rfl,hb] at e
     cases e
   |_::_::_=>rfl
  ·rw[e]
noncomputable abbrev P3:=Int×Int×Int
noncomputable abbrev P4:=Int×Int×Int×Int
noncomputable def iV(y:P3):Bool:=decide (0<=y.1)&&(decide (0<=y.2.1)&&decide (0<=y.2.2))
noncomputable def vj(y:P3):Claim:=⟨y.1.toNat,y.2.1.toNat,y.2.2.toNat⟩
noncomputable def i7(c:Claim):List Int:=[c.kind,c.a,c.b]
theorem ad3(y:P3):(match gK y.1,gK y.2.1,gK y.2.2 with
 |some k,some a,some b=>some (⟨k,a,b⟩:Claim)
 |_,_,_=>none)=if iV y=true then some (vj y) else none:=by
 simp only[nat_eq,iV]
 by_cases h1:0<=y.1<;>by_cases h2:0<=y.2.1<;>by_cases h3:0<=y.2.2<;>simp[h1,h2,h3,vj]
theorem Qx(y:P3):f_ 3 [0,1,2] [y.1,y.2.1,y.2.2]=iV y:=by simp[f_,iV,cS,yU]
theorem Hv(h:iV y=true):i7 (vj y)=[y.1,y.2.1,y.2.2]:=by
 simp[iV] at h;simp[i7,vj]
 grind
theorem zJ(h:GU l=some ps):om l=if ps.all iV=true then some (ps.map vj) else none:=by
 unfold om;rw[h,qg];exact qR ad3 ps
theorem wU{α β:Type}{c:Nat}(hc:1<=c){row:α->List Int}{ok:α->Bool}{f:α->β}{l7:β->List Int}{l:List Int}{jM:Option (List α)}(hb:if l.length % c=0 then ∃ps,jM=some ps/\bP c l=ps.map row else jM=none)(xO:∀y,f_ c cols (row y)=ok y)(fR:∀y,ok y=true->l7 (f y)=row y):
 (cI c cols l=true/\∃ps,jM=some ps/\ps.all ok=true/\bP c l=(ps.map f).map l7)\/(cI c cols l=false/\(jM=none\/∃ps,jM=some ps/\ps.all ok=false)):=by
 rw[Nq hc];split at hb
 ·rename_i h
  obtain⟨ps,h1,h2⟩:=hb;rw[h2,decide_eq_true h,gu,qv];have e:(f_ c cols ∘ row)=ok:=by funext y;exact xO y
  rw[e];cases q:ps.all ok with
  |false=>exact .inr ⟨rfl,.inr ⟨ps,h1,q⟩⟩
  |true=>
   refine .inl ⟨rfl,ps,h1,q,?_⟩;rw[ff];refine k9 λy hy=>?_;rw[fc] at q;exact(fR y (q y hy)).symm
 ·rename_i h
  rw[decide_eq_false h];exact .inr ⟨rfl,.inl hb⟩
theorem MJ(l:List Int):(cI 3 [0,1,2] l=true/\∃ms,om l=some ms/\bP 3 l=ms.map i7)\/(cI 3 [0,1,2] l=false/\om l=none):=by
 rcases wU (by decide) (Aj l) Qx (λy h=>Hv h) with⟨h,ps,h1,h2,h3⟩|⟨h,h1|⟨ps,h1,h2⟩⟩
 ·exact .inl ⟨h,_,by rw[zJ h1,h2];rfl,h3⟩
 ·refine .inr ⟨h,?_⟩
  unfold om;rw[h1];rfl
 ·refine .inr ⟨h,?_⟩
  rw[zJ h1,h2];rfl
noncomputable def cnt(b:bW)(k:Nat):Nat:=match k with|0=>b.persons.length|1=>b.persons.length|2=>b.seals.length|_=>b.places.length
noncomputable def fM(b:bW)(r:List Int):Bool:=decide (r.length=3)&&(decide (0<=r.getD 0 0)&&(decide (r.getD 0 0<=3)&&((decide (0<=r.getD 1 0)&&decide (r.getD 1 0<(cnt b (r.getD 0 0).toNat:Int)))&&(decide (0<=r.getD 2 0)&&decide (r.getD 2 0<(if r.getD 0 0=1 then (b.offices.length:Int) else 1))))))
theorem F5(b:bW)(k:Claim):fM b (i7 k)=k.right b:=by
 unfold fM lC i7;simp only[ck,eT,yO,Ka,fG]
 match h:k.kind with
 |0=>rw[aT];simp[cnt];simp+arith
 |1=>rw[aT];simp[cnt]
 |2=>rw[aT];simp[cnt];simp+arith
 |3=>rw[aT];simp[cnt];simp+arith
 |n+4=>rw[aT];simp;omega
theorem LV(b:bW)(l:List Int):fM b l=(match om l with|some [k]=>k.right b|_=>false):=by
 by_cases h5:l.length=3
 ·refine Qw h5 λk a c=>?_
  ·rw[zJ (l:=[k,a,c]) (ps:=[(k,a,c)]) rfl]
   rw[show [(k,a,c)].all iV=iV (k,a,c) from tF _];cases e:iV (k,a,c) with
   |true=>
    show fM b [k,a,c]=(vj (k,a,c)).right b;rw[←F5,Hv e]
   |false=>
    show fM b [k,a,c]=false;rw[sZ];intro hh;simp only[fM,yO,Ka,bx,decide_eq_true_eq] at hh;obtain⟨_,h1,_,⟨h2,_⟩,h3,_⟩:=hh;cases e.symm.trans (show(decide (0<=k)&&(decide (0<=a)&&decide (0<=c)))=true by rw[decide_eq_true h1,decide_eq_true h2,decide_eq_true h3];rfl)
 ·have hl:fM b l=false:=by simp[fM,h5]
  rw[hl]
  symm
  rcases MJ l with⟨_,ms,e,hg⟩|⟨_,e⟩
  ·rw[e]
   match ms with
   |[]=>rfl
   |[k]=>
    exfalso;have hb:=Aj l;split at hb
    ·rename_i hz
     have:=congrArg vX hg;unfold bP at this;simp at this;lia
    ·rw[show om l=(GU l).bind _ from rfl,hb] at e
     cases e
   |_::_::_=>rfl
  ·rw[e]
noncomputable def uI(y:P4):Bool:=decide (0<=y.1)&&(decide (0<=y.2.1)&&decide (0<=y.2.2.1))
noncomputable def vm(x:P4):ua:=⟨x.1.toNat,x.2.1.toNat,x.2.2.1.toNat,x.2.2.2⟩
noncomputable def r4(x:P4):List Int:=[x.1,x.2.1,x.2.2.1,x.2.2.2]
theorem Nt(x:P4):(match gK x.1,gK x.2.1,gK x.2.2.1 with
 |some m,some i,some d=>some (⟨m,i,d,x.2.2.2⟩:ua)
 |_,_,_=>none)=if uI x=true then some (vm x) else none:=by
 simp only[nat_eq,uI]
 by_cases h1:0<=x.1<;>by_cases h2:0<=x.2.1<;>by_cases h3:0<=x.2.2.1<;>simp[h1,h2,h3,vm]
theorem aiG(y:P4):f_ 4 [0,1,2] [y.1,y.2.1,y.2.2.1,y.2.2.2]=uI y:=by simp[f_,uI,cS,yU]
theorem afy(y:P4)(h:uI y=true):gx (vm y)=[y.1,y.2.1,y.2.2.1,y.2.2.2]:=by
 simp[uI] at h;simp[gx,vm]
 grind
noncomputable abbrev P2:=Int×Int
noncomputable def BW(x:P2):iM:=⟨x.1,x.2⟩
theorem Io(y:P2):f_ 2 [] [y.1,y.2]=true:=by simp[f_]
theorem Hw(y:P2)(_:true=true):dZ (BW y)=[y.1,y.2]:=rfl
theorem Ot(head feasts reigns:List Int):((decide (head.length=2)&&(cI 4 [0,1,2] feasts&&cI 2 [] reigns))=true/\∃d:cP,oA head feasts reigns=some d/\head=[d.from_,d.to_]/\bP 4 feasts=d.feasts.map gx/\bP 2 reigns=d.reigns.map dZ)\/
 ((decide (head.length=2)&&(cI 4 [0,1,2] feasts&&cI 2 [] reigns))=false/\oA head feasts reigns=none):=by
 have ajP:head.length≠2->oA head feasts reigns=none:=λh=>by
  match head,h with
  |[],_=>rfl
  |[_],_=>rfl
  |[_,_],h=>exact(h rfl).elim
  |_::_::_::_,_=>rfl
 by_cases hh:head.length=2
 ·match head,hh with
  |[a,c],_=>
   simp only[ck,eT,decide_true,gu];have hf:=wU (f:=vm) (l7:=gx) (by decide) (Hs feasts) aiG afy;have hr:=wU (ok:=λz=>true) (f:=BW) (l7:=dZ) (by decide) (ug reigns) Io Hw;rcases hf with⟨f1,ps,f2,f3,f4⟩|⟨f1,f2⟩
   ·rcases hr with⟨g1,qs,g2,g3,g4⟩|⟨g1,g2|⟨qs,g2,g3⟩⟩
    ·refine .inl ⟨by rw[f1,g1];rfl,⟨a,c,ps.map vm,qs.map BW⟩,?_,rfl,f4,g4⟩
     unfold oA;rw[f2,g2];dsimp only;have:=qR Nt ps;rw[f3,if_pos rfl] at this;exact congrArg (lJ _) this
    ·refine .inr ⟨by rw[f1,g1];rfl,?_⟩
     unfold oA;rw[f2,g2]
    ·simp at g3
   ·refine .inr ⟨by rw[f1];rfl,?_⟩
    unfold oA;rcases f2 with f2|⟨ps,f2,f3⟩
    ·rw[f2]
    ·rw[f2]
     cases M0 reigns with
     |none=>rfl
     |some r=>
      dsimp only;have:=qR Nt ps;rw[f3,if_neg (by simp)] at this;exact congrArg (lJ _) this
 ·exact .inr ⟨by simp[hh],ajP hh⟩
noncomputable def uJ(y:P4):Bool:=decide (0<=y.1)&&decide (0<=y.2.1)
noncomputable def BX(x:P4):Hold:=⟨x.1.toNat,x.2.1.toNat,⟨x.2.2.1,x.2.2.2⟩⟩
theorem afz(x:P4):(match gK x.1,gK x.2.1 with
 |some p,some o=>some (⟨p,o,⟨x.2.2.1,x.2.2.2⟩⟩:Hold)
 |_,_=>none)=if uJ x=true then some (BX x) else none:=by
 simp only[nat_eq,uJ]
 by_cases h1:0<=x.1<;>by_cases h2:0<=x.2.1<;>simp[h1,h2,BX]
theorem aiH(y:P4):f_ 4 [0,1] [y.1,y.2.1,y.2.2.1,y.2.2.2]=uJ y:=by simp[f_,uJ,cS,yU]
theorem afA(y:P4)(h:uJ y=true):eW (BX y)=[y.1,y.2.1,y.2.2.1,y.2.2.2]:=by
 simp[uJ] at h;simp[eW,BX]
 grind
noncomputable def BY(x:P3):Way:=⟨x.1.toNat,x.2.1.toNat,x.2.2.toNat⟩
theorem ahn(x:P3):(match gK x.1,gK x.2.1,gK x.2.2 with
 |some i,some j,some d=>some (⟨i,j,d⟩:Way)
 |_,_,_=>none)=if iV x=true then some (BY x) else none:=by
 simp only[nat_eq,iV]
 by_cases h1:0<=x.1<;>by_cases h2:0<=x.2.1<;>by_cases h3:0<=x.2.2<;>simp[h1,h2,h3,BY]
theorem afB(y:P3)(h:iV y=true):gM (BY y)=[y.1,y.2.1,y.2.2]:=by
 simp[iV] at h;simp[gM,BY];lia
noncomputable def vn(y:P2):Bool:=decide (0<=y.2)
noncomputable def A7(x:P2):Seen:=⟨x.1,x.2.toNat⟩
theorem afC(x:P2):((gK x.2).map λ(p:Nat)=>(⟨x.1,p⟩:Seen))=if vn x=true then some (A7 x) else none:=by
 simp only[nat_eq,vn]
 by_cases h1:0<=x.2<;>simp[h1,A7]
theorem aiI(y:P2):f_ 2 [1] [y.1,y.2]=vn y:=by simp[f_,vn,cS,yU]
theorem ad4(y:P2)(h:vn y=true):jv (A7 y)=[y.1,y.2]:=by
 simp[vn] at h;simp[jv,A7]
 grind
noncomputable def nF(lives persons holds seals ways seens:List Int):Bool:=cI 2 [] lives&&(cI 4 [0,1] holds&&(cI 2 [] seals&&(cI 3 [0,1,2] ways&&(cI 2 [1] seens&&decide ((g_ persons).length=lives.length/2)))))
theorem ad5(h:l.length % 2=0):(bP 2 l).length=l.length/2:=by
 unfold bP;simp;lia
def iB{β:Type}(a:Bool)(X:Option β)(P:β->Prop):Prop:=(a=true/\∃x,X=some x/\P x)\/(a=false/\X=none)
theorem iB.bind{α β:Type}{a b:Bool}{X:Option α}{F:α->Option β}{P:α->Prop}{Q:β->Prop}(h:iB a X P)(k:∀x,X=some x->P x->iB b (F x) Q):iB (a&&b) (X.bind F) Q:=by
 rcases h with⟨rfl,x,rfl,h⟩|⟨rfl,rfl⟩
 ·exact k x rfl h
 ·exact .inr ⟨rfl,rfl⟩
theorem iB.of{β:Type}{a:Bool}{X Y:Option β}{P:β->Prop}(h:iB a Y P)(e:Y=X):iB a X P:=e▸h
theorem Qy{α β:Type}{c:Nat}{l:List Int}{jM:Option (List α)}{row:α->List Int}{f:α->β}{l7:β->List Int}{cols:List Int}(hc:1<=c)(hb:if l.length % c=0 then ∃ps,jM=some ps/\bP c l=ps.map row else jM=none)(xO:∀y,f_ c cols (row y)=true)(fR:∀y,true=true->l7 (f y)=row y):iB (cI c cols l) jM λps=>bP c l=(ps.map f).map l7:=by
 rcases wU (ok:=λz=>true) hc hb xO fR with⟨a,x,b,_,d⟩|⟨a,b|⟨x,b,d⟩⟩
 ·exact .inl ⟨a,x,b,d⟩
 ·exact .inr ⟨a,b⟩
 ·simp at d
theorem Ip{α β:Type}{c:Nat}{l:List Int}{jM:Option (List α)}{row:α->List Int}{f:α->β}{l7:β->List Int}{cols:List Int}{ok:α->Bool}{g:α->Option β}(hc:1<=c)(hb:if l.length % c=0 then ∃ps,jM=some ps/\bP c l=ps.map row else jM=none)(xO:∀y,f_ c cols (row y)=ok y)(fR:∀y,ok y=true->l7 (f y)=row y)(hg:∀x,g x=if ok x=true then some (f x) else none):iB (cI c cols l) (jM.bind λx=>x.mapM g) λks=>bP c l=ks.map l7:=by
 rcases wU hc hb xO fR with⟨a,x,rfl,b,d⟩|⟨a,rfl|⟨x,rfl,d⟩⟩
 ·exact .inl ⟨a,_,(qR hg x).trans (if_pos b),d⟩
 ·exact .inr ⟨a,rfl⟩
 ·exact .inr ⟨a,(qR hg x).trans (if_neg (ne_true_of_eq_false d))⟩
theorem aiJ(c:List (Int×Int)->Prop) [∀x,Decidable (c x)](f:List (Int×Int×Int×Int)->Option (List Hold))(g:List (Int×Int×Int)->Option (List Way))(k:List (Int×Int)->Option (List Seen))(K:List (Int×Int)->List Hold->List (Int×Int)->List Way->List Seen->bW)(l:Option (List (Int×Int)))(h:Option (List (Int×Int×Int×Int)))(s:Option (List (Int×Int)))(w:Option (List (Int×Int×Int)))(t:Option (List (Int×Int))):(l.bind λl=>(h.bind f).bind λh=>s.bind λs=>(w.bind g).bind λw=>(t.bind k).bind λt=>if c l then none else some (K l h s w t))=(match l,h,s,w,t with
 |some l,some h,some s,some w,some t=>if c l then none else match f h,g w,k t with
  |some h,some w,some t=>some (K l h s w t)
  |_,_,_=>none
 |_,_,_,_,_=>none):=by
 rcases l with _|l
 ·rfl
 rcases h with _|h
 ·rfl
 show(f h).bind _=_;rcases s with _|s
 ·cases f h<;>rfl
 rcases w with _|w
 ·cases f h<;>rfl
 show((f h).bind λh=>(g w).bind _)=_;rcases t with _|t
 ·cases f h<;>cases g w<;>rfl
 show((f h).bind λh=>(g w).bind λw=>(k t).bind _)=if c l then none else match f h,g w,k t with
  |some h,some w,some t=>some (K l h s w t)
  |_,_,_=>none
 cases f h with
 |none=>exact(ite_self none).symm
 |some h=>
  cases g w with
  |none=>exact(ite_self none).symm
  |some w=>
   cases k t with
   |none=>exact(ite_self none).symm
   |some t=>rfl
set_option tactic.hygienic true in
theorem Nu(hp:∀z∈persons,0<=z/\z<=255)(ho:∀z∈offices,0<=z/\z<=255)(hq:∀z∈places,0<=z/\z<=255):
 (nF lives persons holds seals ways seens=true/\∃k:bW,La lives (cG persons) (cG offices) holds seals (cG places) ways seens=some k/\
  bP 2 lives=k.persons.map (λx=>dZ x.life)/\g_ persons=k.persons.map (λx=>aX x.name)/\g_ offices=k.offices.map aX/\bP 4 holds=k.holds.map eW/\bP 2 seals=k.seals.map dZ/\g_ places=k.places.map aX/\bP 3 ways=k.ways.map gM/\bP 2 seens=k.seens.map jv)\/
 (nF lives persons holds seals ways seens=false/\La lives (cG persons) (cG offices) holds seals (cG places) ways seens=none):=by
 have np:=Fe hp;have lp:(mR (cG persons)).length=(g_ persons).length:=by rw[←np,aU]
 refine iB.of (iB.bind (Qy (by decide) (ug lives) Io Hw) λl e l4=>iB.bind (Ip (by decide) (Hs holds) aiH afA afz) λh v h4=>iB.bind (Qy (by decide) (ug seals) Io Hw) λs v s4=>iB.bind (Ip (by decide) (Aj ways) Qx afB ahn) λw v w4=>iB.bind (Ip (by decide) (ug seens) aiI ad4 afC) λt v t4=>(?_:iB (decide ((g_ persons).length=lives.length/2)) (if l.length≠(mR (cG persons)).length then none else some (bW.mk ((l.zip (mR (cG persons))).map (λ(x:(Int×Int)×j3)=>⟨⟨x.1.1,x.1.2⟩,x.2⟩)) (mR (cG offices)) h (s.map BW) (mR (cG places)) w t)) _)) (aiJ _ _ _ _ _ _ _ _ _ _);have ll:=congrArg vX l4
 rw[aU,aU,ad5 (by
  refine Decidable.byContradiction λq=>?_;have:=ug lives;rw[if_neg q,e] at this;cases this)] at ll
 by_cases c:(g_ persons).length=lives.length/2
 ·have c':l.length=(mR (cG persons)).length:=by rw[lp,c,ll]
  refine .inl ⟨decide_eq_true c,_,if_neg (λq=>q c'),?_,?_,(Fe ho).symm,h4,s4,(Fe hq).symm,w4,t4⟩
  ·rw[l4,ff,ff]
   show l.map (λx=>[x.1,x.2])=(l.zip (mR (cG persons))).map ((λ(y:Int×Int)=>[y.1,y.2]) ∘ Prod.fst);rw[←ff,Vh (vR c')]
  ·rw[←np,ff]
   show _=(l.zip (mR (cG persons))).map (aX ∘ Prod.snd);rw[←ff,Vi (vR c'.symm)]
 ·exact .inr ⟨decide_eq_false c,if_pos (by rw[lp,←ll];exact λe=>c e.symm)⟩
theorem Nv(h:Mi s=some (x,t)):∃m r,s=m::r/\0<=m/\m.toNat<=r.length/\x=r.take m.toNat/\t=r.drop m.toNat:=by
 cases s with
 |nil=>cases h
 |cons m r=>
  simp only[Mi] at h;split at h
  ·rename_i c
   cases h;exact⟨m,r,rfl,c.1,c.2,rfl,rfl⟩
  ·cases h
set_option tactic.hygienic true in
theorem GB(h:jV (k+1) s=some (xs,t)):∃x ys u,Mi s=some (x,u)/\jV k u=some (ys,t)/\xs=x::ys:=by
 simp only[jV] at h;split at h
 ·cases h
 ·rename_i x u e
  split at h
  ·cases h
  ·rename_i ys v e2
   cases h;exact⟨x,ys,u,e,e2,rfl⟩
theorem zK:∀{k:Nat}{s:List Int}{xs:List (List Int)}{t:List Int},jV k s=some (xs,t)->xs.length=k
 |0,s,xs,t,h=>by cases h;rfl
 |k+1,s,xs,t,h=>by
  obtain⟨x,ys,u,_,h2,rfl⟩:=GB h;simp[zK h2]
set_option tactic.hygienic true in
theorem acf(h:aat sh (p::r)=some (c,t)):∃n k xs,sh p=some (n,k)/\n<=r.length/\jV k (r.drop n)=some (xs,t)/\c=(p::r.take n)::xs:=by
 simp only[aat] at h;split at h
 ·cases h
 ·rename_i n k e
  split at h
  ·cases h
  ·rename_i hl
   split at h
   ·cases h
   ·rename_i xs u e2
    cases h;exact⟨n,k,xs,e,by simp_all,e2,rfl⟩
set_option tactic.hygienic true in
theorem LW(h:lG sh f (p::r)=some cs):∃g n k xs t nU,f=g+1/\sh p=some (n,k)/\n<=r.length/\jV k (r.drop n)=some (xs,t)/\cs=((p::r.take n)::xs)::nU/\lG sh g t=some nU:=by
 cases f with
 |zero=>cases h
 |succ g=>
  simp only[lG] at h;split at h
  ·cases h
  ·rename_i c t e
   split at h
   ·cases h
   ·rename_i nU e2
    cases h;obtain⟨n,k,xs,h1,h2,h3,rfl⟩:=acf e;exact⟨g,n,k,xs,t,nU,rfl,h1,h2,h3,rfl,e2⟩
theorem MK(h:lG sh f []=some cs):cs=[]:=by
 cases f<;>(simp only[lG] at h;cases h;rfl)
theorem zw(h:iZ p=some (n,k)):1<=p/\p<=18:=by
 unfold iZ at h
 by_cases e:p=1
 ·rw[e];decide
 rw[if_neg e] at h;clear e
 by_cases e:p=2
 ·rw[e];decide
 rw[if_neg e] at h;clear e
 by_cases e:p=3
 ·rw[e];decide
 rw[if_neg e] at h;clear e
 by_cases e:p=4
 ·rw[e];decide
 rw[if_neg e] at h;clear e
 by_cases e:p=5
 ·rw[e];decide
 rw[if_neg e] at h;clear e
 by_cases e:p=6
 ·rw[e];decide
 rw[if_neg e] at h;clear e
 by_cases e:p=7
 ·rw[e];decide
 rw[if_neg e] at h;clear e
 by_cases e:p=8
 ·rw[e];decide
 rw[if_neg e] at h;clear e
 by_cases e:p=9
 ·rw[e];decide
 rw[if_neg e] at h;clear e
 by_cases e:p=10
 ·rw[e];decide
 rw[if_neg e] at h;clear e
 by_cases e:p=11
 ·rw[e];decide
 rw[if_neg e] at h;clear e
 by_cases e:p=12
 ·rw[e];decide
 rw[if_neg e] at h;clear e
 by_cases e:p=13
 ·rw[e];decide
 rw[if_neg e] at h;clear e
 by_cases e:p=14
 ·rw[e];decide
 rw[if_neg e] at h;clear e
 by_cases e:p=15
 ·rw[e];decide
 rw[if_neg e] at h;clear e
 by_cases e:p=16
 ·rw[e];decide
 rw[if_neg e] at h;clear e
 by_cases e:p=17
 ·rw[e];decide
 rw[if_neg e] at h;clear e
 by_cases e:p=18
 ·rw[e];decide
 rw[if_neg e] at h;clear e;cases h
theorem fY{α:Type}{l:List α}(h:l.length=n+1):∃a t,l=a::t/\t.length=n:=by
 cases l with
 |nil=>cases h
 |cons a t=>exact⟨a,t,rfl,Lv h⟩
theorem gB{a b n k:Nat}(h:some (a,b)=some (n,k)):n=a/\k=b:=by cases h;exact⟨rfl,rfl⟩
theorem Zo(h:iZ p=some (n,k))(ha:as.length=n)(hx:xs.length=k):Xg ((p::as)::xs)=(p::as)::xs:=by
 have h1:=(zw h).1;have h2:=(zw h).2;obtain⟨m,rfl⟩:∃m:Nat,p=m:=⟨p.toNat,by grind⟩;have h3:m<=18:=by lia
 match m,h3 with
 |0,_=>exact absurd h1 (by decide)
 |1,_=>
  have q:=gB (a:=3) (b:=0) h;exact Qw (ha.trans q.1) λz z z=>fQ (hx.trans q.2) rfl
 |2,_=>
  have q:=gB (a:=1) (b:=0) h;exact jE (ha.trans q.1) λz=>fQ (hx.trans q.2) rfl
 |3,_=>
  have q:=gB (a:=1) (b:=0) h;exact jE (ha.trans q.1) λz=>fQ (hx.trans q.2) rfl
 |4,_=>
  have q:=gB (a:=1) (b:=0) h;exact jE (ha.trans q.1) λz=>fQ (hx.trans q.2) rfl
 |5,_=>
  have q:=gB (a:=0) (b:=11) h;exact fQ (ha.trans q.1) (aiD (hx.trans q.2) λz z z z z z z z z z z=>rfl)
 |6,_=>
  have q:=gB (a:=2) (b:=0) h;exact uH (ha.trans q.1) λz z=>fQ (hx.trans q.2) rfl
 |7,_=>
  have q:=gB (a:=2) (b:=0) h;exact uH (ha.trans q.1) λz z=>fQ (hx.trans q.2) rfl
 |8,_=>
  have q:=gB (a:=2) (b:=0) h;exact uH (ha.trans q.1) λz z=>fQ (hx.trans q.2) rfl
 |9,_=>
  have q:=gB (a:=1) (b:=1) h;exact jE (ha.trans q.1) λz=>jE (hx.trans q.2) λz=>rfl
 |10,_=>
  have q:=gB (a:=0) (b:=1) h;exact fQ (ha.trans q.1) (jE (hx.trans q.2) λz=>rfl)
 |11,_=>
  have q:=gB (a:=0) (b:=1) h;exact fQ (ha.trans q.1) (jE (hx.trans q.2) λz=>rfl)
 |12,_=>
  have q:=gB (a:=1) (b:=1) h;exact jE (ha.trans q.1) λz=>jE (hx.trans q.2) λz=>rfl
 |13,_=>
  have q:=gB (a:=2) (b:=0) h;exact uH (ha.trans q.1) λz z=>fQ (hx.trans q.2) rfl
 |14,_=>
  have q:=gB (a:=2) (b:=0) h;exact uH (ha.trans q.1) λz z=>fQ (hx.trans q.2) rfl
 |15,_=>
  have q:=gB (a:=2) (b:=0) h;exact uH (ha.trans q.1) λz z=>fQ (hx.trans q.2) rfl
 |16,_=>
  have q:=gB (a:=1) (b:=1) h;exact jE (ha.trans q.1) λz=>jE (hx.trans q.2) λz=>rfl
 |17,_=>
  have q:=gB (a:=0) (b:=1) h;exact fQ (ha.trans q.1) (jE (hx.trans q.2) λz=>rfl)
 |18,_=>
  have q:=gB (a:=0) (b:=1) h;exact fQ (ha.trans q.1) (jE (hx.trans q.2) λz=>rfl)
 |m+19,h=>trivial
theorem ML:∀{f:Nat}{l:List Int}{cs:List (List (List Int))},lG iZ f l=some cs->cs.map Xg=cs
 |f,[],cs,h=>by rw[MK h];rfl
 |f,p::r,cs,h=>by
  obtain⟨g,n,k,xs,t,nU,rfl,h1,h2,h3,rfl,h4⟩:=LW h;rw[aV,ML h4,Zo h1 (by rw[vD];simp[*]) (zK h3)]
theorem ad6(l:List Int):Xh l=lG iZ l.length l:=by
 unfold Xh;cases e:lG iZ l.length l with
 |none=>rfl
 |some cs=>
  simp only;rw[ML e]
structure Qz(s:gI):Prop where
 d:s.days.fault=none
 b:s.books.fault=none
theorem aaV:Qz FJ:=⟨by decide,by decide⟩
end Cd
namespace Cd
open Se Dates
noncomputable abbrev gj:=bD
noncomputable def T1(a:Answer):List Int:=cA a
section
variable(s:State)
theorem uZ(y m d:Int):gj s [[1,y,m,d]]=(s,T1 (asked s (.day y m d))):=rfl
theorem uQ(d:Int):gj s [[2,d]]=(s,T1 (asked s (.tell d))):=rfl
theorem uR(d:Int):gj s [[3,d]]=(s,T1 (asked s (.easter d))):=rfl
theorem By(d:Int):gj s [[4,d]]=(s,T1 (asked s (.roman d))):=rfl
theorem pT(a b e l p o h z q w t:List Int):gj s [[5],a,b,e,l,p,o,h,z,q,w,t]=((Mj s (.set_ a b e l (cG p) (cG o) h z (cG q) w t)).1,T1 (Mj s (.set_ a b e l (cG p) (cG o) h z (cG q) w t)).2):=rfl
theorem st6(f y:Int):gj s [[6,f,y]]=(s,T1 (asked s (.feast f y))):=rfl
theorem x_(f y:Int):gj s [[7,f,y]]=(s,T1 (asked s (.year f y))):=rfl
theorem st8(f y:Int):gj s [[8,f,y]]=(s,T1 (asked s (.style f y))):=rfl
theorem st9(f:Int)(m:List Int):gj s [[9,f],m]=(s,T1 (asked s (.has f m))):=rfl
theorem ajQ(m:List Int):gj s [[10],m]=(s,T1 (asked s (.means m))):=rfl
theorem ajR(m:List Int):gj s [[11],m]=(s,T1 (asked s (.clash m))):=rfl
theorem ajS(f:Int)(m:List Int):gj s [[12,f],m]=(s,T1 (asked s (.find f (cG m)))):=rfl
theorem ajT(f y:Int):gj s [[13,f,y]]=(s,T1 (asked s (.holder f y))):=rfl
theorem ajU(f y:Int):gj s [[14,f,y]]=(s,T1 (asked s (.highest f y))):=rfl
theorem ajV(f y:Int):gj s [[15,f,y]]=(s,T1 (asked s (.ride f y))):=rfl
theorem ajW(f:Int)(m:List Int):gj s [[16,f],m]=(s,T1 (asked s (.can f m))):=rfl
theorem ajX(m:List Int):gj s [[17],m]=(s,T1 (asked s (.spans m))):=rfl
theorem ajY(m:List Int):gj s [[18],m]=(s,T1 (asked s (.barred m))):=rfl
end
noncomputable def refuse(jz:List Bool):List Int:=if 8<jz.length then [-2] else match jz.findIdx? (λr=> !r) with|some i=>[-4,(i:Int)]|none=>[]
theorem EI(jz:List Bool):(8<jz.length/\refuse jz=[-2])\/(jz.length<=8/\∃i,jz.findIdx? (λr=> !r)=some i/\refuse jz=[-4,(i:Int)])\/(jz.length<=8/\jz.findIdx? (λr=> !r)=none/\refuse jz=[]):=by
 unfold refuse
 by_cases h:8<jz.length
 ·exact .inl ⟨h,by rw[if_pos h]⟩
 ·rw[if_neg h]
  cases e:jz.findIdx? (λr=> !r) with
  |some i=>exact .inr (.inl ⟨by simp_all,i,rfl,rfl⟩)
  |none=>exact .inr (.inr ⟨by lia,rfl,rfl⟩)
theorem aaW(s:State)(l:List Int)(f:List oW->Answer):(cI 5 [0,1,2,3] l=false/\T1 (withMarks s l f)=[-2])\/
 (cI 5 [0,1,2,3] l=true/\∃ms:List oW,bP 5 l=ms.map iL/\((refuse (ms.map λk=>k.right s.days)≠[]/\T1 (withMarks s l f)=refuse (ms.map λk=>k.right s.days))\/
  (refuse (ms.map λk=>k.right s.days)=[]/\ms.length<=8/\(∀k∈ms,k.right s.days=true)/\withMarks s l f=f ms))):=by
 unfold withMarks rightMarks;rcases Nr l with⟨h,ms,e,hg⟩|⟨h,e⟩
 ·refine .inr ⟨h,ms,hg,?_⟩
  rw[e];dsimp only;have hl:(ms.map λk=>k.right s.days).length=ms.length:=by simp
  have hf:(ms.map λk=>k.right s.days).findIdx? (λr=> !r)=ms.findIdx? λk=> !k.right s.days:=by rw[C7];rfl
  rcases EI (ms.map λk=>k.right s.days) with⟨c,er⟩|⟨c,i,ei,er⟩|⟨c,ei,er⟩
  ·rw[er]
   exact .inl ⟨by simp,by rw[if_pos (by rw[←hl];exact c)];rfl⟩
  ·rw[er]
   rw[hf] at ei;exact .inl ⟨by simp,by rw[if_neg (by rw[←hl];exact tU.mpr c),ei];rfl⟩
  ·rw[hf] at ei
   refine .inr ⟨er,by simp_all,λk hk=>?_,by rw[if_neg (by rw[←hl];exact tU.mpr c),ei]⟩;rw[Co] at ei;simpa using ei k hk
 ·exact .inl ⟨h,by rw[e];rfl⟩
theorem Zp(s:State)(l:List Int)(f:List Claim->Answer):(cI 3 [0,1,2] l=false/\T1 (withClaims s l f)=[-2])\/
 (cI 3 [0,1,2] l=true/\∃ms:List Claim,bP 3 l=ms.map i7/\((refuse (ms.map λk=>k.right s.books)≠[]/\T1 (withClaims s l f)=refuse (ms.map λk=>k.right s.books))\/
  (refuse (ms.map λk=>k.right s.books)=[]/\ms.length<=8/\(∀k∈ms,k.right s.books=true)/\withClaims s l f=f ms))):=by
 unfold withClaims rightClaims;rcases MJ l with⟨h,ms,e,hg⟩|⟨h,e⟩
 ·refine .inr ⟨h,ms,hg,?_⟩
  rw[e];dsimp only;have hl:(ms.map λk=>k.right s.books).length=ms.length:=by simp
  have hf:(ms.map λk=>k.right s.books).findIdx? (λr=> !r)=ms.findIdx? λk=> !k.right s.books:=by rw[C7];rfl
  rcases EI (ms.map λk=>k.right s.books) with⟨c,er⟩|⟨c,i,ei,er⟩|⟨c,ei,er⟩
  ·rw[er]
   exact .inl ⟨by simp,by rw[if_pos (by rw[←hl];exact c)];rfl⟩
  ·rw[er]
   rw[hf] at ei;exact .inl ⟨by simp,by rw[if_neg (by rw[←hl];exact tU.mpr c),ei];rfl⟩
  ·rw[hf] at ei
   refine .inr ⟨er,by simp_all,λk hk=>?_,by rw[if_neg (by rw[←hl];exact tU.mpr c),ei]⟩;rw[Co] at ei;simpa using ei k hk
 ·exact .inl ⟨h,by rw[e];rfl⟩
noncomputable def D0(b:cP):Int:=yearDay b.from_
noncomputable def DN(b:cP):Nat:=(yearDay (b.to_+1)-yearDay b.from_).toNat
theorem ad7{b:cP}(h:b.fault=none):1<=b.from_/\b.from_<=b.to_/\b.to_<=2000/\b.to_<=b.from_+2:=by
 unfold Lb at h;split at h
 ·cases h
 ·rename_i c
  rw[Bool.not_eq_false] at c;simp only[within,bx,decide_eq_true_iff,show eE=2000 from rfl,show qW=3 from rfl] at c;obtain⟨⟨c1,c2⟩,⟨c3,c4⟩,c5,c6⟩:=c;exact⟨c1,c5,c4,by lia⟩
theorem yd{x y:Int}(h:1<=x/\x<=y/\y<=2000/\y<=x+2):365<=yearDay (y+1)-yearDay x/\yearDay (y+1)-yearDay x<=1096/\0<=yearDay x/\yearDay (y+1)<=730500:=by
 unfold yearDay;obtain⟨a,b,c,d⟩:=h;exact⟨by lia,by lia,by lia,by lia⟩
theorem dn{A B:Int}(h:365<=A-B/\A-B<=1096/\0<=B/\A<=730500):365<=(A-B).toNat/\(A-B).toNat<=1096/\0<=B/\B+(A-B).toNat<=730500/\((A-B).toNat:Int)=A-B:=by
 have e:=Tp (zf (by decide) h.1);exact⟨(Int.le_toNat (zf (by decide) h.1)).2 h.1,Int.toNat_le.2 h.2.1,h.2.2.1,by rw[e,Int.add_comm,Int.sub_add_cancel];exact h.2.2.2,e⟩
theorem lY(h:b.fault=none):365<=DN b/\DN b<=1096/\0<=D0 b/\D0 b+DN b<=730500/\((DN b:Nat):Int)=yearDay (b.to_+1)-yearDay b.from_:=dn (yd (ad7 h))
theorem zX(b:cP):b.all=Sets.cE (D0 b) (DN b):=rfl
noncomputable def gb(n N:Nat)(q:Nat->Nat->Bool):List Int:=match Sets.gQ n (λc=>decide (Sets.bits N (λi=>c.all λk=>q k i)=0)) with|some l=>Dates.ints l|none=>[]
theorem LX{α:Type}(l:List α)(h:Int->α->Bool)(f:Int)(N:Nat):T1 (toldSet (zm l.length ((Sets.cE f N).map λd=>maskOf (l.map (h d)))))=(((gb l.length N λk i=>((l[k]?).map (h (f+(i:Int)))).getD false).length:Nat):Int)::gb l.length N λk i=>((l[k]?).map (h (f+(i:Int)))).getD false:=by
 rw[Sets.Zn]
 have e:Sets.cl ((Sets.cE f N).map λd=>maskOf (l.map (h d)))=λc=>decide (Sets.bits N (λi=>c.all λk=>((l[k]?).map (h (f+(i:Int)))).getD false)=0):=by
  funext c;exact Sets.afq f N l h c
 rw[e];unfold gb;cases Sets.gQ l.length _ with
 |none=>rfl
 |some z=>
  show((z.length:Nat):Int)::Dates.ints z=_;simp[Dates.ints]
end Cd
namespace Cd
open PySem PySem.Spec PyProof.Rows L2 Mini
noncomputable abbrev _root_.Mini.E.k(i:Int):E:=.cst (.int i)
noncomputable abbrev _root_.Mini.E.v:=E.var
noncomputable abbrev _root_.Mini.Es.c:=Es.cons
noncomputable abbrev _root_.Mini.Es.o:=Es.nil
noncomputable abbrev _root_.Mini.Ss.c:=Ss.cons
noncomputable abbrev _root_.Mini.Ss.o:=Ss.nil
noncomputable def top(i:Nat):dQ:=JU.main.body.getD i (.Pass ⟨0,0,0,0⟩)
noncomputable def consts:List (Str×V):=[(("LAST_YEAR":Str),V.int (2000)),(("LAST_DAY":Str),V.int (730499)),(("DAYS_OF_FOUR_YEARS":Str),V.int (1461)),(("FIRST_WEEKDAY":Str),V.int (5)),(("SUNDAY":Str),V.int (6)),(("KALENDS":Str),V.int (0)),(("NONES":Str),V.int (1)),(("IDES":Str),V.int (2)),(("MOST_YEARS_BEHIND":Str),V.int (2)),(("MOST_FEASTS":Str),V.int (16)),(("MOST_REIGNS":Str),V.int (16)),(("COMMON_YEAR":Str),V.int (1)),(("BLANK":Str),V.int (32)),(("LONGEST_NAME":Str),V.int (31)),(("CAPITAL_A":Str),V.int (65)),(("CAPITAL_Z":Str),V.int (90)),(("SMALL_A":Str),V.int (97)),(("SMALL_Z":Str),V.int (122)),(("NO_RIDE":Str),V.int (1000000)),(("MOST_PERSONS":Str),V.int (32)),(("MOST_OFFICES":Str),V.int (16)),(("MOST_HOLDS":Str),V.int (64)),(("MOST_SEALS":Str),V.int (16)),(("MOST_PLACES":Str),V.int (16)),(("MOST_SEENS":Str),V.int (64)),(("MOST_WAYS":Str),V.int (240)),(("LONGEST_WAY":Str),V.int (1000)),(("CLAIM_LENGTH":Str),V.int (3)),(("LIVED":Str),V.int (0)),(("HELD":Str),V.int (1)),(("IN_USE":Str),V.int (2)),(("AT_PLACE":Str),V.int (3)),(("LAST_STYLE":Str),V.int (5)),(("CALENDAR_STYLE":Str),V.int (0)),(("EASTER_STYLE":Str),V.int (4)),(("SEPTEMBER_STYLE":Str),V.int (5)),(("MARK_LENGTH":Str),V.int (5)),(("LAST_KIND":Str),V.int (9)),(("HEAD":Str),V.int (0)),(("FEASTS":Str),V.int (1)),(("REIGNS":Str),V.int (2)),(("LIVES":Str),V.int (3)),(("PERSONS":Str),V.int (4)),(("OFFICES":Str),V.int (5)),(("HOLDS":Str),V.int (6)),(("SEALS":Str),V.int (7)),(("PLACES":Str),V.int (8)),(("WAYS":Str),V.int (9)),(("SEENS":Str),V.int (10)),(("MOST_AT_ONCE":Str),V.int (8))]
noncomputable def iN:List (Str×List V):=[(("MONTHS_OF_LATE_NONES":Str),[(V.int (3)),(V.int (5)),(V.int (7)),(V.int (10))]),(("DAYS_BEFORE":Str),[(V.int (0)),(V.int (31)),(V.int (59)),(V.int (90)),(V.int (120)),(V.int (151)),(V.int (181)),(V.int (212)),(V.int (243)),(V.int (273)),(V.int (304)),(V.int (334)),(V.int (365))]),(("STYLES_AHEAD":Str),[(V.int (2)),(V.int (3)),(V.int (5))]),(("NOTHING":Str),[(V.int (0)),(V.int (0))]),(("MONTH":Str),[(V.int (1)),(V.int (12))]),(("WEEKDAY":Str),[(V.int (0)),(V.int (6))]),(("YEAR":Str),[(V.int (1)),(V.int (2000))]),(("GOLDEN_NUMBER":Str),[(V.int (1)),(V.int (19))])]
noncomputable def rB:List Str:=["MONTHS_OF_LATE_NONES","DAYS_BEFORE","DAYBOOK_RULES","LEDGER_RULES","STYLES_AHEAD","BEGINNINGS","NOTHING","MONTH","WEEKDAY","YEAR","GOLDEN_NUMBER","CALLS"]
noncomputable def fns:List Str:=[("is_year":Str),("is_day":Str),("is_span":Str),("is_leap":Str),("days_before_month":Str),("month_length":Str),("year_start":Str),("day_number":Str),("is_date":Str),("date_of":Str),("weekday_of":Str),("easter_of":Str),("is_easter":Str),("first_sunday_of":Str),("roman_of":Str),("first_of":Str),("first_day_of":Str),("last_day_of":Str),("days_of":Str),("dates_of":Str),("are_years":Str),("is_feast":Str),("rule_of_counts":Str),("rule_of_counts_daybook":Str),("rule_of_feasts":Str),("rule_of_reigns":Str),("feast_day":Str),("is_feast_day":Str),("return_of":Str),("reign_year":Str),("split_names":Str),("number_of":Str),("is_length_of_name":Str),("are_small":Str),("is_small_name":Str),("is_capital_name":Str),("way_table":Str),("ride_table":Str),("empty_ledger":Str),("repeats":Str),("is_hold":Str),("is_within_life":Str),("holds_together":Str),("is_way":Str),("leads_alike":Str),("rule_of_counts_ledger":Str),("rule_of_persons":Str),("rule_of_repeated_persons":Str),("rule_of_offices":Str),("rule_of_repeated_offices":Str),("rule_of_holds":Str),("rule_of_lives":Str),("rule_of_one_holder":Str),("rule_of_seals":Str),("rule_of_places":Str),("rule_of_repeated_places":Str),("rule_of_ways":Str),("rule_of_seens":Str),("rule_of_order":Str),("rule_of_rides":Str),("is_right_claim":Str),("stays_of_court":Str),("spans_of_claim":Str),("can_have_been":Str),("set_of_days":Str),("set_of_span":Str),("set_of_spans":Str),("common_days":Str),("spans_of":Str),("least_set":Str),("in_groups":Str),("is_by":Str),("is_held_on":Str),("holder_on":Str),("highest_on":Str),("is_style":Str),("turn_of":Str),("style_year":Str),("indiction_of":Str),("bounds_of":Str),("is_right_mark":Str),("is_beside_feast":Str),("has_mark":Str),("days_with":Str),("are_rows":Str),("daybook_of":Str),("ledger_of":Str),("first_broken":Str),("broken_daybook_rule":Str),("broken_ledger_rule":Str),("settle":Str),("is_number_in":Str),("answer_day":Str),("answer_tell":Str),("answer_easter":Str),("answer_roman":Str),("answer_set":Str),("answer_feast":Str),("answer_year":Str),("answer_style":Str),("answer_has":Str),("refusal_of_things":Str),("refusal_of_marks":Str),("refusal_of_claims":Str),("answer_means":Str),("answer_clash":Str),("answer_find":Str),("answer_holder":Str),("answer_highest":Str),("answer_ride":Str),("answer_can":Str),("sets_of_claims":Str),("answer_spans":Str),("answer_barred":Str),("read_rows":Str),("answers":Str)]
noncomputable def rP:List Str:=["Date","Daybook","Ledger","Chancery"]
noncomputable def rQ:List Str:=["BEGINNINGS","CALLS"]
noncomputable def cfg(kv:List Nat):Cfg:=⟨consts,iN,rB,fns,rP,kv,rQ⟩
abbrev ScP(N P:List Str)(sc:bN):Prop:=sc.kind=.function/\sc.isCoroutine=false/\sc.isGenerator=false/\N.Nodup/\N.take P.length=P/\(∀x∈P,sc.names.lookup x=some .local\/sc.names.lookup x=some .cell)/\∀y∈sc.names,y.2≠.free
structure Fd(st:dQ)(kv:List Nat)(n:Nat)(N:List Str)(b:Ss):Prop where
 t:nB (cfg kv) N 60 (iI st) (lR st)=b
 c:wD N (N.take n) (iI st)
theorem fd{st:dQ}{n:Nat}{N:List Str}{b:Ss}(t:nB (cfg kv) N 60 (iI st) (lR st)=b)(h:ScP N (N.take n) (iI st)):Fd st kv n N b:=⟨t,h.1,h.2.1,h.2.2.1,h.2.2.2.1,h.2.2.2.2.1,h.2.2.2.2.2.1,h.2.2.2.2.2.2⟩
set_option hygiene false in
local macro_rules|`(tactic|tm_at "d")=>`(tactic|exact fd (by kernel_rfl) (by decide+kernel))
noncomputable def Ff:Ss:=.c (.dI (.v 0) "day" (.v 1)) (.c (.dI (.v 0) "year" (.v 2)) (.c (.dI (.v 0) "month" (.v 3)) (.c (.dI (.v 0) "nth" (.v 4)) .o)))
theorem LD:Fd (inClass (top 11) 0) [] 5 ["self","day","year","month","nth"] Ff:=by tm_at "d"
noncomputable def GC:Ss:=.c (.ret (.cmp (.k 1) (.more .le (.v 0) (.one .le (.k 2000))))) .o
theorem acg:Fd (top 12) [] 1 ["y"] GC:=by tm_at "d"
noncomputable def G3:Ss:=.c (.ret (.cmp (.k 0) (.more .le (.v 0) (.one .le (.k 730499))))) .o
theorem ad8:Fd (top 13) [] 1 ["day"] G3:=by tm_at "d"
noncomputable def GD:Ss:=.c (.ret (.cmp (.k 0) (.more .le (.v 0) (.more .le (.v 1) (.one .le (.k 730499)))))) .o
theorem ach:Fd (top 14) [] 2 ["first","last"] GD:=by tm_at "d"
noncomputable def GF:Ss:=.c (.ret (.cmp (.ay .mod (.v 0) (.k 4)) (.one .eq (.k 0)))) .o
theorem aci:Fd (top 15) [] 1 ["y"] GF:=by tm_at "d"
noncomputable def CI:Ss:=.c (.set 2 (.eG (.bQ (.cmp (.v 1) (.one .gt (.k 2))) (.call 3 (.c (.v 0) .o))) (.k 1) (.k 0))) (.c (.ret (.ay .add (.yj [(.int 0),(.int 31),(.int 59),(.int 90),(.int 120),(.int 151),(.int 181),(.int 212),(.int 243),(.int 273),(.int 304),(.int 334),(.int 365)] (.ay .sub (.v 1) (.k 1))) (.v 2))) .o)
theorem S3:Fd (top 16) [] 2 ["y","m","leap_day"] CI:=by tm_at "d"
noncomputable def DT:Ss:=.c (.ret (.ay .sub (.call 4 (.c (.v 0) (.c (.ay .add (.v 1) (.k 1)) .o))) (.call 4 (.c (.v 0) (.c (.v 1) .o))))) .o
theorem Wg:Fd (top 17) [] 2 ["y","m"] DT:=by tm_at "d"
noncomputable def EJ:Ss:=.c (.ret (.ay .add (.ay .mul (.k 365) (.ay .sub (.v 0) (.k 1))) (.ay .fdiv (.ay .sub (.v 0) (.k 1)) (.k 4)))) .o
theorem Yl:Fd (top 18) [] 1 ["y"] EJ:=by tm_at "d"
noncomputable def EK:Ss:=.c (.ret (.ay .sub (.ay .add (.ay .add (.call 6 (.c (.v 0) .o)) (.call 4 (.c (.v 0) (.c (.v 1) .o)))) (.v 2)) (.k 1))) .o
theorem Ym:Fd (top 19) [] 3 ["y","m","d"] EK:=by tm_at "d"
noncomputable def GG:Ss:=.c (.ret (.bQ (.call 0 (.c (.v 0) .o)) (.bQ (.cmp (.k 1) (.more .le (.v 1) (.one .le (.k 12)))) (.cmp (.k 1) (.more .le (.v 2) (.one .le (.call 5 (.c (.v 0) (.c (.v 1) .o))))))))) .o
theorem acj:Fd (top 20) [] 3 ["y","m","d"] GG:=by tm_at "d"
noncomputable def GH:Ss:=.c (.set 1 (.ay .mod (.v 0) (.k 1461))) (.c (.set 2 (.blt .min2 (.c (.ay .fdiv (.v 1) (.k 365)) (.c (.k 3) .o)))) (.c (.set 3 (.ay .add (.ay .add (.ay .mul (.k 4) (.ay .fdiv (.v 0) (.k 1461))) (.v 2)) (.k 1))) (.c (.set 1 (.ay .sub (.v 1) (.ay .mul (.k 365) (.v 2)))) (.c (.set 4 (.ay .add (.ay .fdiv (.v 1) (.k 31)) (.k 1))) (.c (.yk (.cmp (.call 4 (.c (.v 3) (.c (.ay .add (.v 4) (.k 1)) .o))) (.one .le (.v 1))) (.c (.aug 4 .add (.k 1)) .o)) (.c (.ret (.make 0 (.c (.v 0) (.c (.v 3) (.c (.v 4) (.c (.ay .add (.ay .sub (.v 1) (.call 4 (.c (.v 3) (.c (.v 4) .o)))) (.k 1)) .o)))))) .o))))))
theorem ack:Fd (top 21) [] 1 ["day","rest","years","y","m"] GH:=by tm_at "d"
noncomputable def EL:Ss:=.c (.ret (.ay .mod (.ay .add (.v 0) (.k 5)) (.k 7))) .o
theorem Yn:Fd (top 22) [] 1 ["day"] EL:=by tm_at "d"
noncomputable def Fg:Ss:=.c (.set 1 (.ay .add (.call 7 (.c (.v 0) (.c (.k 3) (.c (.k 21) .o)))) (.ay .mod (.ay .add (.ay .mul (.k 19) (.ay .mod (.v 0) (.k 19))) (.k 15)) (.k 30)))) (.c (.ret (.ay .sub (.ay .add (.v 1) (.k 7)) (.ay .mod (.ay .add (.call 10 (.c (.v 1) .o)) (.k 1)) (.k 7)))) .o)
theorem Zq:Fd (top 23) [] 1 ["y","moon"] Fg:=by tm_at "d"
noncomputable def Fi:Ss:=.c (.ifs (.cmp (.call 10 (.c (.v 0) .o)) (.one .ne (.k 6))) (.c (.ret (.cst (.bl false))) .o) .o) (.c (.set 1 (.fld (.call 9 (.c (.v 0) .o)) "year")) (.c (.ret (.bQ (.call 0 (.c (.v 1) .o)) (.cmp (.call 11 (.c (.v 1) .o)) (.one .eq (.v 0))))) .o))
theorem Zr:Fd (top 24) [] 1 ["day","y"] Fi:=by tm_at "d"
noncomputable def CS:Ss:=.c (.ret (.ay .sub (.k 6) (.call 10 (.c (.call 6 (.c (.v 0) .o)) .o)))) .o
theorem T4:Fd (top 25) [] 1 ["y"] CS:=by tm_at "d"
noncomputable def F6:Ss:=.c (.set 1 (.eG (.ve false (.fld (.v 0) "month") [(.int 3),(.int 5),(.int 7),(.int 10)]) (.k 7) (.k 5))) (.c (.set 2 (.ay .add (.v 1) (.k 8))) (.c (.ifs (.cmp (.fld (.v 0) "nth") (.one .eq (.k 1))) (.c (.ret (.tup (.c (.fld (.v 0) "month") (.c (.k 0) (.c (.k 1) .o))))) .o) .o) (.c (.ifs (.cmp (.fld (.v 0) "nth") (.one .le (.v 1))) (.c (.ret (.tup (.c (.fld (.v 0) "month") (.c (.k 1) (.c (.ay .add (.ay .sub (.v 1) (.fld (.v 0) "nth")) (.k 1)) .o))))) .o) .o) (.c (.ifs (.cmp (.fld (.v 0) "nth") (.one .le (.v 2))) (.c (.ret (.tup (.c (.fld (.v 0) "month") (.c (.k 2) (.c (.ay .add (.ay .sub (.v 2) (.fld (.v 0) "nth")) (.k 1)) .o))))) .o) .o) (.c (.set 3 (.ay .sub (.call 5 (.c (.fld (.v 0) "year") (.c (.fld (.v 0) "month") .o))) (.fld (.v 0) "nth"))) (.c (.ret (.tup (.c (.ay .add (.ay .mod (.fld (.v 0) "month") (.k 12)) (.k 1)) (.c (.k 0) (.c (.ay .add (.v 3) (.k 2)) .o))))) .o))))))
theorem aaX:Fd (top 26) [] 1 ["date","nones","ides","left"] F6:=by tm_at "d"
noncomputable def F7:Ss:=.c (.ret (.eG (.v 0) (.ix (.v 0) (.k 0)) (.cst .az))) .o
theorem aaY:Fd (top 28) [] 1 ["places"] F7:=by tm_at "d"
noncomputable def vJ:Ss:=.c (.cU (.tup [2,3]) (.HX (.v 0)) (.c (.set 4 (.pA (.v 3) (.c (.v 1) .o))) (.c (.ifs (.cmp (.v 4) (.one .pL (.cst .az))) (.c (.ret (.tup (.c (.v 2) (.c (.v 4) .o)))) .o) .o) .o))) (.c (.ret (.cst .az)) .o)
theorem Wh:Fd (top 29) [] 2 ["rules","book","number","rule","place"] vJ:=by tm_at "d"
noncomputable def DU:Ss:=.c (.dI (.v 0) "first_year" (.v 1)) (.c (.dI (.v 0) "last_year" (.v 2)) (.c (.dI (.v 0) "feasts" (.v 3)) (.c (.dI (.v 0) "reigns" (.v 4)) .o)))
theorem KW:Fd (inClass (top 35) 0) [] 5 ["self","first_year","last_year","feasts","reigns"] DU:=by tm_at "d"
noncomputable def DV:Ss:=.c (.ret (.call 6 (.c (.fld (.v 0) "first_year") .o))) .o
theorem Wi:Fd (top 36) [] 1 ["daybook"] DV:=by tm_at "d"
noncomputable def El:Ss:=.c (.ret (.ay .sub (.call 6 (.c (.ay .add (.fld (.v 0) "last_year") (.k 1)) .o)) (.k 1))) .o
theorem Xm:Fd (top 37) [] 1 ["daybook"] El:=by tm_at "d"
noncomputable def GI:Ss:=.c (.ret (.AZ (.call 16 (.c (.v 0) .o)) (.ay .add (.call 17 (.c (.v 0) .o)) (.k 1)))) .o
theorem acm:Fd (top 38) [] 1 ["daybook"] GI:=by tm_at "d"
noncomputable def F8:Ss:=.c (.ret (.lc (.call 9 (.c (.v 1) .o)) (.name 1) (.seq (.call 18 (.c (.v 0) .o))) (.cst (.bl true)) [1])) .o
theorem aaZ:Fd (top 39) [] 1 ["daybook","day"] F8:=by tm_at "d"
noncomputable def Fj:Ss:=.c (.ret (.bQ (.call 0 (.c (.v 0) .o)) (.bQ (.call 0 (.c (.v 1) .o)) (.cmp (.k 0) (.more .le (.ay .sub (.v 1) (.v 0)) (.one .le (.k 2))))))) .o
theorem Zs:Fd (top 40) [] 2 ["first","last"] Fj:=by tm_at "d"
noncomputable def F9:Ss:=.c (.set 1 (.ix (.v 0) (.k 0))) (.c (.set 2 (.ix (.v 0) (.k 1))) (.c (.set 3 (.ix (.v 0) (.k 2))) (.c (.set 4 (.ix (.v 0) (.k 3))) (.c (.ifs (.cmp (.v 1) (.one .eq (.k 0))) (.c (.ret (.bQ (.call 8 (.c (.k 1) (.c (.v 2) (.c (.v 3) .o)))) (.cmp (.v 4) (.one .eq (.k 0))))) .o) .o) (.c (.ret (.bQ (.cmp (.v 1) (.one .eq (.k 1))) (.bQ (.cmp (.v 2) (.one .eq (.k 0))) (.bQ (.cmp (.v 3) (.one .eq (.k 0))) (.cmp (.neg (.k 90)) (.more .le (.v 4) (.one .le (.k 200)))))))) .o)))))
theorem aa0:Fd (top 41) [] 1 ["feast","moves","m","d","off"] F9:=by tm_at "d"
noncomputable def C8:Ss:=.c (.ifs (.bR (.call 20 (.c (.fld (.v 0) "first_year") (.c (.fld (.v 0) "last_year") .o)))) (.c (.ret (.k 0)) .o) .o) (.c (.ifs (.cmp (.blt .len (.c (.fld (.v 0) "feasts") .o)) (.one .gt (.k 16))) (.c (.ret (.k 1)) .o) .o) (.c (.ifs (.cmp (.blt .len (.c (.fld (.v 0) "reigns") .o)) (.one .gt (.k 16))) (.c (.ret (.k 2)) .o) .o) (.c (.ret (.cst .az)) .o)))
theorem Us:Fd (top 42) [] 1 ["daybook"] C8:=by tm_at "d"
noncomputable def C9:Ss:=.c (.ret (.call 15 (.c (.lc (.v 1) (.tup [1,2]) (.enum (.fld (.v 0) "feasts")) (.bR (.call 21 (.c (.v 2) .o))) [1,2]) .o))) .o
theorem Ut:Fd (top 44) [] 1 ["daybook","k","feast"] C9:=by tm_at "d"
noncomputable def C_:Ss:=.c (.ret (.call 15 (.c (.lc (.v 1) (.tup [1,2]) (.enum (.fld (.v 0) "reigns")) (.bR (.call 2 (.c (.ix (.v 2) (.k 0)) (.c (.ix (.v 2) (.k 1)) .o)))) [1,2]) .o))) .o
theorem Uu:Fd (top 45) [] 1 ["daybook","k","reign"] C_:=by tm_at "d"
noncomputable def Cu:Ss:=.c (.ret (.call 87 (.c (.b_ 2) (.c (.v 0) .o)))) .o
theorem Sx:Fd (top 47) [] 1 ["daybook"] Cu:=by tm_at "d"
noncomputable def Fl:Ss:=.c (.ifs (.cmp (.ix (.v 0) (.k 0)) (.one .eq (.k 0))) (.c (.ret (.call 7 (.c (.v 1) (.c (.ix (.v 0) (.k 1)) (.c (.ix (.v 0) (.k 2)) .o))))) .o) .o) (.c (.ret (.ay .add (.call 11 (.c (.v 1) .o)) (.ix (.v 0) (.k 3)))) .o)
theorem Zt:Fd (top 48) [] 2 ["feast","y"] Fl:=by tm_at "d"
noncomputable def DW:Ss:=.c (.ifs (.bR (.call 1 (.c (.v 1) .o))) (.c (.ret (.cst (.bl false))) .o) .o) (.c (.ifs (.cmp (.ix (.v 0) (.k 0)) (.one .eq (.k 0))) (.c (.set 2 (.call 9 (.c (.v 1) .o))) (.c (.ret (.bQ (.cmp (.fld (.v 2) "month") (.one .eq (.ix (.v 0) (.k 1)))) (.cmp (.fld (.v 2) "nth") (.one .eq (.ix (.v 0) (.k 2)))))) .o)) .o) (.c (.ret (.call 12 (.c (.ay .sub (.v 1) (.ix (.v 0) (.k 3))) .o))) .o))
theorem Wj:Fd (top 49) [] 2 ["feast","day","date"] DW:=by tm_at "d"
noncomputable def Fo:Ss:=.c (.ret (.call 7 (.c (.v 1) (.c (.fld (.v 0) "month") (.c (.fld (.v 0) "nth") .o))))) .o
theorem Zu:Fd (top 50) [] 2 ["begun","y"] Fo:=by tm_at "d"
noncomputable def EM:Ss:=.c (.ifs (.iz (.cmp (.fld (.v 1) "day") (.one .lt (.ix (.v 0) (.k 0)))) (.cmp (.fld (.v 1) "day") (.one .gt (.ix (.v 0) (.k 1))))) (.c (.ret (.k 0)) .o) .o) (.c (.set 2 (.call 9 (.c (.ix (.v 0) (.k 0)) .o))) (.c (.set 3 (.ay .sub (.fld (.v 1) "year") (.fld (.v 2) "year"))) (.c (.ret (.eG (.cmp (.fld (.v 1) "day") (.one .ge (.call 28 (.c (.v 2) (.c (.fld (.v 1) "year") .o))))) (.ay .add (.v 3) (.k 1)) (.v 3))) .o)))
theorem Yo:Fd (top 51) [] 2 ["reign","date","begun","years_since"] EM:=by tm_at "d"
noncomputable def Em:Ss:=.c (.ifs (.cmp (.blt .len (.c (.v 0) .o)) (.one .eq (.k 0))) (.c (.ret (.lst .o)) .o) .o) (.c (.set 1 (.lst .o)) (.c (.set 2 (.k 0)) (.c (.cU (.tup [3,4]) (.enum (.v 0)) (.c (.ifs (.cmp (.v 4) (.one .eq (.k 32))) (.c (.ex (.app (.v 1) (.blt .tuple (.c (.slice (.v 0) (.some (.v 2)) (.some (.v 3))) .o)))) (.c (.set 2 (.ay .add (.v 3) (.k 1))) .o)) .o) .o)) (.c (.ex (.app (.v 1) (.blt .tuple (.c (.slice (.v 0) (.some (.v 2)) .none) .o)))) (.c (.ret (.v 1)) .o)))))
theorem Xn:Fd (top 59) [] 1 ["letters","names","begun","place","letter"] Em:=by tm_at "d"
noncomputable def Fp:Ss:=.c (.ret (.call 15 (.c (.lc (.v 2) (.tup [2,3]) (.enum (.v 0)) (.cmp (.v 3) (.one .eq (.v 1))) [2,3]) .o))) .o
theorem Zv:Fd (top 60) [] 2 ["names","name","k","known"] Fp:=by tm_at "d"
noncomputable def CJ:Ss:=.c (.ret (.cmp (.k 1) (.more .le (.blt .len (.c (.v 0) .o)) (.one .le (.k 31))))) .o
theorem S4:Fd (top 61) [] 1 ["name"] CJ:=by tm_at "d"
noncomputable def Fq:Ss:=.c (.ret (.blt .all (.c (.lc (.cmp (.k 97) (.more .le (.v 1) (.one .le (.k 122)))) (.name 1) (.seq (.v 0)) (.cst (.bl true)) [1]) .o))) .o
theorem Zw:Fd (top 62) [] 1 ["letters","letter"] Fq:=by tm_at "d"
noncomputable def Dq:Ss:=.c (.ret (.bQ (.call 32 (.c (.v 0) .o)) (.call 33 (.c (.v 0) .o)))) .o
theorem Vl:Fd (top 63) [] 1 ["name"] Dq:=by tm_at "d"
noncomputable def CT:Ss:=.c (.ret (.bQ (.call 32 (.c (.v 0) .o)) (.bQ (.cmp (.k 65) (.more .le (.ix (.v 0) (.k 0)) (.one .le (.k 90)))) (.call 33 (.c (.slice (.v 0) (.some (.k 1)) .none) .o))))) .o
theorem T5:Fd (top 64) [] 1 ["name"] CT:=by tm_at "d"
noncomputable def Ft:Ss:=.c (.set 3 (.lc (.ay .mul (.lst (.c (.k 1000000) .o)) (.v 0)) (.name 2) (.jd (.v 0)) (.cst (.bl true)) [2])) (.c (.cU (.name 2) (.jd (.v 0)) (.c (.rN (.ix (.v 3) (.v 2)) (.v 2) (.k 0)) .o)) (.c (.cU (.name 4) (.seq (.v 1)) (.c (.rN (.ix (.v 3) (.ix (.v 4) (.k 0))) (.ix (.v 4) (.k 1)) (.ix (.v 4) (.k 2))) .o)) (.c (.ret (.v 3)) .o)))
theorem Zx:Fd (top 67) [] 2 ["count","ways","i","table","way"] Ft:=by tm_at "d"
noncomputable def EN:Ss:=.c (.set 2 (.call 36 (.c (.v 0) (.c (.v 1) .o)))) (.c (.cU (.name 3) (.jd (.v 0)) (.c (.cU (.name 4) (.jd (.v 0)) (.c (.cU (.name 5) (.jd (.v 0)) (.c (.rN (.ix (.v 2) (.v 4)) (.v 5) (.blt .min2 (.c (.ix (.ix (.v 2) (.v 4)) (.v 5)) (.c (.ay .add (.ix (.ix (.v 2) (.v 4)) (.v 3)) (.ix (.ix (.v 2) (.v 3)) (.v 5))) .o)))) .o)) .o)) .o)) (.c (.ret (.v 2)) .o))
theorem Yp:Fd (top 68) [] 2 ["count","ways","table","between","i","j"] EN:=by tm_at "d"
noncomputable def En:Ss:=.c (.dI (.v 0) "lives" (.v 1)) (.c (.dI (.v 0) "persons" (.v 2)) (.c (.dI (.v 0) "offices" (.v 3)) (.c (.dI (.v 0) "holds" (.v 4)) (.c (.dI (.v 0) "seals" (.v 5)) (.c (.dI (.v 0) "places" (.v 6)) (.c (.dI (.v 0) "ways" (.v 7)) (.c (.dI (.v 0) "seens" (.v 8)) .o)))))))
theorem K5:Fd (inClass (top 78) 0) [] 9 ["self","lives","persons","offices","holds","seals","places","ways","seens"] En:=by tm_at "d"
noncomputable def DX:Ss:=.c (.ret (.make 2 (.c (.lst .o) (.c (.lst .o) (.c (.lst .o) (.c (.lst .o) (.c (.lst .o) (.c (.lst .o) (.c (.lst .o) (.c (.lst .o) .o)))))))))) .o
theorem Wk:Fd (top 79) [] 0 [] DX:=by tm_at "d"
noncomputable def GJ:Ss:=.c (.ret (.lc (.v 1) (.tup [1,2]) (.enum (.v 0)) (.cmp (.v 2) (.one .BK (.slice (.v 0) .none (.some (.v 1))))) [1,2])) .o
theorem acn:Fd (top 80) [] 1 ["names","k","name"] GJ:=by tm_at "d"
noncomputable def GK:Ss:=.c (.ret (.bQ (.cmp (.ix (.v 1) (.k 0)) (.one .lt (.blt .len (.c (.fld (.v 0) "persons") .o)))) (.bQ (.cmp (.ix (.v 1) (.k 1)) (.one .lt (.blt .len (.c (.fld (.v 0) "offices") .o)))) (.call 2 (.c (.ix (.v 1) (.k 2)) (.c (.ix (.v 1) (.k 3)) .o)))))) .o
theorem aco:Fd (top 81) [] 2 ["ledger","hold"] GK:=by tm_at "d"
noncomputable def Dc:Ss:=.c (.set 2 (.ix (.fld (.v 0) "lives") (.ix (.v 1) (.k 0)))) (.c (.ret (.bQ (.cmp (.ix (.v 2) (.k 0)) (.one .le (.ix (.v 1) (.k 2)))) (.cmp (.ix (.v 1) (.k 3)) (.one .le (.ix (.v 2) (.k 1)))))) .o)
theorem Uv:Fd (top 82) [] 2 ["ledger","hold","life"] Dc:=by tm_at "d"
noncomputable def Dd:Ss:=.c (.ret (.bQ (.cmp (.ix (.v 0) (.k 1)) (.one .eq (.ix (.v 1) (.k 1)))) (.bQ (.cmp (.ix (.v 0) (.k 2)) (.one .le (.ix (.v 1) (.k 3)))) (.cmp (.ix (.v 1) (.k 2)) (.one .le (.ix (.v 0) (.k 3))))))) .o
theorem Uw:Fd (top 83) [] 2 ["one","other"] Dd:=by tm_at "d"
noncomputable def G4:Ss:=.c (.set 2 (.blt .len (.c (.fld (.v 0) "places") .o))) (.c (.ret (.bQ (.cmp (.ix (.v 1) (.k 0)) (.one .lt (.v 2))) (.bQ (.cmp (.ix (.v 1) (.k 1)) (.one .lt (.v 2))) (.bQ (.cmp (.ix (.v 1) (.k 0)) (.one .ne (.ix (.v 1) (.k 1)))) (.cmp (.k 1) (.more .le (.ix (.v 1) (.k 2)) (.one .le (.k 1000)))))))) .o)
theorem ad9:Fd (top 84) [] 2 ["ledger","way","count"] G4:=by tm_at "d"
noncomputable def Ep:Ss:=.c (.ret (.bQ (.cmp (.ix (.v 0) (.k 0)) (.one .eq (.ix (.v 1) (.k 0)))) (.cmp (.ix (.v 0) (.k 1)) (.one .eq (.ix (.v 1) (.k 1)))))) .o
theorem Xo:Fd (top 85) [] 2 ["one","other"] Ep:=by tm_at "d"
noncomputable def CN:Ss:=.c (.set 1 (.tup (.c (.tup (.c (.blt .len (.c (.fld (.v 0) "persons") .o)) (.c (.k 32) .o))) (.c (.tup (.c (.blt .len (.c (.fld (.v 0) "offices") .o)) (.c (.k 16) .o))) (.c (.tup (.c (.blt .len (.c (.fld (.v 0) "holds") .o)) (.c (.k 64) .o))) (.c (.tup (.c (.blt .len (.c (.fld (.v 0) "seals") .o)) (.c (.k 16) .o))) (.c (.tup (.c (.blt .len (.c (.fld (.v 0) "places") .o)) (.c (.k 16) .o))) (.c (.tup (.c (.blt .len (.c (.fld (.v 0) "seens") .o)) (.c (.k 64) .o))) (.c (.tup (.c (.blt .len (.c (.fld (.v 0) "ways") .o)) (.c (.k 240) .o))) .o))))))))) (.c (.ret (.call 15 (.c (.lc (.v 2) (.tup [2,3]) (.enum (.v 1)) (.cmp (.ix (.v 3) (.k 0)) (.one .gt (.ix (.v 3) (.k 1)))) [2,3]) .o))) .o)
theorem Tr:Fd (top 86) [] 1 ["ledger","counts","k","count"] CN:=by tm_at "d"
noncomputable def CU:Ss:=.c (.cU (.tup [1,2]) (.enum (.fld (.v 0) "lives")) (.c (.ifs (.iz (.bR (.call 2 (.c (.ix (.v 2) (.k 0)) (.c (.ix (.v 2) (.k 1)) .o)))) (.bR (.call 35 (.c (.ix (.fld (.v 0) "persons") (.v 1)) .o)))) (.c (.ret (.v 1)) .o) .o) .o)) (.c (.ret (.cst .az)) .o)
theorem T6:Fd (top 88) [] 1 ["ledger","k","life"] CU:=by tm_at "d"
noncomputable def Cf:Ss:=.c (.ret (.call 15 (.c (.call 39 (.c (.fld (.v 0) "persons") .o)) .o))) .o
theorem RY:Fd (top 89) [] 1 ["ledger"] Cf:=by tm_at "d"
noncomputable def CV:Ss:=.c (.ret (.call 15 (.c (.lc (.v 1) (.tup [1,2]) (.enum (.fld (.v 0) "offices")) (.bR (.call 34 (.c (.v 2) .o))) [1,2]) .o))) .o
theorem T7:Fd (top 90) [] 1 ["ledger","k","name"] CV:=by tm_at "d"
noncomputable def Cg:Ss:=.c (.ret (.call 15 (.c (.call 39 (.c (.fld (.v 0) "offices") .o)) .o))) .o
theorem RZ:Fd (top 91) [] 1 ["ledger"] Cg:=by tm_at "d"
noncomputable def Dr:Ss:=.c (.ret (.call 15 (.c (.lc (.v 1) (.tup [1,2]) (.enum (.fld (.v 0) "holds")) (.bR (.call 40 (.c (.v 0) (.c (.v 2) .o)))) [1,2]) .o))) .o
theorem Vm:Fd (top 92) [] 1 ["ledger","k","hold"] Dr:=by tm_at "d"
noncomputable def Ds:Ss:=.c (.ret (.call 15 (.c (.lc (.v 1) (.tup [1,2]) (.enum (.fld (.v 0) "holds")) (.bR (.call 41 (.c (.v 0) (.c (.v 2) .o)))) [1,2]) .o))) .o
theorem Vn:Fd (top 93) [] 1 ["ledger","k","hold"] Ds:=by tm_at "d"
noncomputable def CB:Ss:=.c (.cU (.tup [1,2]) (.enum (.fld (.v 0) "holds")) (.c (.ifs (.blt .any (.c (.lc (.call 42 (.c (.v 2) (.c (.v 3) .o))) (.name 3) (.seq (.slice (.fld (.v 0) "holds") .none (.some (.v 1)))) (.cst (.bl true)) [3]) .o)) (.c (.ret (.v 1)) .o) .o) .o)) (.c (.ret (.cst .az)) .o)
theorem SM:Fd (top 94) [] 1 ["ledger","k","hold","earlier"] CB:=by tm_at "d"
noncomputable def Dt:Ss:=.c (.ret (.call 15 (.c (.lc (.v 1) (.tup [1,2]) (.enum (.fld (.v 0) "seals")) (.bR (.call 2 (.c (.ix (.v 2) (.k 0)) (.c (.ix (.v 2) (.k 1)) .o)))) [1,2]) .o))) .o
theorem Vo:Fd (top 95) [] 1 ["ledger","k","seal"] Dt:=by tm_at "d"
noncomputable def De:Ss:=.c (.ret (.call 15 (.c (.lc (.v 1) (.tup [1,2]) (.enum (.fld (.v 0) "places")) (.bR (.call 35 (.c (.v 2) .o))) [1,2]) .o))) .o
theorem Ux:Fd (top 96) [] 1 ["ledger","k","name"] De:=by tm_at "d"
noncomputable def Ck:Ss:=.c (.ret (.call 15 (.c (.call 39 (.c (.fld (.v 0) "places") .o)) .o))) .o
theorem R_:Fd (top 97) [] 1 ["ledger"] Ck:=by tm_at "d"
noncomputable def DY:Ss:=.c (.cU (.tup [1,2]) (.enum (.fld (.v 0) "ways")) (.c (.ifs (.iz (.bR (.call 43 (.c (.v 0) (.c (.v 2) .o)))) (.blt .any (.c (.lc (.call 44 (.c (.v 2) (.c (.v 3) .o))) (.name 3) (.seq (.slice (.fld (.v 0) "ways") .none (.some (.v 1)))) (.cst (.bl true)) [3]) .o))) (.c (.ret (.v 1)) .o) .o) .o)) (.c (.ret (.cst .az)) .o)
theorem Wl:Fd (top 98) [] 1 ["ledger","k","way","earlier"] DY:=by tm_at "d"
noncomputable def Du:Ss:=.c (.set 1 (.blt .len (.c (.fld (.v 0) "places") .o))) (.c (.ret (.call 15 (.c (.lc (.v 2) (.tup [2,3]) (.enum (.fld (.v 0) "seens")) (.iz (.bR (.call 1 (.c (.ix (.v 3) (.k 0)) .o))) (.cmp (.ix (.v 3) (.k 1)) (.one .ge (.v 1)))) [2,3]) .o))) .o)
theorem Vp:Fd (top 99) [] 1 ["ledger","count","k","seen"] Du:=by tm_at "d"
noncomputable def Dv:Ss:=.c (.set 1 (.fld (.v 0) "seens")) (.c (.ret (.call 15 (.c (.lc (.v 2) (.name 2) (.pM (.k 1) (.blt .len (.c (.v 1) .o))) (.cmp (.ix (.ix (.v 1) (.v 2)) (.k 0)) (.one .le (.ix (.ix (.v 1) (.ay .sub (.v 2) (.k 1))) (.k 0)))) [2]) .o))) .o)
theorem Vq:Fd (top 100) [] 1 ["ledger","seens","k"] Dv:=by tm_at "d"
noncomputable def Dy:Ss:=.c (.set 1 (.call 37 (.c (.blt .len (.c (.fld (.v 0) "places") .o)) (.c (.fld (.v 0) "ways") .o)))) (.c (.cU (.name 2) (.pM (.k 1) (.blt .len (.c (.fld (.v 0) "seens") .o))) (.c (.set 3 (.ix (.fld (.v 0) "seens") (.ay .sub (.v 2) (.k 1)))) (.c (.set 4 (.ix (.fld (.v 0) "seens") (.v 2))) (.c (.ifs (.cmp (.ix (.ix (.v 1) (.ix (.v 3) (.k 1))) (.ix (.v 4) (.k 1))) (.one .gt (.ay .sub (.ix (.v 4) (.k 0)) (.ix (.v 3) (.k 0))))) (.c (.ret (.v 2)) .o) .o) .o)))) (.c (.ret (.cst .az)) .o))
theorem Vr:Fd (top 101) [] 1 ["ledger","rides","k","before","seen"] Dy:=by tm_at "d"
noncomputable def CD:Ss:=.c (.ret (.call 87 (.c (.b_ 3) (.c (.v 0) .o)))) .o
theorem SN:Fd (top 103) [] 1 ["ledger"] CD:=by tm_at "d"
noncomputable def Dz:Ss:=.c (.dI (.v 0) "daybook" (.make 1 (.c (.k 1) (.c (.k 1) (.c (.lst .o) (.c (.lst .o) .o)))))) (.c (.dI (.v 0) "ledger" (.call 38 .o)) (.c (.dI (.v 0) "rides" (.lst .o)) .o))
theorem KC:Fd (inClass (top 105) 0) [] 1 ["self"] Dz:=by tm_at "d"
noncomputable def Df:Ss:=.c (.ifs (.cmp (.blt .len (.c (.v 1) .o)) (.one .ne (.k 3))) (.c (.ret (.cst (.bl false))) .o) .o) (.c (.set 2 (.ix (.v 1) (.k 0))) (.c (.ifs (.iz (.cmp (.v 2) (.one .lt (.k 0))) (.cmp (.v 2) (.one .gt (.k 3)))) (.c (.ret (.cst (.bl false))) .o) .o) (.c (.set 3 (.tup (.c (.blt .len (.c (.fld (.v 0) "persons") .o)) (.c (.blt .len (.c (.fld (.v 0) "persons") .o)) (.c (.blt .len (.c (.fld (.v 0) "seals") .o)) (.c (.blt .len (.c (.fld (.v 0) "places") .o)) .o)))))) (.c (.set 4 (.eG (.cmp (.v 2) (.one .eq (.k 1))) (.blt .len (.c (.fld (.v 0) "offices") .o)) (.k 1))) (.c (.ret (.bQ (.cmp (.k 0) (.more .le (.ix (.v 1) (.k 1)) (.one .lt (.ix (.v 3) (.v 2))))) (.cmp (.k 0) (.more .le (.ix (.v 1) (.k 2)) (.one .lt (.v 4)))))) .o)))))
theorem Uy:Fd (top 112) [] 2 ["ledger","claim","kind","counts","offices"] Df:=by tm_at "d"
noncomputable def Dg:Ss:=.c (.set 3 (.lst .o)) (.c (.set 4 (.k 0)) (.c (.cU (.name 5) (.seq (.fld (.v 0) "seens")) (.c (.ex (.app (.v 3) (.tup (.c (.v 4) (.c (.ay .sub (.ix (.v 5) (.k 0)) (.ix (.ix (.v 1) (.v 2)) (.ix (.v 5) (.k 1)))) .o))))) (.c (.set 4 (.ay .add (.ix (.v 5) (.k 0)) (.ix (.ix (.v 1) (.ix (.v 5) (.k 1))) (.v 2)))) .o))) (.c (.ex (.app (.v 3) (.tup (.c (.v 4) (.c (.k 730499) .o))))) (.c (.ret (.v 3)) .o))))
theorem Uz:Fd (top 113) [] 3 ["ledger","rides","place","stays","begin","seen"] Dg:=by tm_at "d"
noncomputable def Dh:Ss:=.c (.set 3 (.ix (.v 2) (.k 0))) (.c (.set 4 (.ix (.v 2) (.k 1))) (.c (.ifs (.cmp (.v 3) (.one .eq (.k 0))) (.c (.ret (.lst (.c (.ix (.fld (.v 0) "lives") (.v 4)) .o))) .o) .o) (.c (.ifs (.cmp (.v 3) (.one .eq (.k 1))) (.c (.ret (.lc (.tup (.c (.ix (.v 5) (.k 2)) (.c (.ix (.v 5) (.k 3)) .o))) (.name 5) (.seq (.fld (.v 0) "holds")) (.bQ (.cmp (.ix (.v 5) (.k 0)) (.one .eq (.v 4))) (.cmp (.ix (.v 5) (.k 1)) (.one .eq (.ix (.v 2) (.k 2))))) [5])) .o) .o) (.c (.ifs (.cmp (.v 3) (.one .eq (.k 2))) (.c (.ret (.lst (.c (.ix (.fld (.v 0) "seals") (.v 4)) .o))) .o) .o) (.c (.ret (.call 61 (.c (.v 0) (.c (.v 1) (.c (.v 4) .o))))) .o)))))
theorem UB:Fd (top 114) [] 3 ["ledger","rides","claim","kind","a","hold"] Dh:=by tm_at "d"
noncomputable def DA:Ss:=.c (.ret (.blt .any (.c (.lc (.cmp (.ix (.v 4) (.k 0)) (.more .le (.v 3) (.one .le (.ix (.v 4) (.k 1))))) (.name 4) (.seq (.call 62 (.c (.v 0) (.c (.v 1) (.c (.v 2) .o))))) (.cst (.bl true)) [4]) .o))) .o
theorem Vs:Fd (top 115) [] 4 ["ledger","rides","claim","day","span"] DA:=by tm_at "d"
noncomputable def Er:Ss:=.c (.set 2 (.call 16 (.c (.v 0) .o))) (.c (.ret (.blt .sum (.c (.lc (.ay .shl (.k 1) (.ay .sub (.v 3) (.v 2))) (.name 3) (.seq (.v 1)) (.cst (.bl true)) [3]) .o))) .o)
theorem Xp:Fd (top 117) [] 2 ["daybook","days","first","day"] Er:=by tm_at "d"
noncomputable def Et:Ss:=.c (.set 2 (.call 16 (.c (.v 0) .o))) (.c (.set 3 (.ay .sub (.blt .max2 (.c (.ix (.v 1) (.k 0)) (.c (.v 2) .o))) (.v 2))) (.c (.set 4 (.ay .sub (.blt .min2 (.c (.ix (.v 1) (.k 1)) (.c (.call 17 (.c (.v 0) .o)) .o))) (.v 2))) (.c (.ifs (.cmp (.v 3) (.one .gt (.v 4))) (.c (.ret (.k 0)) .o) .o) (.c (.ret (.ay .sub (.ay .shl (.k 1) (.ay .add (.v 4) (.k 1))) (.ay .shl (.k 1) (.v 3)))) .o))))
theorem Xq:Fd (top 118) [] 2 ["daybook","span","begin","first","last"] Et:=by tm_at "d"
noncomputable def DZ:Ss:=.c (.set 2 (.k 0)) (.c (.cU (.name 3) (.seq (.v 1)) (.c (.set 2 (.ay .bor (.v 2) (.call 65 (.c (.v 0) (.c (.v 3) .o))))) .o)) (.c (.ret (.v 2)) .o))
theorem Wm:Fd (top 119) [] 2 ["daybook","spans","found","span"] DZ:=by tm_at "d"
noncomputable def Eu:Ss:=.c (.set 2 (.call 18 (.c (.v 0) .o))) (.c (.set 3 (.call 64 (.c (.v 0) (.c (.v 2) .o)))) (.c (.cU (.name 4) (.seq (.v 1)) (.c (.set 3 (.ay .band (.v 3) (.v 4))) .o)) (.c (.ret (.lc (.v 6) (.tup [5,6]) (.enum (.v 2)) (.cmp (.ay .band (.ay .shr (.v 3) (.v 5)) (.k 1)) (.one .eq (.k 1))) [5,6])) .o)))
theorem Xr:Fd (top 120) [] 2 ["daybook","day_sets","days","common","day_set","k","day"] Eu:=by tm_at "d"
noncomputable def F_:Ss:=.c (.set 1 (.lst .o)) (.c (.cU (.name 2) (.seq (.v 0)) (.c (.ifs (.bQ (.v 1) (.cmp (.ix (.v 1) (.neg (.k 1))) (.one .eq (.ay .sub (.v 2) (.k 1))))) (.c (.rN (.v 1) (.neg (.k 1)) (.v 2)) .o) (.c (.ex (.ext (.v 1) (.lst (.c (.v 2) (.c (.v 2) .o))))) .o)) .o)) (.c (.ret (.v 1)) .o))
theorem aa1:Fd (top 121) [] 1 ["days","ends","day"] F_:=by tm_at "d"
noncomputable def Fv:Ss:=.c (.set 1 (.lst (.c (.tup (.c (.lst .o) (.c (.neg (.k 1)) .o))) .o))) (.c (.cU (.name 2) (.jd (.blt .len (.c (.v 0) .o))) (.c (.set 3 (.lst .o)) (.c (.cU (.tup [4,5]) (.seq (.v 1)) (.c (.set 6 (.eG (.v 4) (.ay .add (.ix (.v 4) (.neg (.k 1))) (.k 1)) (.k 0))) (.c (.cU (.name 7) (.pM (.v 6) (.blt .len (.c (.v 0) .o))) (.c (.set 8 (.ay .band (.v 5) (.ix (.v 0) (.v 7)))) (.c (.ifs (.cmp (.v 8) (.one .eq (.k 0))) (.c (.ret (.ay .add (.v 4) (.lst (.c (.v 7) .o)))) .o) .o) (.c (.ex (.app (.v 3) (.tup (.c (.ay .add (.v 4) (.lst (.c (.v 7) .o))) (.c (.v 8) .o))))) .o)))) .o))) (.c (.set 1 (.v 3)) .o)))) (.c (.ret (.lst .o)) .o))
theorem Zy:Fd (top 122) [] 1 ["day_sets","choices","size","wider","chosen","common","begin","k","shared"] Fv:=by tm_at "d"
noncomputable def Fw:Ss:=.c (.ret (.lc (.blt .tuple (.c (.slice (.v 0) (.some (.v 2)) (.some (.ay .add (.v 2) (.v 1)))) .o)) (.name 2) (.Ik (.k 0) (.blt .len (.c (.v 0) .o)) (.v 1)) (.cst (.bl true)) [2])) .o
theorem Zz:Fd (top 124) [] 2 ["row","size","k"] Fw:=by tm_at "d"
noncomputable def Hx:Ss:=.c (.ifs (.cmp (.ay .mod (.blt .len (.c (.v 0) .o)) (.v 1)) (.one .ne (.k 0))) (.c (.ret (.cst (.bl false))) .o) .o) (.c (.ret (.blt .all (.c (.lc (.iz (.cmp (.v 4) (.one .ge (.k 0))) (.cmp (.ay .mod (.v 3) (.v 1)) (.one .HW (.v 2)))) (.tup [3,4]) (.enum (.v 0)) (.cst (.bl true)) [3,4]) .o))) .o)
theorem afD:Fd (top 125) [] 3 ["row","size","columns","k","number"] Hx:=by tm_at "d"
noncomputable def EO:Ss:=.c (.ret (.cmp (.ix (.v 0) (.k 2)) (.more .le (.v 1) (.one .le (.ix (.v 0) (.k 3)))))) .o
theorem Yq:Fd (top 127) [] 2 ["hold","day"] EO:=by tm_at "d"
noncomputable def Fx:Ss:=.c (.ret (.call 15 (.c (.lc (.ix (.v 3) (.k 0)) (.name 3) (.seq (.fld (.v 0) "holds")) (.bQ (.cmp (.ix (.v 3) (.k 1)) (.one .eq (.v 1))) (.call 72 (.c (.v 3) (.c (.v 2) .o)))) [3]) .o))) .o
theorem ZA:Fd (top 128) [] 3 ["ledger","office","day","hold"] Fx:=by tm_at "d"
noncomputable def ER:Ss:=.c (.set 3 (.lc (.ix (.v 4) (.k 1)) (.name 4) (.seq (.fld (.v 0) "holds")) (.bQ (.cmp (.ix (.v 4) (.k 0)) (.one .eq (.v 1))) (.call 72 (.c (.v 4) (.c (.v 2) .o)))) [4])) (.c (.ret (.AY (.v 3))) .o)
theorem Yr:Fd (top 129) [] 3 ["ledger","person","day","held","hold"] ER:=by tm_at "d"
noncomputable def Ga:Ss:=.c (.ret (.cmp (.k 0) (.more .le (.v 0) (.one .le (.k 5))))) .o
theorem aa2:Fd (top 137) [] 1 ["s"] Ga:=by tm_at "d"
noncomputable def GL:Ss:=.c (.ifs (.cmp (.v 1) (.one .eq (.k 4))) (.c (.ret (.call 11 (.c (.v 0) .o))) .o) .o) (.c (.set 2 (.sy 0 (.v 1))) (.c (.ret (.call 7 (.c (.v 0) (.c (.fX (.v 2) (.k 0)) (.c (.fX (.v 2) (.k 1)) .o))))) .o))
theorem acp:Fd (top 138) [2] 2 ["y","s","beginning"] GL:=by tm_at "d"
noncomputable def ES:Ss:=.c (.set 2 (.fld (.v 0) "year")) (.c (.set 3 (.eG (.ve false (.v 1) [(.int 2),(.int 3),(.int 5)]) (.ay .add (.v 2) (.k 1)) (.v 2))) (.c (.ret (.eG (.cmp (.fld (.v 0) "day") (.one .ge (.call 76 (.c (.v 2) (.c (.v 1) .o))))) (.v 3) (.ay .sub (.v 3) (.k 1)))) .o))
theorem Ys:Fd (top 139) [] 2 ["date","s","y","begins_in_y"] ES:=by tm_at "d"
noncomputable def D9:Ss:=.c (.set 2 (.eG (.cmp (.v 1) (.one .eq (.k 0))) (.k 5) (.k 0))) (.c (.ret (.ay .add (.ay .mod (.ay .add (.call 77 (.c (.v 0) (.c (.v 2) .o))) (.k 2)) (.k 15)) (.k 1))) .o)
theorem Wn:Fd (top 140) [] 2 ["date","a","s"] D9:=by tm_at "d"
noncomputable def vW:Ss:=.c (.set 2 (.tup (.c (.k 0) (.c (.ay .sub (.blt .len (.c (.fld (.v 0) "feasts") .o)) (.k 1)) .o)))) (.c (.set 3 (.tup (.c (.k 0) (.c (.ay .sub (.blt .len (.c (.fld (.v 0) "reigns") .o)) (.k 1)) .o)))) (.c (.set 4 (.tup (.c (.tup (.c (.b_ 7) (.c (.tup (.c (.k 1) (.c (.k 31) .o))) (.c (.b_ 6) (.c (.b_ 6) .o))))) (.c (.tup (.c (.b_ 7) (.c (.tup (.c (.k 0) (.c (.k 2) .o))) (.c (.b_ 6) (.c (.tup (.c (.k 1) (.c (.k 19) .o))) .o))))) (.c (.tup (.c (.b_ 8) (.c (.b_ 6) (.c (.b_ 6) (.c (.b_ 6) .o))))) (.c (.tup (.c (.tup (.c (.k 0) (.c (.k 5) .o))) (.c (.b_ 6) (.c (.b_ 6) (.c (.b_ 9) .o))))) (.c (.tup (.c (.tup (.c (.k 0) (.c (.k 1) .o))) (.c (.b_ 6) (.c (.b_ 6) (.c (.tup (.c (.k 1) (.c (.k 15) .o))) .o))))) (.c (.tup (.c (.v 2) (.c (.b_ 6) (.c (.b_ 6) (.c (.tup (.c (.neg (.k 400)) (.c (.k 400) .o))) .o))))) (.c (.tup (.c (.v 2) (.c (.b_ 8) (.c (.tup (.c (.k 0) (.c (.k 1) .o))) (.c (.b_ 6) .o))))) (.c (.tup (.c (.v 3) (.c (.b_ 6) (.c (.b_ 6) (.c (.b_ 9) .o))))) (.c (.tup (.c (.b_ 6) (.c (.b_ 6) (.c (.b_ 6) (.c (.b_ 10) .o))))) (.c (.tup (.c (.b_ 8) (.c (.b_ 6) (.c (.b_ 6) (.c (.b_ 6) .o))))) .o)))))))))))) (.c (.ret (.ix (.v 4) (.v 1))) .o)))
theorem ZC:Fd (top 149) [] 2 ["daybook","kind","feast","reign","bounds"] vW:=by tm_at "d"
noncomputable def DB:Ss:=.c (.ifs (.cmp (.blt .len (.c (.v 1) .o)) (.one .ne (.k 5))) (.c (.ret (.cst (.bl false))) .o) .o) (.c (.set 2 (.ix (.v 1) (.k 0))) (.c (.ifs (.iz (.cmp (.v 2) (.one .lt (.k 0))) (.cmp (.v 2) (.one .gt (.k 9)))) (.c (.ret (.cst (.bl false))) .o) .o) (.c (.set 3 (.call 79 (.c (.v 0) (.c (.v 2) .o)))) (.c (.ret (.blt .all (.c (.lc (.cmp (.fX (.v 4) (.k 0)) (.more .le (.v 5) (.one .le (.fX (.v 4) (.k 1))))) (.tup [4,5]) (.zip (.v 3) (.slice (.v 1) (.some (.k 1)) .none)) (.cst (.bl true)) [4,5]) .o))) .o))))
theorem Vt:Fd (top 150) [4] 2 ["daybook","mark","kind","bounds","bound","number"] DB:=by tm_at "d"
noncomputable def CW:Ss:=.c (.ifs (.cmp (.call 10 (.c (.v 1) .o)) (.one .ne (.v 2))) (.c (.ret (.cst (.bl false))) .o) .o) (.c (.set 4 (.eG (.cmp (.v 3) (.one .eq (.k 1))) (.neg (.k 1)) (.k 1))) (.c (.ret (.blt .any (.c (.lc (.call 27 (.c (.v 0) (.c (.ay .add (.v 1) (.ay .mul (.v 4) (.v 5))) .o))) (.name 5) (.pM (.k 1) (.k 8)) (.cst (.bl true)) [5]) .o))) .o))
theorem T8:Fd (top 151) [] 4 ["feast","day","weekday","after","step","away"] CW:=by tm_at "d"
noncomputable def zx:Ss:=.c (.set 3 (.ix (.v 2) (.k 0))) (.c (.set 4 (.ix (.v 2) (.k 1))) (.c (.set 5 (.ix (.v 2) (.k 2))) (.c (.set 6 (.ix (.v 2) (.k 4))) (.c (.ifs (.cmp (.v 3) (.one .eq (.k 0))) (.c (.ret (.bQ (.cmp (.fld (.v 1) "month") (.one .eq (.v 4))) (.cmp (.fld (.v 1) "nth") (.one .eq (.v 5))))) .o) .o) (.c (.ifs (.cmp (.v 3) (.one .eq (.k 1))) (.c (.ret (.cmp (.call 14 (.c (.v 1) .o)) (.one .eq (.tup (.c (.v 4) (.c (.v 5) (.c (.v 6) .o))))))) .o) .o) (.c (.ifs (.cmp (.v 3) (.one .eq (.k 2))) (.c (.ret (.cmp (.call 10 (.c (.fld (.v 1) "day") .o)) (.one .eq (.v 4)))) .o) .o) (.c (.ifs (.cmp (.v 3) (.one .eq (.k 3))) (.c (.ret (.cmp (.call 77 (.c (.v 1) (.c (.v 4) .o))) (.one .eq (.v 6)))) .o) .o) (.c (.ifs (.cmp (.v 3) (.one .eq (.k 4))) (.c (.ret (.cmp (.call 78 (.c (.v 1) (.c (.v 4) .o))) (.one .eq (.v 6)))) .o) .o) (.c (.ifs (.cmp (.v 3) (.one .eq (.k 5))) (.c (.ret (.call 27 (.c (.ix (.fld (.v 0) "feasts") (.v 4)) (.c (.ay .sub (.fld (.v 1) "day") (.v 6)) .o)))) .o) .o) (.c (.ifs (.cmp (.v 3) (.one .eq (.k 6))) (.c (.ret (.call 81 (.c (.ix (.fld (.v 0) "feasts") (.v 4)) (.c (.fld (.v 1) "day") (.c (.v 5) (.c (.ix (.v 2) (.k 3)) .o)))))) .o) .o) (.c (.ifs (.cmp (.v 3) (.one .eq (.k 7))) (.c (.ret (.cmp (.call 29 (.c (.ix (.fld (.v 0) "reigns") (.v 4)) (.c (.v 1) .o))) (.one .eq (.v 6)))) .o) .o) (.c (.ifs (.cmp (.v 3) (.one .eq (.k 8))) (.c (.ret (.cmp (.ay .add (.ay .mod (.fld (.v 1) "year") (.k 19)) (.k 1)) (.one .eq (.v 6)))) .o) .o) (.c (.ret (.cmp (.call 13 (.c (.fld (.v 1) "year") .o)) (.one .eq (.v 4)))) .o)))))))))))))
theorem aa3:Fd (top 152) [] 3 ["daybook","date","mark","kind","a","b","x"] zx:=by tm_at "d"
noncomputable def Fy:Ss:=.c (.cU (.name 3) (.seq (.v 2)) (.c (.set 1 (.lc (.v 4) (.name 4) (.seq (.v 1)) (.call 82 (.c (.v 0) (.c (.v 4) (.c (.v 3) .o)))) [4])) .o)) (.c (.ret (.lc (.fld (.v 4) "day") (.name 4) (.seq (.v 1)) (.cst (.bl true)) [4])) .o)
theorem ZD:Fd (top 153) [] 3 ["daybook","dates","marks","mark","date"] Fy:=by tm_at "d"
noncomputable def Gb:Ss:=.c (.ret (.bQ (.cmp (.blt .len (.c (.ix (.v 0) (.k 0)) .o)) (.one .eq (.k 2))) (.bQ (.call 71 (.c (.ix (.v 0) (.k 1)) (.c (.k 4) (.c (.tup (.c (.k 0) (.c (.k 1) (.c (.k 2) .o)))) .o)))) (.bQ (.call 71 (.c (.ix (.v 0) (.k 2)) (.c (.k 2) (.c (.tup .o) .o)))) (.bQ (.call 71 (.c (.ix (.v 0) (.k 3)) (.c (.k 2) (.c (.tup .o) .o)))) (.bQ (.call 71 (.c (.ix (.v 0) (.k 6)) (.c (.k 4) (.c (.tup (.c (.k 0) (.c (.k 1) .o))) .o)))) (.bQ (.call 71 (.c (.ix (.v 0) (.k 7)) (.c (.k 2) (.c (.tup .o) .o)))) (.bQ (.call 71 (.c (.ix (.v 0) (.k 9)) (.c (.k 3) (.c (.tup (.c (.k 0) (.c (.k 1) (.c (.k 2) .o)))) .o)))) (.bQ (.call 71 (.c (.ix (.v 0) (.k 10)) (.c (.k 2) (.c (.tup (.c (.k 1) .o)) .o)))) (.cmp (.blt .len (.c (.call 30 (.c (.ix (.v 0) (.k 4)) .o)) .o)) (.one .eq (.ay .fdiv (.blt .len (.c (.ix (.v 0) (.k 3)) .o)) (.k 2))))))))))))) .o
theorem aa4:Fd (top 166) [] 1 ["rows"] Gb:=by tm_at "d"
noncomputable def ET:Ss:=.c (.set 1 (.ix (.v 0) (.k 0))) (.c (.ret (.make 1 (.c (.ix (.v 1) (.k 0)) (.c (.ix (.v 1) (.k 1)) (.c (.call 70 (.c (.ix (.v 0) (.k 1)) (.c (.k 4) .o))) (.c (.call 70 (.c (.ix (.v 0) (.k 2)) (.c (.k 2) .o))) .o)))))) .o)
theorem Yt:Fd (top 167) [] 1 ["rows","head"] ET:=by tm_at "d"
noncomputable def Fz:Ss:=.c (.ret (.make 2 (.c (.call 70 (.c (.ix (.v 0) (.k 3)) (.c (.k 2) .o))) (.c (.call 30 (.c (.ix (.v 0) (.k 4)) .o)) (.c (.call 30 (.c (.ix (.v 0) (.k 5)) .o)) (.c (.call 70 (.c (.ix (.v 0) (.k 6)) (.c (.k 4) .o))) (.c (.call 70 (.c (.ix (.v 0) (.k 7)) (.c (.k 2) .o))) (.c (.call 30 (.c (.ix (.v 0) (.k 8)) .o)) (.c (.call 70 (.c (.ix (.v 0) (.k 9)) (.c (.k 3) .o))) (.c (.call 70 (.c (.ix (.v 0) (.k 10)) (.c (.k 2) .o))) .o)))))))))) .o
theorem ZE:Fd (top 168) [] 1 ["rows"] Fz:=by tm_at "d"
noncomputable def G5:Ss:=.c (.ifs (.bR (.call 84 (.c (.v 1) .o))) (.c (.ret (.lst (.c (.neg (.k 2)) .o))) .o) .o) (.c (.set 2 (.call 85 (.c (.v 1) .o))) (.c (.set 3 (.call 88 (.c (.v 2) .o))) (.c (.ifs (.cmp (.v 3) (.one .pL (.cst .az))) (.c (.ret (.lst (.c (.neg (.k 7)) (.c (.k 1) (.c (.ix (.v 3) (.k 0)) (.c (.ix (.v 3) (.k 1)) .o)))))) .o) .o) (.c (.set 4 (.call 86 (.c (.v 1) .o))) (.c (.set 3 (.call 89 (.c (.v 4) .o))) (.c (.ifs (.cmp (.v 3) (.one .pL (.cst .az))) (.c (.ret (.lst (.c (.neg (.k 7)) (.c (.k 2) (.c (.ix (.v 3) (.k 0)) (.c (.ix (.v 3) (.k 1)) .o)))))) .o) .o) (.c (.dI (.v 0) "daybook" (.v 2)) (.c (.dI (.v 0) "ledger" (.v 4)) (.c (.dI (.v 0) "rides" (.call 37 (.c (.blt .len (.c (.fld (.v 4) "places") .o)) (.c (.fld (.v 4) "ways") .o)))) (.c (.ret (.lst (.c (.k 0) .o))) .o))))))))))
theorem ad_:Fd (top 169) [] 2 ["chancery","rows","daybook","broken","ledger"] G5:=by tm_at "d"
noncomputable def D_:Ss:=.c (.ret (.cmp (.k 0) (.more .le (.v 0) (.one .lt (.blt .len (.c (.v 1) .o)))))) .o
theorem Wo:Fd (top 172) [] 2 ["number","things"] D_:=by tm_at "d"
noncomputable def EU:Ss:=.c (.set 3 (.ix (.v 1) (.k 0))) (.c (.set 4 (.ix (.v 1) (.k 1))) (.c (.set 5 (.ix (.v 1) (.k 2))) (.c (.ifs (.bR (.call 8 (.c (.v 3) (.c (.v 4) (.c (.v 5) .o))))) (.c (.ret (.lst (.c (.neg (.k 3)) .o))) .o) .o) (.c (.ret (.lst (.c (.call 7 (.c (.v 3) (.c (.v 4) (.c (.v 5) .o)))) .o))) .o))))
theorem Yu:Fd (top 173) [] 3 ["chancery","numbers","rows","y","m","d"] EU:=by tm_at "d"
noncomputable def Ew:Ss:=.c (.set 3 (.ix (.v 1) (.k 0))) (.c (.ifs (.bR (.call 1 (.c (.v 3) .o))) (.c (.ret (.lst (.c (.neg (.k 3)) .o))) .o) .o) (.c (.set 4 (.call 9 (.c (.v 3) .o))) (.c (.ret (.lst (.c (.k 0) (.c (.fld (.v 4) "year") (.c (.fld (.v 4) "month") (.c (.fld (.v 4) "nth") (.c (.call 10 (.c (.v 3) .o)) .o))))))) .o)))
theorem Xs:Fd (top 174) [] 3 ["chancery","numbers","rows","day","date"] Ew:=by tm_at "d"
noncomputable def DC:Ss:=.c (.set 3 (.ix (.v 1) (.k 0))) (.c (.ifs (.bR (.call 0 (.c (.v 3) .o))) (.c (.ret (.lst (.c (.neg (.k 3)) .o))) .o) .o) (.c (.ret (.lst (.c (.call 11 (.c (.v 3) .o)) .o))) .o))
theorem Vu:Fd (top 175) [] 3 ["chancery","numbers","rows","y"] DC:=by tm_at "d"
noncomputable def Ea:Ss:=.c (.set 3 (.ix (.v 1) (.k 0))) (.c (.ifs (.bR (.call 1 (.c (.v 3) .o))) (.c (.ret (.lst (.c (.neg (.k 3)) .o))) .o) .o) (.c (.ret (.ay .add (.lst (.c (.k 0) .o)) (.blt .list (.c (.call 14 (.c (.call 9 (.c (.v 3) .o)) .o)) .o)))) .o))
theorem Wq:Fd (top 176) [] 3 ["chancery","numbers","rows","day"] Ea:=by tm_at "d"
noncomputable def EV:Ss:=.c (.ret (.call 90 (.c (.v 0) (.c (.v 2) .o)))) .o
theorem Yv:Fd (top 177) [] 3 ["chancery","numbers","rows"] EV:=by tm_at "d"
noncomputable def Eb:Ss:=.c (.set 3 (.ix (.v 1) (.k 0))) (.c (.set 4 (.ix (.v 1) (.k 1))) (.c (.set 5 (.fld (.fld (.v 0) "daybook") "feasts")) (.c (.ifs (.iz (.bR (.call 0 (.c (.v 4) .o))) (.bR (.call 91 (.c (.v 3) (.c (.v 5) .o))))) (.c (.ret (.lst (.c (.neg (.k 3)) .o))) .o) .o) (.c (.set 6 (.call 26 (.c (.ix (.v 5) (.v 3)) (.c (.v 4) .o)))) (.c (.ifs (.bR (.call 1 (.c (.v 6) .o))) (.c (.ret (.lst (.c (.neg (.k 4)) .o))) .o) .o) (.c (.ret (.lst (.c (.v 6) .o))) .o))))))
theorem Wr:Fd (top 178) [] 3 ["chancery","numbers","rows","f","y","feasts","day"] Eb:=by tm_at "d"
noncomputable def Ex:Ss:=.c (.set 3 (.ix (.v 1) (.k 0))) (.c (.set 4 (.ix (.v 1) (.k 1))) (.c (.set 5 (.fld (.fld (.v 0) "daybook") "reigns")) (.c (.ifs (.iz (.bR (.call 91 (.c (.v 3) (.c (.v 5) .o)))) (.bR (.call 1 (.c (.v 4) .o)))) (.c (.ret (.lst (.c (.neg (.k 3)) .o))) .o) .o) (.c (.ret (.lst (.c (.call 29 (.c (.ix (.v 5) (.v 3)) (.c (.call 9 (.c (.v 4) .o)) .o))) .o))) .o))))
theorem Xu:Fd (top 179) [] 3 ["chancery","numbers","rows","r","day","reigns"] Ex:=by tm_at "d"
noncomputable def Ec:Ss:=.c (.set 3 (.ix (.v 1) (.k 0))) (.c (.set 4 (.ix (.v 1) (.k 1))) (.c (.ifs (.iz (.bR (.call 1 (.c (.v 3) .o))) (.bR (.call 75 (.c (.v 4) .o)))) (.c (.ret (.lst (.c (.neg (.k 3)) .o))) .o) .o) (.c (.ret (.lst (.c (.call 77 (.c (.call 9 (.c (.v 3) .o)) (.c (.v 4) .o))) .o))) .o)))
theorem Ws:Fd (top 180) [] 3 ["chancery","numbers","rows","day","s"] Ec:=by tm_at "d"
noncomputable def EW:Ss:=.c (.set 3 (.ix (.v 1) (.k 0))) (.c (.set 4 (.ix (.v 2) (.k 0))) (.c (.ifs (.bR (.call 80 (.c (.fld (.v 0) "daybook") (.c (.v 4) .o)))) (.c (.ret (.lst (.c (.neg (.k 4)) .o))) .o) .o) (.c (.ifs (.bR (.call 1 (.c (.v 3) .o))) (.c (.ret (.lst (.c (.neg (.k 3)) .o))) .o) .o) (.c (.ret (.lst (.c (.eG (.call 82 (.c (.fld (.v 0) "daybook") (.c (.call 9 (.c (.v 3) .o)) (.c (.v 4) .o)))) (.k 1) (.k 0)) .o))) .o))))
theorem Yw:Fd (top 181) [] 3 ["chancery","numbers","rows","day","mark"] EW:=by tm_at "d"
noncomputable def vC:Ss:=.c (.ifs (.cmp (.blt .len (.c (.v 0) .o)) (.one .gt (.k 8))) (.c (.ret (.lst (.c (.neg (.k 2)) .o))) .o) .o) (.c (.set 3 (.lc (.v 4) (.tup [4,5]) (.enum (.v 0)) (.bR (.pA (.v 1) (.c (.v 2) (.c (.v 5) .o)))) [4,5])) (.c (.ret (.eG (.v 3) (.lst (.c (.neg (.k 4)) (.c (.ix (.v 3) (.k 0)) .o))) (.lst .o))) .o))
theorem S5:Fd (top 182) [] 3 ["things","is_right","book","wrong","k","thing"] vC:=by tm_at "d"
noncomputable def CO:Ss:=.c (.ifs (.bR (.call 71 (.c (.v 1) (.c (.k 5) (.c (.tup (.c (.k 0) (.c (.k 1) (.c (.k 2) (.c (.k 3) .o))))) .o))))) (.c (.ret (.lst (.c (.neg (.k 2)) .o))) .o) .o) (.c (.ret (.call 101 (.c (.call 70 (.c (.v 1) (.c (.k 5) .o))) (.c (.xM 80) (.c (.fld (.v 0) "daybook") .o))))) .o)
theorem Tt:Fd (top 183) [] 2 ["chancery","row"] CO:=by tm_at "d"
noncomputable def CK:Ss:=.c (.ifs (.bR (.call 71 (.c (.v 1) (.c (.k 3) (.c (.tup (.c (.k 0) (.c (.k 1) (.c (.k 2) .o)))) .o))))) (.c (.ret (.lst (.c (.neg (.k 2)) .o))) .o) .o) (.c (.ret (.call 101 (.c (.call 70 (.c (.v 1) (.c (.k 3) .o))) (.c (.xM 60) (.c (.fld (.v 0) "ledger") .o))))) .o)
theorem S6:Fd (top 184) [] 2 ["chancery","row"] CK:=by tm_at "d"
noncomputable def Ed:Ss:=.c (.set 3 (.call 102 (.c (.v 0) (.c (.ix (.v 2) (.k 0)) .o)))) (.c (.ifs (.v 3) (.c (.ret (.v 3)) .o) .o) (.c (.set 4 (.fld (.v 0) "daybook")) (.c (.set 5 (.call 83 (.c (.v 4) (.c (.call 19 (.c (.v 4) .o)) (.c (.call 70 (.c (.ix (.v 2) (.k 0)) (.c (.k 5) .o))) .o))))) (.c (.ret (.ay .add (.lst (.c (.blt .len (.c (.v 5) .o)) .o)) (.v 5))) .o))))
theorem Wt:Fd (top 185) [] 3 ["chancery","numbers","rows","refusal","daybook","days"] Ed:=by tm_at "d"
noncomputable def Ef:Ss:=.c (.set 3 (.call 102 (.c (.v 0) (.c (.ix (.v 2) (.k 0)) .o)))) (.c (.ifs (.v 3) (.c (.ret (.v 3)) .o) .o) (.c (.set 4 (.fld (.v 0) "daybook")) (.c (.set 5 (.call 19 (.c (.v 4) .o))) (.c (.set 6 (.call 70 (.c (.ix (.v 2) (.k 0)) (.c (.k 5) .o)))) (.c (.ifs (.call 83 (.c (.v 4) (.c (.v 5) (.c (.v 6) .o)))) (.c (.ret (.lst (.c (.k 0) .o))) .o) .o) (.c (.set 7 (.call 69 (.c (.lc (.call 64 (.c (.v 4) (.c (.call 83 (.c (.v 4) (.c (.v 5) (.c (.lst (.c (.v 8) .o)) .o)))) .o))) (.name 8) (.seq (.v 6)) (.cst (.bl true)) [8]) .o))) (.c (.ret (.ay .add (.lst (.c (.blt .len (.c (.v 7) .o)) .o)) (.v 7))) .o)))))))
theorem Wu:Fd (top 186) [] 3 ["chancery","numbers","rows","refusal","daybook","dates","marks","least","mark"] Ef:=by tm_at "d"
noncomputable def Ey:Ss:=.c (.set 3 (.ix (.v 1) (.k 0))) (.c (.set 4 (.fld (.v 0) "ledger")) (.c (.set 5 (.tup (.c (.fld (.v 4) "persons") (.c (.fld (.v 4) "offices") (.c (.fld (.v 4) "places") .o))))) (.c (.ifs (.bR (.call 91 (.c (.v 3) (.c (.v 5) .o)))) (.c (.ret (.lst (.c (.neg (.k 3)) .o))) .o) .o) (.c (.set 6 (.call 31 (.c (.ix (.v 5) (.v 3)) (.c (.blt .tuple (.c (.ix (.v 2) (.k 0)) .o)) .o)))) (.c (.ret (.eG (.cmp (.v 6) (.one .vd (.cst .az))) (.lst (.c (.neg (.k 3)) .o)) (.lst (.c (.v 6) .o)))) .o)))))
theorem Xv:Fd (top 187) [] 3 ["chancery","numbers","rows","what","ledger","named","number"] Ey:=by tm_at "d"
noncomputable def DE:Ss:=.c (.set 3 (.ix (.v 1) (.k 0))) (.c (.set 4 (.ix (.v 1) (.k 1))) (.c (.ifs (.iz (.bR (.call 91 (.c (.v 3) (.c (.fld (.fld (.v 0) "ledger") "offices") .o)))) (.bR (.call 1 (.c (.v 4) .o)))) (.c (.ret (.lst (.c (.neg (.k 3)) .o))) .o) .o) (.c (.set 5 (.call 73 (.c (.fld (.v 0) "ledger") (.c (.v 3) (.c (.v 4) .o))))) (.c (.ret (.eG (.cmp (.v 5) (.one .vd (.cst .az))) (.lst (.c (.neg (.k 4)) .o)) (.lst (.c (.v 5) .o)))) .o))))
theorem Vv:Fd (top 188) [] 3 ["chancery","numbers","rows","office","day","person"] DE:=by tm_at "d"
noncomputable def Di:Ss:=.c (.set 3 (.ix (.v 1) (.k 0))) (.c (.set 4 (.ix (.v 1) (.k 1))) (.c (.ifs (.iz (.bR (.call 91 (.c (.v 3) (.c (.fld (.fld (.v 0) "ledger") "persons") .o)))) (.bR (.call 1 (.c (.v 4) .o)))) (.c (.ret (.lst (.c (.neg (.k 3)) .o))) .o) .o) (.c (.set 5 (.call 74 (.c (.fld (.v 0) "ledger") (.c (.v 3) (.c (.v 4) .o))))) (.c (.ret (.eG (.cmp (.v 5) (.one .vd (.cst .az))) (.lst (.c (.neg (.k 4)) .o)) (.lst (.c (.v 5) .o)))) .o))))
theorem UC:Fd (top 189) [] 3 ["chancery","numbers","rows","person","day","office"] Di:=by tm_at "d"
noncomputable def Ez:Ss:=.c (.set 3 (.ix (.v 1) (.k 0))) (.c (.set 4 (.ix (.v 1) (.k 1))) (.c (.set 5 (.fld (.fld (.v 0) "ledger") "places")) (.c (.ifs (.iz (.bR (.call 91 (.c (.v 3) (.c (.v 5) .o)))) (.bR (.call 91 (.c (.v 4) (.c (.v 5) .o))))) (.c (.ret (.lst (.c (.neg (.k 3)) .o))) .o) .o) (.c (.set 6 (.ix (.ix (.fld (.v 0) "rides") (.v 3)) (.v 4))) (.c (.ret (.eG (.cmp (.v 6) (.one .eq (.k 1000000))) (.lst (.c (.neg (.k 4)) .o)) (.lst (.c (.v 6) .o)))) .o)))))
theorem Xw:Fd (top 190) [] 3 ["chancery","numbers","rows","i","j","places","days"] Ez:=by tm_at "d"
noncomputable def EX:Ss:=.c (.set 3 (.ix (.v 1) (.k 0))) (.c (.set 4 (.ix (.v 2) (.k 0))) (.c (.ifs (.bR (.call 60 (.c (.fld (.v 0) "ledger") (.c (.v 4) .o)))) (.c (.ret (.lst (.c (.neg (.k 4)) .o))) .o) .o) (.c (.ifs (.bR (.call 1 (.c (.v 3) .o))) (.c (.ret (.lst (.c (.neg (.k 3)) .o))) .o) .o) (.c (.ret (.lst (.c (.eG (.call 63 (.c (.fld (.v 0) "ledger") (.c (.fld (.v 0) "rides") (.c (.v 4) (.c (.v 3) .o))))) (.k 1) (.k 0)) .o))) .o))))
theorem Yx:Fd (top 191) [] 3 ["chancery","numbers","rows","day","claim"] EX:=by tm_at "d"
noncomputable def Dj:Ss:=.c (.set 2 (.call 70 (.c (.v 1) (.c (.k 3) .o)))) (.c (.set 3 (.lc (.call 62 (.c (.fld (.v 0) "ledger") (.c (.fld (.v 0) "rides") (.c (.v 4) .o)))) (.name 4) (.seq (.v 2)) (.cst (.bl true)) [4])) (.c (.ret (.lc (.call 66 (.c (.fld (.v 0) "daybook") (.c (.v 5) .o))) (.name 5) (.seq (.v 3)) (.cst (.bl true)) [5])) .o))
theorem UD:Fd (top 192) [] 2 ["chancery","row","claims","spans","claim","some"] Dj:=by tm_at "d"
noncomputable def Eg:Ss:=.c (.set 3 (.call 103 (.c (.v 0) (.c (.ix (.v 2) (.k 0)) .o)))) (.c (.ifs (.v 3) (.c (.ret (.v 3)) .o) .o) (.c (.set 4 (.call 68 (.c (.call 67 (.c (.fld (.v 0) "daybook") (.c (.call 111 (.c (.v 0) (.c (.ix (.v 2) (.k 0)) .o))) .o))) .o))) (.c (.ret (.ay .add (.lst (.c (.ay .fdiv (.blt .len (.c (.v 4) .o)) (.k 2)) .o)) (.v 4))) .o)))
theorem Wv:Fd (top 193) [] 3 ["chancery","numbers","rows","refusal","ends"] Eg:=by tm_at "d"
noncomputable def DF:Ss:=.c (.set 3 (.call 103 (.c (.v 0) (.c (.ix (.v 2) (.k 0)) .o)))) (.c (.ifs (.v 3) (.c (.ret (.v 3)) .o) .o) (.c (.set 4 (.call 69 (.c (.call 111 (.c (.v 0) (.c (.ix (.v 2) (.k 0)) .o))) .o))) (.c (.ret (.ay .add (.lst (.c (.blt .len (.c (.v 4) .o)) .o)) (.v 4))) .o)))
theorem Vw:Fd (top 194) [] 3 ["chancery","numbers","rows","refusal","least"] DF:=by tm_at "d"
noncomputable def FD:Ss:=.c (.set 3 (.lst .o)) (.c (.cU (.name 4) (.jd (.v 2)) (.c (.set 5 (.ay .add (.v 1) (.k 1))) (.c (.set 1 (.ay .add (.v 5) (.fX (.v 0) (.v 1)))) (.c (.ex (.app (.v 3) (.qY (.v 0) (.some (.v 5)) (.some (.v 1))))) .o)))) (.c (.ret (.tup (.c (.v 3) (.c (.v 1) .o)))) .o))
theorem ZF:Fd (top 196) [0] 3 ["calls","place","count","rows","k","begun"] FD:=by tm_at "d"
noncomputable def GN:Ss:=.c (.set 1 (.make 3 .o)) (.c (.set 2 (.lst .o)) (.c (.set 3 (.k 0)) (.c (.yk (.cmp (.v 3) (.one .lt (.xN (.v 0)))) (.c (.set 4 (.sy 1 (.fX (.v 0) (.v 3)))) (.c (.set 5 (.fX (.v 4) (.k 0))) (.c (.set 6 (.ay .add (.ay .add (.v 3) (.k 1)) (.fX (.v 4) (.k 1)))) (.c (.set 7 (.qY (.v 0) (.some (.ay .add (.v 3) (.k 1))) (.some (.v 6)))) (.c (.set 8 (.call 114 (.c (.v 0) (.c (.v 6) (.c (.fX (.v 4) (.k 2)) .o))))) (.c (.set 3 (.ix (.v 8) (.k 1))) (.c (.set 9 (.pA (.v 5) (.c (.v 1) (.c (.v 7) (.c (.ix (.v 8) (.k 0)) .o))))) (.c (.ex (.app (.v 2) (.blt .len (.c (.v 9) .o)))) (.c (.ex (.ext (.v 2) (.v 9))) .o)))))))))) (.c (.ret (.v 2)) .o))))
theorem MM:Fd (top 197) [0,4] 1 ["calls","chancery","told","place","call","answer","numbers_end","numbers","read","said"] GN:=by tm_at "d"
end Cd
namespace Cd
open PySem PySem.Spec PyProof.Rows L2 Mini
noncomputable def fieldNames:List Str:=["day","rides","year","month","nth","first_year","last_year","feasts","reigns","lives","persons","offices","holds","seals","places","ways","seens","daybook","ledger"]
structure Pa where
 K:aD
 gv:Nat->V
 fa:Nat->Addr
 cl:Nat->Addr
 gd:Nat->Int->Option V
structure aK(p:Pa):Prop where
 cls:∀j,j<4->mw p.K (p.cl j)
 na:∀j f,j<4->f∈fieldNames->m7 p.K (p.cl j) f
 dr:∃t,p.gv 2=.ref t/\∀H,aP p.K H t ([23,24,25].map λj=>.ref (p.fa j))
 lr:∃t,p.gv 3=.ref t/\∀H,aP p.K H t ([45,46,47,48,49,50,51,52,53,54,55,56,57,58,59].map λj=>.ref (p.fa j))
 bd:∀(j:Nat)(lo hi:Int),(j,lo,hi)∈[(6,0,0),(7,1,12),(8,0,6),(9,1,2000),(10,1,19)]->∃t,p.gv j=.ref t/\∀H,aP p.K H t [.int lo,.int hi]
noncomputable abbrev fin(Q:VK):Ends:={nx:=λz H'=>Q .az H',rt:=Q}
noncomputable def rD(d y m k:Int):List (Str×V):=[("day",.int d),("year",.int y),("month",.int m),("nth",.int k)]
def gO(p:Pa)(H:Hp)(a:Addr)(d:Int):Prop:=∃dx,H a=some (.ins (p.cl 0) dx (rD d (dw d) (cg d).1 (cg d).2))
def vP(p:Pa):Sp:=λvs H Q z=>match vs with
 |[.ref x,.int d,.int y,.int m,.int k]=>(match H x with|some (.ins C dx [])=>C=p.cl 0/\Q .az (upd H x (.ins (p.cl 0) dx (rD d y m k)))|_=>False)
 |_=>False
def FE:Sp:=λvs H Q z=>match vs with|[.ref a]=>(match H a with|some (.lst xs)=>Q (xs.headD .az) H|_=>False)|_=>False
noncomputable def l8(y z:Int)(f r:Addr):List (Str×V):=[("first_year",.int y),("last_year",.int z),("feasts",.ref f),("reigns",.ref r)]
def bA(p:Pa)(H:Hp)(a:Addr)(b:cP):Prop:=∃dx f r,H a=some (.ins (p.cl 1) dx (l8 b.from_ b.to_ f r))/\aZ H f (b.feasts.map gx)/\aZ H r (b.reigns.map dZ)
noncomputable def jF(l pe o h s pl w se:Addr):List (Str×V):=[("lives",.ref l),("persons",.ref pe),("offices",.ref o),("holds",.ref h),("seals",.ref s),("places",.ref pl),("ways",.ref w),("seens",.ref se)]
structure AJ(H:Hp)(k:bW)(l pe o h s pl w se:Addr):Prop where
 lives:aZ H l (k.persons.map λx=>dZ x.life)
 persons:aZ H pe (k.persons.map λx=>aX x.name)
 offices:aZ H o (k.offices.map aX)
 holds:aZ H h (k.holds.map eW)
 seals:aZ H s (k.seals.map dZ)
 places:aZ H pl (k.places.map aX)
 ways:aZ H w (k.ways.map gM)
 seens:aZ H se (k.seens.map jv)
def a_(p:Pa)(H:Hp)(a:Addr)(k:bW):Prop:=∃dx l pe o h s pl w se,H a=some (.ins (p.cl 2) dx (jF l pe o h s pl w se))/\AJ H k l pe o h s pl w se
def uB(p:Pa)(R:cP->Option Nat):Sp:=λvs H Q z=>∃a b,vs=[.ref a]/\bA p H a b/\∀H',ah H H'->Q (bF (R b)) H'
def cX(p:Pa)(pre:bW->Prop)(R:bW->Option Nat):Sp:=λvs H Q z=>∃a b,vs=[.ref a]/\a_ p H a b/\pre b/\∀H',ah H H'->Q (bF (R b)) H'
noncomputable def oQ(b:cP):Option Nat:=if (dS 1 eE b.from_&&(dS 1 eE b.to_&&(decide (b.from_<=b.to_)&&decide (b.to_<b.from_+qW))))=false then some 0 else if mX<b.feasts.length then some 1 else if mX<b.reigns.length then some 2 else none
noncomputable def oS(b:cP):Option Nat:=b.feasts.findIdx? λf=> !f.fine
noncomputable def oU(b:cP):Option Nat:=b.reigns.findIdx? λr=> !r.fine
noncomputable def aQ(i:Nat)(b:bW):Option Nat:=(b.rules[i]?).getD none
def As(b:bW):Prop:=aQ 5 b=none
def o6(H:Hp):Option (Nat×Nat)->V->Prop
 |none,v=>v=.az
 |some x,v=>∃t:Addr,v=.ref t/\H t=some (.tup [.int (x.1:Nat),.int (x.2:Nat)])
def KD(p:Pa):Sp:=λvs H Q z=>(∃a b,vs=[p.gv 2,.ref a]/\bA p H a b/\∀H' v,ah H H'->o6 H' b.fault v->Q v H')\/(∃a b,vs=[p.gv 3,.ref a]/\a_ p H a b/\∀H' v,ah H H'->o6 H' b.fault v->Q v H')
noncomputable def rf(ns:List Int):Bool:=ns.all λn=>decide (97<=n)&&decide (n<=122)
def Hy(cap:Bool):Sp:=λvs H Q z=>∃(a:Addr)(n:j3),vs=[.ref a]/\H a=some (.tup ((aX n).map V.int))/\n.length<=70000/\∀H',ah H H'->Q (.bl (gJ cap n)) H'
noncomputable def cz(f:Nat->Int)(n:Nat):List V:=(cS n).map λj=>V.int (f j)
def TabAt(H:Hp)(r:Addr)(n:Nat)(T:Nat->Nat->Int):Prop:=∃rs:List Addr,H r=some (.lst (rs.map V.ref))/\rs.length=n/\∀(i:Nat)(a:Addr),rs[i]?=some a->H a=some (.lst (cz (T i) n))
noncomputable def eK(a l r:Addr):List (Str×V):=[("daybook",.ref a),("ledger",.ref l),("rides",.ref r)]
def bS(p:Pa)(H:Hp)(c:Addr)(s:gI):Prop:=∃dx a l r,H c=some (.ins (p.cl 3) dx (eK a l r))/\bA p H a s.days/\a_ p H l s.books/\TabAt H r s.books.places.length (Sets.tR s.books)/\Qz s
def bh(H:Hp)(D:Addr)(ns:List Int):Prop:=H D=some (.lst (ns.map V.int))
def mZ(p:Pa)(H:Hp)(D:Addr)(ds:List Int):Prop:=∃as:List Addr,H D=some (.lst (as.map V.ref))/\as.length=ds.length/\∀(i:Nat)(a:Addr)(d:Int),as[i]?=some a->ds[i]?=some d->gO p H a d
noncomputable def cR(l:List (Int×Int)):List (List Int):=l.map λx=>[x.1,x.2]
def dB(H:Hp)(ro:Addr)(rows:List (List Int)):Prop:=∃as:List Addr,H ro=some (.lst (as.map V.ref))/\as.length=rows.length/\∀(i:Nat)(a:Addr)(row:List Int),as[i]?=some a->rows[i]?=some row->H a=some (.lst (row.map V.int))
noncomputable def off(H:Hp)(N:Addr):Hp:=λb=>if b=N then none else H b
def But(c:Addr)(H H':Hp):Prop:=∀b o,b≠c->H b=some o->H' b=some o
noncomputable def i8(b:cP)(l:List (Int×Int)):Nat:=Sets.bits (DN b) λi=>l.any (Sets.cJ (D0 b+(i:Int)))
def jb(H:Hp)(m:Addr)(row:List Int):Prop:=H m=some (.lst (row.map V.int))\/H m=some (.tup (row.map V.int))
def Dk(p:Pa):Sp:=λvs H Q z=>∃(a:Addr)(b:cP)(m:Addr)(row:List Int),vs=[.ref a,.ref m]/\bA p H a b/\jb H m row/\∀H',ah H H'->Q (.bl (fL b row)) H'
def CY(p:Pa):Sp:=λvs H Q z=>∃(a:Addr)(b:bW)(m:Addr)(row:List Int),vs=[.ref a,.ref m]/\a_ p H a b/\jb H m row/\∀H',ah H H'->Q (.bl (fM b row)) H'
def J4(p:Pa):Sp:=λvs H Q z=>(∃(t:Addr)(rs:List (List Int))(a:Addr)(b:cP),vs=[.ref t,.ref (p.fa 80),.ref a]/\bA p H a b/\aZ H t rs/\∀H' D,ah H H'->H D=none->bh H' D (refuse (rs.map (fL b)))->Q (.ref D) H')\/
 (∃(t:Addr)(rs:List (List Int))(a:Addr)(b:bW),vs=[.ref t,.ref (p.fa 60),.ref a]/\a_ p H a b/\aZ H t rs/\∀H' D,ah H H'->H D=none->bh H' D (refuse (rs.map (fM b)))->Q (.ref D) H')
noncomputable def fS(s:gI)(row:List Int):List Int:=if cI 5 [0,1,2,3] row=true then refuse ((bP 5 row).map (fL s.days)) else [-2]
noncomputable def fT(s:gI)(row:List Int):List Int:=if cI 3 [0,1,2] row=true then refuse ((bP 3 row).map (fM s.books)) else [-2]
def Gd(p:Pa)(R:gI->List Int->List Int):Sp:=λvs H Q z=>∃(c:Addr)(s:gI)(r:Addr)(row:List Int),vs=[.ref c,.ref r]/\bS p H c s/\bh H r row/\row.length<=65536/\∀H' D,ah H H'->H D=none->bh H' D (R s row)->Q (.ref D) H'
structure AK(b:bW):Prop where
 n:b.places.length<=16
 w:∀w∈b.ways,w.i<b.places.length/\w.j<b.places.length/\w.i≠w.j/\w.days<=1000
 u:∀w∈b.ways,∀v∈b.ways,w.i=v.i->w.j=v.j->w=v
def zY(R:bW->Nat->Nat->Int):Sp:=λvs H Q z=>∃(b:bW)(w:Addr),vs=[.int (b.places.length:Nat),.ref w]/\aZ H w (b.ways.map gM)/\AK b/\∀H' D,ah H H'->(∃rs:List Addr,H' D=some (.lst (rs.map V.ref))/\rs.length=b.places.length/\rs.Nodup/\H D=none/\D∉rs/\(∀a∈rs,H a=none)/\∀(i:Nat)(a:Addr),rs[i]?=some a->H' a=some (.lst (cz (R b i) b.places.length)))->Q (.ref D) H'
def EY:Sp:=λvs H Q z=>∃(a:Addr)(c:Nat)(ns:List Int),vs=[.ref a,.int (c:Nat)]/\bh H a ns/\(1<=c/\c<=16)/\ns.length<=65536/\∀H' D,ah H H'->H D=none->aZ H' D (bP c ns)->Q (.ref D) H'
def G6:Sp:=λvs H Q z=>∃(a cc:Addr)(c:Nat)(ns cols:List Int),vs=[.ref a,.int (c:Nat),.ref cc]/\bh H a ns/\H cc=some (.tup (cols.map V.int))/\1<=c/\ns.length<=65536/\∀H',ah H H'->Q (.bl (cI c cols ns)) H'
def Eh:Sp:=λvs H Q z=>∃(a:Addr)(ns:List Int),vs=[.ref a]/\bh H a ns/\ns.length<=65536/\∀H' D,ah H H'->H D=none->aZ H' D (g_ ns)->Q (.ref D) H'
def Bd(p:Pa)(H:Hp)(v:V)(x:Int×Int):Prop:=∃t,v=.ref t/\aP p.K H t [.int x.1,.int x.2]
def Li(p:Pa):Sp:=λvs H Q z=>∃(a:Addr)(b:cP)(k:Int),vs=[.ref a,.int k]/\bA p H a b/\(0<=k/\k<=9)/\∀H' T v0 v1 v2 v3,ah H H'->H' T=some (.tup [v0,v1,v2,v3])->Bd p H' v0 ((jf b k.toNat).getD 0 (0,0))->Bd p H' v1 ((jf b k.toNat).getD 1 (0,0))->Bd p H' v2 ((jf b k.toNat).getD 2 (0,0))->Bd p H' v3 ((jf b k.toNat).getD 3 (0,0))->Q (.ref T) H'
noncomputable def rw(rows:List (List Int))(i:Nat):List Int:=rows.getD i []
noncomputable def fB(rows:List (List Int)):Bool:=(decide ((rw rows 0).length=2)&&(cI 4 [0,1,2] (rw rows 1)&&cI 2 [] (rw rows 2)))&&nF (rw rows 3) (rw rows 4) (rw rows 6) (rw rows 7) (rw rows 9) (rw rows 10)
structure i_(rows:List (List Int)):Prop where
 n:rows.length=11
 l:∀r∈rows,r.length<=65536
 b:∀i,i=4\/i=5\/i=8->∀z∈rw rows i,0<=z/\z<=255
noncomputable def wV(rows:List (List Int)):Option bW:=La (rw rows 3) (cG (rw rows 4)) (cG (rw rows 5)) (rw rows 6) (rw rows 7) (cG (rw rows 8)) (rw rows 9) (rw rows 10)
def KG(p:Pa):Sp:=λvs H Q z=>vs=[]/\∀H' D,ah H H'->a_ p H' D ⟨[],[],[],[],[],[],[]⟩->Q (.ref D) H'
def dP(p:Pa)(c:Addr)(H:Hp)(s:gI)(r:gI×List Int)(Q:VK):Prop:=∀H' D,But c H H'->bS p H' c r.1->(∀N w,H N=some (.lst w)->bS p (off H N) c s->bS p (off H' N) c r.1)->bh H' D r.2->r.2.length<=3000->D≠c->H D=none->Q (.ref D) H'
structure Ask(i:Int)(ns:List Int)(rows:List (List Int)):Prop where
 h:CM ((i::ns)::rows)=true
 s:iZ i=some (ns.length,rows.length)
def f6(p:Pa)(n:Int):Sp:=λvs H Q z=>∃(c:Addr)(s:gI)(nu:Addr)(ns:List Int)(ro:Addr)(rows:List (List Int)),vs=[.ref c,.ref nu,.ref ro]/\bS p H c s/\bh H nu ns/\dB H ro rows/\Ask n ns rows/\dP p c H s (bD s ((n::ns)::rows)) Q
def Lj(p:Pa):Sp:=λvs H Q z=>∃(a:Addr)(l:List Int)(q k:Nat)(xs:List (List Int))(t:List Int),vs=[.ref a,.int (q:Nat),.int (k:Nat)]/\aG p.K H a (l.map V.int)/\(∀H',ah H H'->aG p.K H' a (l.map V.int))/\l.length<=16000/\k<=11/\jV k (l.drop q)=some (xs,t)/\q<=l.length/\
 ∀H' T ro,ah H H'->H' T=some (.tup [.ref ro,.int ((l.length-t.length:Nat):Int)])->dB H' ro xs->H T=none->H ro=none->Q (.ref T) H'
def DG(p:Pa):Sp:=λvs H Q w=>∃x dx y z f r,vs=[.ref x,.int y,.int z,.ref f,.ref r]/\H x=some (.ins (p.cl 1) dx [])/\Q .az (upd H x (.ins (p.cl 1) dx (l8 y z f r)))
def yV(p:Pa):Sp:=λvs H Q z=>∃x dx l pe o h s pl w se,vs=[.ref x,.ref l,.ref pe,.ref o,.ref h,.ref s,.ref pl,.ref w,.ref se]/\H x=some (.ins (p.cl 2) dx [])/\Q .az (upd H x (.ins (p.cl 2) dx (jF l pe o h s pl w se)))
def Dl(p:Pa):Sp:=λvs H Q z=>∃x dx,vs=[.ref x]/\H x=some (.ins (p.cl 3) dx [])/\∀H',(∀b o,b≠x->H b=some o->H' b=some o)->bS p H' x FJ->Q .az H'
abbrev nS:Sp:=λz z z z=>False
def spT(p:Pa)(j:Nat):Sp:=[(λvs H Q z=>match vs with|[.int y]=>Q (.bl (dS 1 eE y)) H|_=>False),(λvs H Q z=>match vs with|[.int d]=>Q (.bl (bZ d)) H|_=>False),(λvs H Q z=>match vs with|[.int a,.int b]=>Q (.bl (tM ⟨a,b⟩)) H|_=>False),(λvs H Q z=>match vs with|[.int y]=>Q (.bl (wN y)) H|_=>False),(λvs H Q z=>match vs with|[.int y,.int m]=>(1<=m/\m<=13)/\Q (.int (jX y m.toNat)) H|_=>False),(λvs H Q z=>match vs with|[.int y,.int m]=>(1<=m/\m<=12)/\Q (.int (v5 y m.toNat)) H|_=>False),(λvs H Q z=>match vs with|[.int y]=>Q (.int (eB y)) H|_=>False),(λvs H Q z=>match vs with|[.int y,.int m,.int d]=>(1<=m/\m<=12)/\Q (.int (eB y+jX y m.toNat+(d-1))) H|_=>False),(λvs H Q z=>match vs with|[.int y,.int m,.int d]=>Q (.bl (decide (0<=m)&&(decide (0<=d)&&qI y m.toNat d.toNat))) H|_=>False),(λvs H Q z=>match vs with|[.int d]=>∀H' a,ah H H'->gO p H' a d->Q (.ref a) H'|_=>False),(λvs H Q z=>match vs with|[.int d]=>Q (.int (ju d)) H|_=>False),(λvs H Q z=>match vs with|[.int y]=>Q (.int (M1 y)) H|_=>False),(λvs H Q z=>match vs with|[.int d]=>∀H',ah H H'->Q (.bl (bO.sD d)) H'|_=>False),(λvs H Q z=>match vs with|[.int y]=>Q (.int (6-ju (eB y))) H|_=>False),(λvs H Q z=>∃(x:Addr)(d:Int),vs=[.ref x]/\gO p H x d/\∀H' a,ah H H'->H' a=some (.tup [.int (g6 d).1,.int (g6 d).2.1,.int (g6 d).2.2])->Q (.ref a) H'),FE,(λvs H Q z=>∃(a:Addr)(b:cP),vs=[.ref a]/\bA p H a b/\Q (.int (D0 b)) H),(λvs H Q z=>∃(a:Addr)(b:cP),vs=[.ref a]/\bA p H a b/\Q (.int (eB (b.to_+1)-1)) H),(λvs H Q z=>∃(a:Addr)(b:cP),vs=[.ref a]/\bA p H a b/\b.fault=none/\∀H' D,ah H H'->bh H' D (Sets.cE (D0 b) (DN b))->Q (.ref D) H'),(λvs H Q z=>∃(a:Addr)(b:cP),vs=[.ref a]/\bA p H a b/\b.fault=none/\∀H' D,ah H H'->mZ p H' D (Sets.cE (D0 b) (DN b))->Q (.ref D) H'),(λvs H Q z=>match vs with|[.int a,.int b]=>Q (.bl (dS 1 eE a&&(dS 1 eE b&&(decide (a<=b)&&decide (b<a+qW))))) H|_=>False),(λvs H Q z=>∃a f,vs=[.ref a]/\H a=some (.tup ((gx f).map V.int))/\Q (.bl (iF f)) H),nS,uB p oQ,uB p oS,uB p oU,(λvs H Q z=>∃a f y,vs=[.ref a,.int y]/\H a=some (.tup ((gx f).map V.int))/\iF f=true/\Q (.int (bO.fd f y)) H),(λvs H Q z=>∃a f d,vs=[.ref a,.int d]/\H a=some (.tup ((gx f).map V.int))/\iF f=true/\∀H',ah H H'->Q (.bl (i6 f d)) H'),(λvs H Q z=>∃x d y,vs=[.ref x,.int y]/\gO p H x d/\Q (.int (bU y (cg d).1 (cg d).2)) H),(λvs H Q z=>∃a r x d,vs=[.ref a,.ref x]/\H a=some (.tup ((dZ r).map V.int))/\gO p H x d/\∀H',ah H H'->Q (.int (tX r d)) H'),Eh,(λvs H Q z=>∃(a n:Addr)(rs:List (List Int))(row:List Int),vs=[.ref a,.ref n]/\aZ H a rs/\H n=some (.tup (row.map V.int))/\∀H',ah H H'->Q (bF (rs.findIdx? λr=>r==row)) H'),(λvs H Q z=>∃(a:Addr)(ns:List Int),vs=[.ref a]/\H a=some (.tup (ns.map V.int))/\Q (.bl (decide (1<=ns.length)&&decide (ns.length<=31))) H),(λvs H Q z=>∃(a:Addr)(ns:List Int),vs=[.ref a]/\H a=some (.tup (ns.map V.int))/\ns.length<=70000/\∀H',ah H H'->Q (.bl (rf ns)) H'),Hy false,Hy true,zY cT.start,zY Sets.tR,KG p,(λvs H Q z=>∃(a:Addr)(rs:List (List Int)),vs=[.ref a]/\aZ H a rs/\∀H' D,ah H H'->H' D=some (.lst (flat (λi=>if decide (rs.getD i []∈rs.take i)=true then some (.int (i:Nat)) else none) rs.length))->Q (.ref D) H'),(λvs H Q z=>∃a k b h,vs=[.ref a,.ref b]/\a_ p H a k/\H b=some (.tup ((eW h).map V.int))/\Q (.bl (decide (h.who<k.persons.length)&&(decide (h.office<k.offices.length)&&h.when_.fine))) H),(λvs H Q z=>∃a k b h,vs=[.ref a,.ref b]/\a_ p H a k/\H b=some (.tup ((eW h).map V.int))/\h.who<k.persons.length/\Q (.bl ((k.persons[h.who]?).all λy=>decide (y.life.first<=h.when_.first)&&decide (h.when_.last<=y.life.last))) H),(λvs H Q z=>∃a b g h,vs=[.ref a,.ref b]/\H a=some (.tup ((eW g).map V.int))/\H b=some (.tup ((eW h).map V.int))/\Q (.bl (decide (g.office=h.office)&&(decide (g.when_.first<=h.when_.last)&&decide (h.when_.first<=g.when_.last)))) H),(λvs H Q z=>∃a k b w,vs=[.ref a,.ref b]/\a_ p H a k/\H b=some (.tup ((gM w).map V.int))/\Q (.bl (decide (w.i<k.places.length)&&(decide (w.j<k.places.length)&&(!decide (w.i=w.j)&&(decide (1<=w.days)&&decide (w.days<=1000)))))) H),(λvs H Q z=>∃a b g h,vs=[.ref a,.ref b]/\H a=some (.tup ((gM g).map V.int))/\H b=some (.tup ((gM h).map V.int))/\Q (.bl (decide (g.i=h.i)&&decide (g.j=h.j))) H),cX p (λz=>True) (aQ 0),cX p (λz=>True) (aQ 1),cX p (λz=>True) (aQ 2),cX p (λz=>True) (aQ 3),cX p (λz=>True) (aQ 4),cX p (λz=>True) (aQ 5),cX p (As) (aQ 6),cX p (λz=>True) (aQ 7),cX p (λz=>True) (aQ 8),cX p (λz=>True) (aQ 9),cX p (λz=>True) (aQ 10),cX p (λz=>True) (aQ 11),cX p (λz=>True) (aQ 12),cX p (λz=>True) (aQ 13),cX p (λb=>aQ 11 b=none/\aQ 12 b=none/\b.places.length<=16) (aQ 14),CY p,(λvs H Q z=>∃(a:Addr)(b:bW)(r:Addr)(k:Int),vs=[.ref a,.ref r,.int k]/\a_ p H a b/\Sets.Ok b/\TabAt H r b.places.length (Sets.tR b)/\(0<=k/\k<(b.places.length:Nat))/\∀H' D,ah H H'->H D=none->aZ H' D (cR (Sets.stays (Sets.tR b) k.toNat 0 b.seens))->Q (.ref D) H'),(λvs H Q z=>∃(a:Addr)(b:bW)(r:Addr)(m:Addr)(k:Ad),vs=[.ref a,.ref r,.ref m]/\a_ p H a b/\Sets.Ok b/\TabAt H r b.places.length (Sets.tR b)/\jb H m (i7 k)/\lC k b=true/\∀H' D,ah H H'->H D=none->aZ H' D (cR (Sets.dR b k))->Q (.ref D) H'),(λvs H Q z=>∃(a:Addr)(b:bW)(r:Addr)(m:Addr)(k:Ad)(d:Int),vs=[.ref a,.ref r,.ref m,.int d]/\a_ p H a b/\Sets.Ok b/\TabAt H r b.places.length (Sets.tR b)/\jb H m (i7 k)/\lC k b=true/\∀H',ah H H'->Q (.bl ((Sets.dR b k).any (Sets.cJ d))) H'),(λvs H Q z=>∃(a:Addr)(b:cP)(D:Addr)(ds:List Int),vs=[.ref a,.ref D]/\bA p H a b/\bh H D ds/\ds.length<=1096/\(∀d∈ds,D0 b<=d/\d<=D0 b+1096)/\∀H',ah H H'->Q (.int (ds.map λd=>(2:Int)^(d-D0 b).toNat).sum) H'),(λvs H Q z=>∃(a:Addr)(b:cP)(t:Addr)(f:Int)(l:Int),vs=[.ref a,.ref t]/\bA p H a b/\b.fault=none/\H t=some (.tup [.int f,.int l])/\Q (.int (i8 b [(f,l)]:Nat)) H),(λvs H Q z=>∃(a:Addr)(b:cP)(t:Addr)(l:List (Int×Int)),vs=[.ref a,.ref t]/\bA p H a b/\b.fault=none/\aZ H t (cR l)/\Q (.int (i8 b l:Nat)) H),(λvs H Q z=>∃(a:Addr)(b:cP)(S:Addr)(qs:List (Nat->Bool)),vs=[.ref a,.ref S]/\bA p H a b/\b.fault=none/\H S=some (.lst (qs.map λq=>V.int (Sets.bits (DN b) q:Nat)))/\∀H' E,ah H H'->bh H' E ((Sets.cE (D0 b) (DN b)).filter λd=>qs.all λq=>q (d-D0 b).toNat)->Q (.ref E) H'),(λvs H Q z=>∃(D:Addr)(ds:List Int),vs=[.ref D]/\bh H D ds/\ds.length<=1096/\∀H' E,ah H H'->bh H' E (Sets.ends (iG ds))->Q (.ref E) H'),(λvs H Q z=>∃(S:Addr)(n:Nat)(N:Nat)(q:Nat->Nat->Bool),vs=[.ref S]/\H S=some (.lst (cz (λk=>((Sets.bits N (q k):Nat):Int)) n))/\n<=8/\1<=N/\∀H' E,ah H H'->bh H' E (gb n N q)->Q (.ref E) H'),EY,G6,(λvs H Q z=>∃(a:Addr)(h:lW)(d:Int),vs=[.ref a,.int d]/\H a=some (.tup ((eW h).map V.int))/\Q (.bl (h.when_.has d)) H),(λvs H Q z=>∃(a:Addr)(b:bW)(o:Int)(d:Int),vs=[.ref a,.int o,.int d]/\a_ p H a b/\0<=o/\∀H',ah H H'->Q (bF (b.holder o.toNat d)) H'),(λvs H Q z=>∃(a:Addr)(b:bW)(o:Int)(d:Int),vs=[.ref a,.int o,.int d]/\a_ p H a b/\Sets.Ok b/\0<=o/\∀H',ah H H'->Q (bF (b.highest o.toNat d)) H'),(λvs H Q z=>match vs with|[.int s]=>Q (.bl (decide (0<=s)&&decide (s<=5))) H|_=>False),(λvs H Q z=>match vs with|[.int y,.int s]=>(0<=s/\s<=5)/\Q (.int (bO.turn s.toNat y)) H|_=>False),(λvs H Q z=>∃x d s,vs=[.ref x,.int s]/\gO p H x d/\(0<=s/\s<=5)/\Q (.int (tL s.toNat d)) H),(λvs H Q z=>∃x d a,vs=[.ref x,.int a]/\gO p H x d/\(0<=a/\a<=1)/\Q (.int (vL a.toNat d)) H),Li p,Dk p,(λvs H Q z=>∃a f d wd af,vs=[.ref a,.int d,.int wd,.int af]/\H a=some (.tup ((gx f).map V.int))/\iF f=true/\(af=0\/af=1)/\∀H',ah H H'->Q (.bl (decide ((ju d:Int)=wd)&&(cS 7).any λi=>i6 f (if af=0 then d+1+(i:Int) else d-1-(i:Int)))) H'),(λvs H Q z=>∃a b x d m k,vs=[.ref a,.ref x,.ref m]/\bA p H a b/\b.fault=none/\gO p H x d/\bZ d=true/\rd H m=some ((iL k).map V.int)/\k.right b=true/\∀H',ah H H'->Q (.bl (cD b d k)) H'),(λvs H Q z=>∃(a:Addr)(b:cP)(D:Addr)(ds:List Int)(M:Addr)(ms:List oW),vs=[.ref a,.ref D,.ref M]/\bA p H a b/\b.fault=none/\mZ p H D ds/\ds.length<=1096/\(∀d∈ds,bZ d=true)/\aZ H M (ms.map iL)/\(∀k∈ms,mS k b=true)/\∀H' E,ah H H'->bh H' E (ds.filter λd=>ms.all (cD b d))->Q (.ref E) H'),(λvs H Q z=>∃(ro:Addr)(rows:List (List Int)),vs=[.ref ro]/\dB H ro rows/\i_ rows/\∀H',ah H H'->Q (.bl (fB rows)) H'),(λvs H Q z=>∃(ro:Addr)(rows:List (List Int))(d:cP),vs=[.ref ro]/\dB H ro rows/\i_ rows/\oA (rw rows 0) (rw rows 1) (rw rows 2)=some d/\fB rows=true/\∀H' D,ah H H'->bA p H' D d->(∀N w,H N=some (.lst w)->bA p (off H' N) D d)->Q (.ref D) H'),(λvs H Q z=>∃(ro:Addr)(rows:List (List Int))(k:bW),vs=[.ref ro]/\dB H ro rows/\i_ rows/\wV rows=some k/\fB rows=true/\∀H' D,ah H H'->a_ p H' D k->(∀N w,H N=some (.lst w)->a_ p (off H' N) D k)->Q (.ref D) H'),KD p,(λvs H Q z=>∃a b,vs=[.ref a]/\bA p H a b/\∀H' v,ah H H'->o6 H' b.fault v->Q v H'),(λvs H Q z=>∃a b,vs=[.ref a]/\a_ p H a b/\∀H' v,ah H H'->o6 H' b.fault v->Q v H'),(λvs H Q z=>∃(c:Addr)(s:gI)(ro:Addr)(rows:List (List Int)),vs=[.ref c,.ref ro]/\bS p H c s/\dB H ro rows/\i_ rows/\dP p c H s (bD s ([5]::rows)) Q),(λvs H Q z=>∃(n:Int)(t:Addr)(xs:List V),vs=[.int n,.ref t]/\rd H t=some xs/\Q (.bl (decide (0<=n)&&decide (n<(xs.length:Nat)))) H),f6 p 1,f6 p 2,f6 p 3,f6 p 4,f6 p 5,f6 p 6,f6 p 7,f6 p 8,f6 p 9,J4 p,Gd p fS,Gd p fT,f6 p 10,f6 p 11,f6 p 12,f6 p 13,f6 p 14,f6 p 15,f6 p 16,(λvs H Q z=>∃(c:Addr)(s:gI)(r:Addr)(row:List Int)(ms:List Ad),vs=[.ref c,.ref r]/\bS p H c s/\bh H r row/\row.length<=65536/\bP 3 row=ms.map i7/\(∀k∈ms,lC k s.books=true)/\∀H' D,ah H H'->H' D=some (.lst (ms.map λk=>V.int (i8 s.days (Sets.dR s.books k):Nat)))->Q (.ref D) H'),f6 p 17,f6 p 18,Lj p].getD j nS
def A8(p:Pa):Nat->Sp
 |0=>vP p
 |1=>DG p
 |2=>yV p
 |3=>Dl p
 |_=>λz z z z=>False
noncomputable def G(p:Pa)(lim ie:Nat):Ge:=⟨p.K,p.gv,p.fa,spT p,lim,p.cl,A8 p,ie,p.gd⟩
theorem gS{α:Type}{a d:α}{l:List α}:(a::l).getD (n+1) d=l.getD n d:=rfl
theorem gZ{α:Type}{a d:α}{l:List α}:(a::l).getD 0 d=a:=rfl
theorem it1{α:Sort _}{a b:α}:(if true=true then a else b)=a:=rfl
theorem it0{α:Sort _}{a b:α}:(if false=true then a else b)=b:=rfl
local macro_rules|`(tactic|tm_at "r")=>do
 let f:=λs:String=>(s.splitOn " ").toArray.map λx=>Lean.mkIdent x.toName
 let a:=f "afk it1 it0 reduceIte spT gS gZ"
 let b:=f "ak sS sE sT sC bz sO wR aha ahb Om ahc ahd ahe afh ahf xr aiw Pz aix PB aiy ajL H_ lX ahh ahi ahg afi afj dG fC fE fF G tG tH cond_false A8 vP FE Hy KD Dk CY J4 Gd zY EY G6 Eh Li KG DG yV Dl d8 iA at2 Jd at4 Mini.jH ints? kH"
 `(tactic|simp only[$[↓$a:ident],*,$[$b:ident],*])
section
variable{p:Pa}{H:Hp}{Q:VK}
theorem f9(ok:aK p)(h:H a=some (.ins (p.cl j) dx fs))(hj:j<4)(hf:f∈fieldNames)(hv:fs.lookup f=some v):dX p.K f (.ref a) H Q=Q v H:=by
 simp only[dX,h,ok.cls j hj,ok.na j f hj hf,hv,true_and]
theorem m5(ok:aK p)(h:H a=some (.ins (p.cl 0) dx (rD d y m k))):dX p.K "day" (.ref a) H Q=Q (.int d) H:=f9 ok h (by decide) (by decide) rfl
theorem lN(ok:aK p)(h:H a=some (.ins (p.cl 0) dx (rD d y m k))):dX p.K "year" (.ref a) H Q=Q (.int y) H:=f9 ok h (by decide) (by decide) rfl
theorem kM(ok:aK p)(h:H a=some (.ins (p.cl 0) dx (rD d y m k))):dX p.K "month" (.ref a) H Q=Q (.int m) H:=f9 ok h (by decide) (by decide) rfl
theorem lT(ok:aK p)(h:H a=some (.ins (p.cl 0) dx (rD d y m k))):dX p.K "nth" (.ref a) H Q=Q (.int k) H:=f9 ok h (by decide) (by decide) rfl
theorem acq(h:Q (.bl (dS 1 eE y)) H):ak (G p 0 0) GC (fin Q) [some (.int y)] H:=by
 unfold GC;tm_at "r";exact h
theorem aea(h:Q (.bl (bZ y)) H):ak (G p 1 0) G3 (fin Q) [some (.int y)] H:=by
 unfold G3;tm_at "r";exact h
theorem acr(h:Q (.bl (tM ⟨a,b⟩)) H):ak (G p 2 0) GD (fin Q) [some (.int a),some (.int b)] H:=by
 unfold GD;tm_at "r"
 have e:tM ⟨a,b⟩=(decide (0<=a)&&(decide (a<=b)&&decide (b<=730499))):=by
  unfold tM bZ dS Se.DAYS;rw[aT];simp;omega
 rw[←e];exact h
theorem acs(h:Q (.bl (wN y)) H):ak (G p 3 0) GF (fin Q) [some (.int y)] H:=by
 unfold GF;tm_at "r";refine⟨by decide,?_⟩;have e:wN y=decide (y % 4=0):=by unfold wN;by_cases c:y % 4=0<;>simp[c]
 rw[←e];exact h
theorem aho(h:0<=m/\m<=12):cF (bO.vf.map V.int) m=some (.int (bO.vf.getD m.toNat 0)):=by
 obtain⟨k,rfl⟩:∃k:Nat,m=k:=⟨m.toNat,by lia⟩;refine qO ?_;have hl:k<bO.vf.length:=by show k<13;omega
 simp[eS,gF hl,List.getD]
theorem aeb(y:Int):wN y=decide (y % 4=0):=by unfold wN;by_cases c:y % 4=0<;>simp[c]
theorem S7(hm:1<=m/\m<=13)(h:Q (.int (jX y m.toNat)) H):ak (G p 4 0) CI (fin Q) [some (.int y),some (.int m),none] H:=by
 unfold CI;have ha:=aho (m:=m-1) (by lia);simp only[bO.vf,aV,bB] at ha;have hb:=bO.ahk (y:=y) hm;rw[←hb] at h;unfold bO.Jf bO.vf at h
 tm_at "r"
 simp only[ha,aeb]
 tm_at "r"
 by_cases c1:2<m<;>by_cases c2:y % 4=0<;>simp[c1,c2] at h ⊢<;>exact h
theorem Ww(hm:1<=m/\m<=12)(h:Q (.int (v5 y m.toNat)) H):ak (G p 5 0) DT (fin Q) [some (.int y),some (.int m)] H:=by
 unfold DT;tm_at "r";refine⟨by lia,by lia,?_⟩;have e:=bO.length_eq (y:=y) (m:=m.toNat) (by grind);rw[show(m+1).toNat=m.toNat+1 by grind,←e];exact h
theorem Yy(h:Q (.int (eB y)) H):ak (G p 6 0) EJ (fin Q) [some (.int y)] H:=by
 unfold EJ;tm_at "r";exact⟨.inl ⟨by decide,by decide⟩,⟨by decide,by decide⟩,h⟩
theorem Yz(hm:1<=m/\m<=12)(h:Q (.int (eB y+jX y m.toNat+(d-1))) H):ak (G p 7 0) EK (fin Q) [some (.int y),some (.int m),some (.int d)] H:=by
 unfold EK;tm_at "r";refine⟨by lia,?_⟩;rw[show eB y+(jX y m.toNat:Int)+d-1=eB y+jX y m.toNat+(d-1) by simp+arith];exact h
theorem acu(h:Q (.bl (decide (0<=m)&&(decide (0<=d)&&qI y m.toNat d.toNat))) H):ak (G p 8 0) GG (fin Q) [some (.int y),some (.int m),some (.int d)] H:=by
 unfold GG;tm_at "r";have hy:∀z,z=(decide (0<=m)&&(decide (0<=d)&&qI y m.toNat d.toNat))->Q (.bl z) H:=λz e=>by rw[e];exact h
 unfold qI at hy;split
 ·rename_i c1
  split
  ·rename_i c2
   split
   ·rename_i c3
    have c2:=of_decide_eq_true c2;have c3:=of_decide_eq_true c3;split
    ·rename_i c4
     have c4:=of_decide_eq_true c4;refine⟨⟨c2,c3⟩,hy _ ?_⟩;rw[c1,aT];simp;omega
    ·rename_i c4
     have c4:¬1<=d:=λh=>c4 (decide_eq_true h);refine hy _ ?_
     symm;rw[sZ];simp;lia
   ·rename_i c3
    have c3:¬m<=12:=λh=>c3 (decide_eq_true h);refine hy _ ?_
    symm;rw[sZ];simp;simp[*]
  ·rename_i c2
   have c2:¬1<=m:=λh=>c2 (decide_eq_true h);refine hy _ ?_
   symm;rw[sZ];simp;lia
 ·rename_i c1
  refine hy _ ?_
  symm;rw[sZ];simp[c1]
theorem YA(h:Q (.int (ju d)) H):ak (G p 10 0) EL (fin Q) [some (.int d)] H:=by
 unfold EL;tm_at "r";rw[←bO.qp];exact⟨by decide,h⟩
theorem ZG(h:Q (.int (M1 y)) H):ak (G p 11 0) Fg (fin Q) [some (.int y),none] H:=by
 unfold Fg;tm_at "r";rw[bO.Gu] at h;refine⟨by decide,by decide,.inl ⟨by decide,by decide⟩,by decide,by decide,?_⟩;rw[bO.qp,show eB y+(jX y (Int.toNat 3):Int)+(21-1)+(19*(y % 19)+15) % 30=Se.moon y from rfl];exact h
theorem ZH(ok:aK p)(hx:H x=some (.ins (p.cl 0) dx []))(h:Q .az (upd H x (.ins (p.cl 0) dx (rD d y m k)))):ak (G p 0 0) Ff (fin Q) [some (.ref x),some (.int d),some (.int y),some (.int m),some (.int k)] H:=by
 unfold Ff;tm_at "r";simp+decide only[pC,hx,au,ok.cls,ok.na,true_and,eT,ck,qw,qM,dU,if_false];exact h
theorem acv(ok:aK p)(h:∀H' a,ah H H'->gO p H' a d->Q (.ref a) H'):ak (G p 9 1) GH (fin Q) [some (.int d),none,none,none,none] H:=by
 unfold GH;tm_at "r";obtain⟨f1,f2⟩:=bO.qo d;have ey:4*(d/1461)+min (d % 1461/365) 3+1=dw d:=by unfold dw;rw[Int.min_comm]
 have er:d % 1461-365*min (d % 1461/365) 3=d-eB (dw d):=by
  unfold dw eB;rw[vY,vY];split<;>split<;>grind
 rw[ey,er];have mo:=λm=>bO.FW (d:=d) (m:=m);replace f1:0<=d-eB (dw d):=by lia
 replace f2:d-eB (dw d)<365+bO.lp (dw d):=by lia
 clear ey er;generalize d-eB (dw d)=r at*;generalize ey:dw d=y at*;generalize min (d % 1461/365) 3=w;have Jg:=bO.zG y;have hlp:=bO.uA y
 have ajZ:((jX y (r/31+1).toNat:Nat):Int)<=r:=by
  have:=bO.MB y (r/31).toNat;rw[show(r/31+1).toNat=(r/31).toNat+1 by lia]
  omega
 refine⟨by decide,⟨by decide,by decide⟩,⟨by decide,by decide⟩,.inl ⟨by decide,by decide⟩,.inl ⟨by decide,by decide⟩,⟨by decide,by decide⟩,?_⟩
 refine⟨λk σ H'=>∃m:Int,σ=[some (.int d),some (.int r),some (.int w),some (.int y),some (.int m)]/\(1<=m/\m<=12)/\((jX y m.toNat:Nat):Int)<=r/\(k:Int)=13-m/\H'=H,
  ⟨(12-r/31).toNat,_,rfl,by omega,ajZ,by lia,rfl⟩,?_⟩
 rintro k σ H' ⟨m,rfl,hm,hb,hk,rfl⟩
 tm_at "r"
 refine⟨by grind,?_⟩;split
 ·rename_i c
  have c:=of_decide_eq_true c;refine⟨_,λv v z=>z,k-1,by omega,m+1,rfl,?_,c,by lia,rfl⟩
  have:m≠12:=λe=>by
   subst e;have c:((jX y 13:Nat):Int)<=r:=c;lia
  lia
 ·rename_i c
  have c:¬((jX y (m+1).toNat:Nat):Int)<=r:=λz=>c (decide_eq_true z);have em:(m+1).toNat=m.toNat+1:=by lia
  rw[em] at c;have e:=mo m.toNat (by grind) (by simp[*]) hb (by lia);refine⟨by lia,λx dx nx ndx ne=>?_⟩;simp only[au,true_and];refine h _ x ?_ ⟨dx,?_⟩
  ·intro b o Ji
   rw[qM,aI (bV Ji nx),aI (bV Ji ndx)];exact Ji
  ·have e1:((m.toNat:Nat):Int)=m:=by grind
   have e2:(((r-jX y m.toNat+1).toNat:Nat):Int)=r-jX y m.toNat+1:=by grind
   rw[au,e,ey];simp only[e1,e2]
theorem ZI(ok:aK p)(h:∀H',ah H H'->Q (.bl (bO.sD d)) H'):ak (G p 12 1) Fi (fin Q) [some (.int d),none] H:=by
 unfold Fi;tm_at "r"
 by_cases c:((ju d:Nat):Int)=6
 ·simp only[c,decide_true,bH,aL,if_false]
  intro H1 x s1 ⟨dx,hx⟩;simp only[lN ok hx]
  tm_at "r"
  exact h H1 s1
 ·have e:bO.sD d=false:=bO.afo (by lia)
  rw[e] at h;simp only[c,decide_false,jP,if_true];exact h H (ah.refl H)
theorem T9(h:Q (.int (6-ju (eB y))) H):ak (G p 13 0) CS (fin Q) [some (.int y)] H:=by
 unfold CS;tm_at "r";exact h
theorem aa5(ha:H a=some (.lst xs))(h:Q (xs.headD .az) H):ak (G p 15 0) F7 (fin Q) [some (.ref a)] H:=by
 unfold F7;tm_at "r";simp only[bE,bM ha];cases xs with
 |nil=>simpa using h
 |cons x l=>simpa[d8] using h
theorem ZJ(h:Q (.bl (dS 1 eE a&&(dS 1 eE b&&(decide (a<=b)&&decide (b<a+qW))))) H):ak (G p 20 0) Fj (fin Q) [some (.int a),some (.int b)] H:=by
 unfold Fj;tm_at "r"
 have e:(decide (0<=b-a)&&decide (b-a<=2))=(decide (a<=b)&&decide (b<a+qW)):=by
  unfold qW;rw[aT];simp;lia
 rw[e];exact h
theorem aa6(ha:H a=some (.tup ((gx f).map V.int)))(h:Q (.bl (iF f)) H):ak (G p 21 0) F9 (fin Q) [some (.ref a),none,none,none,none] H:=by
 unfold F9;simp only[gx,aV,bB] at ha
 tm_at "r";simp only[aO ha];tm_at "r"
 unfold iF at h
 by_cases c:f.moves=0
 ·have c':((f.moves:Nat):Int)=0:=by simp[*]
  simp only[c,if_true] at h;simp only[c',decide_true,if_true]
  have e:∀z,(decide (0<=((f.m:Nat):Int))&&(decide (0<=((f.d:Nat):Int))&&qI 1 ((f.m:Nat):Int).toNat ((f.d:Nat):Int).toNat)&&z)=(decide (1<=f.m)&&(decide (f.m<=12)&&(decide (1<=f.d)&&(decide (f.d<=v5 1 f.m)&&z)))):=by
   intro z;unfold qI dS eE;rw[aT];simp;constructor
   ·rintro⟨⟨h1,h2,h3,h4⟩,h5⟩;exact⟨by omega,by omega,by omega,by omega,h5⟩
   ·rintro⟨h1,h2,h3,h4,h5⟩;exact⟨⟨by lia,by lia,by lia,by lia⟩,h5⟩
  have eo:(f.off==0)=decide (f.off=0):=by by_cases z:f.off=0<;>simp[z]
  rw[eo] at h;rw[e];exact h
 ·have c':¬((f.moves:Nat):Int)=0:=by simp[*]
  simp only[c,if_false] at h;simp only[c',decide_false,aL,if_false]
  have e:(decide (((f.moves:Nat):Int)=1)&&(decide (((f.m:Nat):Int)=0)&&(decide (((f.d:Nat):Int)=0)&&(decide (-90<=f.off)&&decide (f.off<=200)))))=(f.moves==1&&(f.m==0&&(f.d==0&&dS (-90) 200 f.off))):=by
   unfold dS;rw[aT];simp;omega
  rw[e];exact h
theorem ZK(ha:H a=some (.tup ((gx f).map V.int)))(hf:iF f=true)(h:Q (.int (bO.fd f y)) H):ak (G p 26 0) Fl (fin Q) [some (.ref a),some (.int y)] H:=by
 unfold Fl;simp only[gx,aV,bB] at ha
 tm_at "r";simp only[aO ha];tm_at "r"
 unfold bO.fd at h
 by_cases c:f.moves=0
 ·have c':((f.moves:Nat):Int)=0:=by lia
  simp only[c,if_true] at h;simp only[c',decide_true,if_true];unfold iF at hf;simp[c] at hf;simp only[aO ha];tm_at "r";exact⟨by grind,h⟩
 ·have c':¬((f.moves:Nat):Int)=0:=by lia
  simp only[c,if_false] at h;simp only[c',decide_false,aL,if_false];simp only[aO ha];tm_at "r";exact h
theorem Wx(ok:aK p)(ha:H a=some (.tup ((gx f).map V.int)))(hf:iF f=true)(h:∀H',ah H H'->Q (.bl (i6 f d)) H'):ak (G p 27 1) DW (fin Q) [some (.ref a),some (.int d),none] H:=by
 have iC:=ha;simp only[gx,aV,bB] at ha;unfold DW;tm_at "r";cases hd:bZ d with
 |false=>
  have e:i6 f d=false:=by unfold i6;rw[hd];rfl
  rw[e] at h;exact h H (ah.refl H)
 |true=>
  simp only[bH,aL,if_false];simp only[aO ha];tm_at "r"
  by_cases c:f.moves=0
  ·rw[bO.Zl hf c hd] at h
   have c':((f.moves:Nat):Int)=0:=by lia
   simp only[c',decide_true,if_true];intro H1 x s1 ⟨dx,hx⟩;simp only[kM ok hx,aO (s1 _ _ ha)];tm_at "r";simp only[lT ok hx,aO (s1 _ _ ha)];tm_at "r";exact h H1 s1
  ·rw[bO.Zm hf c hd] at h
   have c':¬((f.moves:Nat):Int)=0:=by lia
   simp only[c',decide_false,aL,if_false];simp only[aO ha];tm_at "r";exact h
theorem ZL(ok:aK p)(hx:gO p H x d)(h:Q (.int (bU y (cg d).1 (cg d).2)) H):ak (G p 28 1) Fo (fin Q) [some (.ref x),some (.int y)] H:=by
 unfold Fo;tm_at "r";have hm:=bO.FY d;obtain⟨dx,hx⟩:=hx;simp only[kM ok hx,lT ok hx];exact⟨by grind,h⟩
theorem YB(ok:aK p)(ha:H a=some (.tup ((dZ r).map V.int)))(hx:gO p H x d)(h:∀H',ah H H'->Q (.int (tX r d)) H'):ak (G p 29 1) EM (fin Q) [some (.ref a),some (.ref x),none,none] H:=by
 unfold EM;simp only[dZ,aV,bB] at ha;obtain⟨dx,hx⟩:=hx
 tm_at "r";simp only[m5 ok hx,aO ha];tm_at "r"
 have ey:∀b,r.has d=b->tX r d=if b then (if bU (dw d) (cg r.first).1 (cg r.first).2<=d then dw d-dw r.first+1 else dw d-dw r.first) else 0:=by
  intro b e;unfold tX;rw[e];cases b
  ·rfl
  ·simp only[if_true,bO.adV,show dw r.first+(dw d-dw r.first)=dw d by simp+arith]
 by_cases c1:d<r.first
 ·rw[ey false (by unfold vZ dS;simp;grind)] at h
  simpa[c1] using h H (ah.refl H)
 simp only[c1,decide_false,aL,if_false,m5 ok hx,aO ha]
 tm_at "r"
 by_cases c2:r.last<d
 ·rw[ey false (by unfold vZ dS;simp;simp[*])] at h
  simpa[c2] using h H (ah.refl H)
 simp only[c2,decide_false,aL,if_false,aO ha]
 tm_at "r"
 rw[ey true (by unfold vZ dS;simp;simp_all)] at h;intro H2 z s2 hz;have r_:=hz;obtain⟨dz,hz⟩:=hz;simp only[lN ok hz,lN ok (s2 _ _ hx)]
 tm_at "r"
 simp only[m5 ok (s2 _ _ hx),lN ok (s2 _ _ hx)];refine⟨_,_,_,rfl,r_,?_⟩
 tm_at "r"
 have:=h H2 s2
 by_cases c3:bU (dw d) (cg r.first).1 (cg r.first).2<=d
 ·simpa[c3] using this
 ·simpa[c3] using this
theorem aa7(ok:aK p)(hx:gO p H x d)(h:∀H' a,ah H H'->H' a=some (.tup [.int (g6 d).1,.int (g6 d).2.1,.int (g6 d).2.2])->Q (.ref a) H'):ak (G p 14 1) F6 (fin Q) [some (.ref x),none,none,none] H:=by
 unfold F6;tm_at "r";obtain⟨m1,m2,k1,k2,_⟩:=bO.FY d;obtain⟨dx,hx⟩:=hx;simp only[kM ok hx,lT ok hx,lN ok hx]
 have hn:((wB (cg d).1:Nat):Int)=if decide (((cg d).1:Int)∈[3,5,7,10])=true then 7 else 5:=by
  unfold wB
  by_cases c:(cg d).1=3\/(cg d).1=5\/(cg d).1=7\/(cg d).1=10
  ·rw[if_pos c,if_pos (by simp;lia)];rfl
  ·rw[if_neg c,if_neg (by simp;lia)];rfl
 rw[←hn]
 have tup:∀(H2:Hp)(a b c:Int),ah H H2->(a,b,c)=(((g6 d).1:Int),((g6 d).2.1:Int),((g6 d).2.2:Int))->[V.int a,V.int b,V.int c].length<=sizeLine/\∀q,H2 q=none->Q (.ref q) (upd H2 q (.tup [.int a,.int b,.int c])):=by
  intro H2 a b c s e;injection e with e1 e;injection e with e2 e3;subst e1 e2 e3;exact⟨by show 3<=sizeLine;decide,λq hq=>h _ q (ah.upd s hq) au⟩
 have er:g6 d=if (cg d).2=1 then ((cg d).1,0,1) else if (cg d).2<=wB (cg d).1 then ((cg d).1,1,wB (cg d).1-(cg d).2+1) else if (cg d).2<=OO (cg d).1 then ((cg d).1,2,OO (cg d).1-(cg d).2+1) else ((cg d).1 % 12+1,0,v5 (dw d) (cg d).1-(cg d).2+2):=rfl
 have ei:OO (cg d).1=wB (cg d).1+8:=rfl;rw[ei] at er;clear hn h;generalize (cg d).1=m at*;generalize (cg d).2=k at*;generalize wB m=n at*
 tm_at "r"
 by_cases c1:k=1
 ·have Jj:(k:Int)=1:=by simp[*]
  simp only[Jj,decide_true,if_true,kM ok hx];refine tup _ _ _ _ (ah.refl H) ?_;rw[er,if_pos c1];rfl
 ·have Jj:¬(k:Int)=1:=by lia
  simp only[Jj,decide_false,aL,if_false,lT ok hx]
  tm_at "r"
  by_cases c2:k<=n
  ·have pZ:(k:Int)<=n:=by simp[*]
   simp only[pZ,decide_true,if_true,kM ok hx,lT ok hx]
   tm_at "r"
   refine tup _ _ _ _ (ah.refl H) ?_;rw[er,if_neg c1,if_pos c2];refine oO rfl (oO rfl ?_);show(n:Int)-k+1=((n-k+1:Nat):Int)
   grind
  ·have pZ:¬(k:Int)<=n:=by simp[*]
   simp only[pZ,decide_false,aL,if_false,lT ok hx]
   tm_at "r"
   by_cases c3:k<=n+8
   ·have sG:(k:Int)<=n+8:=by lia
    simp only[sG,decide_true,if_true,kM ok hx,lT ok hx]
    tm_at "r"
    refine tup _ _ _ _ (ah.refl H) ?_;rw[er,if_neg c1,if_neg c2,if_pos c3];refine oO rfl (oO rfl ?_);show(n:Int)+8-k+1=((n+8-k+1:Nat):Int)
    grind
   ·have sG:¬(k:Int)<=n+8:=by lia
    simp only[sG,decide_false,aL,if_false,lN ok hx,kM ok hx];simp only[lT ok hx,kM ok hx]
    tm_at "r"
    simp only[kM ok hx]
    tm_at "r"
    refine⟨by lia,by decide,?_⟩;refine tup _ _ _ _ (ah.refl H) ?_;rw[er,if_neg c1,if_neg c2,if_neg c3];simp only[fG];refine oO ?_ (oO rfl ?_)
    ·show(m:Int) % 12+1=((m % 12+1:Nat):Int)
     simp
    ·show((v5 (dw d) m:Nat):Int)-k+2=((v5 (dw d) m-k+2:Nat):Int)
     grind
theorem aa8(h:Q (.bl (decide (0<=s)&&decide (s<=5))) H):ak (G p 75 0) Ga (fin Q) [some (.int s)] H:=by
 unfold Ga;tm_at "r";exact h
theorem Wy(hx:gO p H x d)(ha:0<=a/\a<=1)(h:Q (.int (vL a.toNat d)) H):ak (G p 78 1) D9 (fin Q) [some (.ref x),some (.int a),none] H:=by
 unfold D9;tm_at "r"
 have e:vL a.toNat d=(tL (if a=0 then 5 else 0) d+2) % 15+1:=by
  unfold vL Se.indiction
  by_cases c:a=0
  ·simp[c]
  ·have:¬a.toNat=0:=by(simp;lia)
   simp[c,this]
 rw[e] at h
 by_cases c:a=0
 ·simp only[c,decide_true,if_true]
  rw[if_pos c] at h;exact⟨_,_,_,rfl,hx,by simp,by decide,h⟩
 ·simp only[c,decide_false,aL,if_false]
  rw[if_neg c] at h;exact⟨_,_,_,rfl,hx,by simp,by decide,h⟩
structure PF(p:Pa):Prop where
 ex:∀s:Int,(0<=s/\s<=5/\s≠4)->∃a m d,p.gd 0 s=some (.ref a)/\(∀H,aP p.K H a [.int m,.int d])/\(1<=m/\m<=12)/\0<=d/\∀y,bO.turn s.toNat y=bU y m.toNat d.toNat
theorem acw(ok:PF p)(hs:0<=s/\s<=5)(h:Q (.int (bO.turn s.toNat y)) H):ak (G p 76 0) GL (fin Q) [some (.int y),some (.int s),none] H:=by
 unfold GL;tm_at "r"
 by_cases c:s=4
 ·subst c
  simp only[decide_true,if_true];exact h
 ·simp only[c,decide_false,aL,if_false]
  obtain⟨a,m,d,e1,e2,e3,e5,e4⟩:=ok.ex s ⟨hs.1,hs.2,c⟩;simp only[e1,rO];refine⟨_,_,.inr (e2 H),d8,_,_,.inr (e2 H),iA,e3,?_⟩;have:=e4 y;unfold bU at this;rw[show(d:Int)-1=((d.toNat:Nat):Int)-1 by lia,←this];exact h
theorem YC(ok:aK p)(hx:gO p H x d)(hs:0<=s/\s<=5)(h:Q (.int (tL s.toNat d)) H):ak (G p 77 1) ES (fin Q) [some (.ref x),some (.int s),none,none] H:=by
 unfold ES;tm_at "r";rw[bO.Lg] at h;unfold bO.pO at h;obtain⟨dx,hx⟩:=hx;simp only[lN ok hx]
 have ha:bO.ahead s.toNat=if decide (s∈[2,3,5])=true then 1 else 0:=by
  have:s=0\/s=1\/s=2\/s=3\/s=4\/s=5:=by lia
  rcases this with rfl|rfl|rfl|rfl|rfl|rfl<;>rfl
 rw[ha] at h
 tm_at "r"
 by_cases c:decide (s∈[2,3,5])=true
 ·simp only[c,if_true] at h ⊢
  simp only[m5 ok hx];refine⟨hs,?_⟩
  tm_at "r"
  by_cases c2:bO.turn s.toNat (dw d)<=d
  ·simpa[c2] using h
  ·simpa[c2] using h
 ·simp only[c,if_false] at h ⊢
  simp only[m5 ok hx];refine⟨hs,?_⟩
  tm_at "r"
  by_cases c2:bO.turn s.toNat (dw d)<=d
  ·simpa[c2] using h
  ·simpa[c2] using h
theorem Ny(bs:List Bool):pB (bs.map V.bl)=some bs:=by
 induction bs with
 |nil=>rfl
 |cons n l ih=>simp only[aV,pB,ih];rfl
theorem Nz(f:Nat->V)(n:Nat):flat (λi=>some (f i)) n=(cS n).map f:=by
 unfold flat
 induction (cS n) with
 |nil=>rfl
 |cons x l ih=>simp[ih]
theorem Au{bs:List Bool}(h:H D=some (.lst (bs.map V.bl))):cu .any [.ref D] H Q=Q (.bl (bs.any id)) H:=by
 simp only[cu,h,Ny]
theorem HP{bs:List Bool}(h:H D=some (.lst (bs.map V.bl))):cu .all [.ref D] H Q=Q (.bl (bs.all id)) H:=by
 simp only[cu,h,Ny]
theorem T_(ha:H a=some (.tup ((gx f).map V.int)))(hf:iF f=true)(haf:af=0\/af=1)(h:∀H',ah H H'->Q (.bl (decide ((ju d:Int)=wd)&&(cS 7).any λi=>i6 f (if af=0 then d+1+(i:Int) else d-1-(i:Int)))) H'):
 ak (G p 81 1) CW (fin Q) [some (.ref a),some (.int d),some (.int wd),some (.int af),none,none] H:=by
 unfold CW;tm_at "r"
 by_cases c:(ju d:Int)=wd
 ·simp only[c,decide_true,bH,aL,if_false,gu] at h ⊢
  have key:∀(D:Addr)(H':Hp)(g:Nat->Int),(∀i,g i=if af=0 then d+1+(i:Int) else d-1-(i:Int))->ah H H'->H' D=some (.lst (flat (λi=>some (.bl (i6 f (g i)))) 7))->cu .any [.ref D] H' Q:=by
   intro D H' g hg s e
   have e2:flat (λi=>some (.bl (i6 f (g i)))) 7=((cS 7).map λi=>i6 f (g i)).map V.bl:=by
    rw[Nz (λi=>.bl (i6 f (g i)))];simp
   rw[e2] at e;rw[Au e];have:=h H' s;simpa[qu,hg,Ku] using this
  rcases haf with rfl|rfl
  ·rw[if_neg (by decide)]
   refine Je (n:=7) (lo:=1) (H1:=H) (λi=>some (.bl (i6 f (d+1*(1+(i:Int)))))) (λR r=>by simp only[sI];tm_at "r";exact⟨by decide,r⟩) (by decide) (λv=>rfl) (λi H' hi s R hR=>?_) λH' D s e=>key D H' _ (λi=>by simp;simp+arith) s e;simp only[wipe]
   tm_at "r"
   exact⟨.inl ⟨by decide,by decide⟩,a,f,_,rfl,s _ _ ha,hf,hR⟩
  ·rw[if_pos (by decide)]
   refine Je (n:=7) (lo:=1) (H1:=H) (λi=>some (.bl (i6 f (d+ -1*(1+(i:Int)))))) (λR r=>by simp only[sI];tm_at "r";exact⟨by decide,r⟩) (by decide) (λv=>rfl) (λi H' hi s R hR=>?_) λH' D s e=>key D H' _ (λi=>by simp;simp+arith) s e;simp only[wipe]
   tm_at "r"
   exact⟨.inl ⟨by decide,by decide⟩,a,f,_,rfl,s _ _ ha,hf,hR⟩
 ·simp only[c,decide_false,jP,if_true,mP] at h ⊢
  exact h H (ah.refl H)
theorem LY{b:cP}(h:b.fault=none):(dS 1 eE b.from_&&(dS 1 eE b.to_&&(decide (b.from_<=b.to_)&&decide (b.to_<b.from_+qW))))=true/\b.feasts.length<=16/\b.reigns.length<=16/\(∀f∈b.feasts,iF f=true)/\(∀r∈b.reigns,tM r=true):=by
 unfold Lb at h;split at h
 ·cases h
 rename_i c1;split at h
 ·cases h
 rename_i c2;split at h
 ·cases h
 rename_i c3;split at h
 ·cases h
 rename_i c4;rw[JY] at h;refine⟨by simpa using c1,by unfold mX at c2;simp_all,by unfold mX at c3;simp_all,?_,?_⟩
 ·intro f hf
  have:=Co.mp c4 f hf;simpa using this
 ·intro f hf
  have:=Co.mp h f hf;simpa using this
theorem tS(ok:aK p)(h:H a=some (.ins (p.cl 1) dx (l8 y z f r))):dX p.K "feasts" (.ref a) H Q=Q (.ref f) H:=f9 ok h (by decide) (by decide) rfl
theorem tT(ok:aK p)(h:H a=some (.ins (p.cl 1) dx (l8 y z f r))):dX p.K "reigns" (.ref a) H Q=Q (.ref r) H:=f9 ok h (by decide) (by decide) rfl
theorem jw{f:Addr}{n:Nat}{r:List Int}(h:aZ H f rs)(e:rs[n]?=some r):∃(x:Addr)(xs:List V),H x=some (.tup (r.map V.int))/\rd H f=some xs/\cF xs (n:Int)=some (.ref x):=by
 obtain⟨xs,h1,h2,_⟩:=h;obtain⟨x,g1,g2⟩:=(wj h2).2 n r e;exact⟨x,xs,g2,bM h1,qO g1⟩
theorem G7(hb:b.fault=none)(hn:n<b.feasts.length):(b.feasts.map gx)[n]?=some (gx (lK b n))/\iF (lK b n)=true:=by
 have e:lK b n=b.feasts[n]:=by unfold lK;simp[hn]
 rw[e];exact⟨by simp[hn],(LY hb).2.2.2.1 _ (Kz hn)⟩
theorem NB(hb:b.fault=none)(hn:n<b.reigns.length):(b.reigns.map dZ)[n]?=some (dZ (tV b n))/\tM (tV b n)=true:=by
 have e:tV b n=b.reigns[n]:=by unfold tV;simp[hn]
 rw[e];exact⟨by simp[hn],(LY hb).2.2.2.2 _ (Kz hn)⟩
theorem bG(e:σ[3]?=some (some (.int k)))(ne:¬k=i)(h:ak Γ R D σ H):ak Γ (.cons (.ifs (.cmp (.var 3) (.one .eq (.cst (.int i)))) A .nil) R) D σ H:=by
 simp only[ak,sS,sT,sE,sC,e,xr,lX,ne,decide_false,aL,if_false];exact h
theorem hit(e:σ[3]?=some (some (.int k)))(eq:k=i)(h:ak Γ A {D with nx:=ak Γ R D} σ H):ak Γ (.cons (.ifs (.cmp (.var 3) (.one .eq (.cst (.int i)))) A .nil) R) D σ H:=by
 simp only[ak,sS,sT,sE,sC,e,xr,lX,eq,decide_true,if_true];exact h
noncomputable def hmS:Ss:=match zx with
 | .cons _ (.cons _ (.cons _ (.cons _ r)))=>r
 |_=>.nil
theorem aiK:zx=.cons (.set 3 (.ix (.var 2) (.cst (.int 0)))) (.cons (.set 4 (.ix (.var 2) (.cst (.int 1)))) (.cons (.set 5 (.ix (.var 2) (.cst (.int 2)))) (.cons (.set 6 (.ix (.var 2) (.cst (.int 4)))) hmS))):=rfl
theorem aa9(ok:aK p)(ha:bA p H a b)(hb:b.fault=none)(hz:gO p H z d)(hd:bZ d=true)(hm:rd H m=some ((iL k).map V.int))(hk:k.right b=true)(h:∀H',ah H H'->Q (.bl (cD b d k)) H'):ak (G p 82 1) zx (fin Q) [some (.ref a),some (.ref z),some (.ref m),none,none,none,none] H:=by
 rw[aiK];simp only[iL,aV,bB] at hm
 tm_at "r";simp only[hm];tm_at "r"
 obtain⟨kind,A,B,C,X⟩:=k;dsimp only;obtain⟨dx,fr,rr,hs,rZ,hrr⟩:=ha;have r_:=hz;obtain⟨dz,hz⟩:=hz
 match kind,hk,h with
 |0,hk,h=>
  refine hit rfl rfl ?_
  tm_at "r"
  simp only[kM ok hz];tm_at "r";simp only[lT ok hz];tm_at "r";have:=h H (ah.refl H)
  have e:cD b d ⟨0,A,B,C,X⟩=(decide (((cg d).1:Int)=A)&&decide (((cg d).2:Int)=B)):=by
   show(cg d==(A,B))=_;rw[aT];simp only[beq_iff_eq,bx,decide_eq_true_eq,Y_]
   (constructor<;>lia)
  rw[e] at this;exact this
 |1,hk,h=>
  refine bG rfl (by decide) (hit rfl rfl ?_)
  tm_at "r"
  refine⟨_,_,rfl,r_,λH1 x s1 hx=>?_⟩;refine⟨by show 3<=sizeLine;decide,λq hq=>?_⟩;have nq:x≠q:=bV hx hq;have:=h (upd H1 q (.tup [.int A,.int B,.int X])) (ah.upd s1 hq)
  have hX:1<=X:=by
   have:dS 1 19 X=true:=by
    simp[mS] at hk;exact hk.2.2.2.2
   unfold dS at this;simp at this;simp[*]
  have e:cD b d ⟨1,A,B,C,X⟩=decide ([((g6 d).1:Int),((g6 d).2.1:Int),((g6 d).2.2:Int)]=[(A:Int),(B:Int),X]):=by
   show(g6 d==(A,B,X.toNat))=_;rw[aT];simp only[beq_iff_eq,decide_eq_true_eq,Y_,V5,and_true]
   (constructor<;>grind)
  rw[e] at this;simp only[dW,aI nq,hx,au,ints?,kH];exact this
 |2,hk,h=>
  refine bG rfl (by decide) (bG rfl (by decide) (hit rfl rfl ?_))
  tm_at "r"
  simp only[m5 ok hz];have:=h H (ah.refl H)
  have e:cD b d ⟨2,A,B,C,X⟩=decide (((ju d:Nat):Int)=(A:Int)):=by
   show(ju d==A)=_;rw[aT];simp only[beq_iff_eq,decide_eq_true_eq];(constructor<;>lia)
  rw[e] at this;exact this
 |3,hk,h=>
  refine bG rfl (by decide) (bG rfl (by decide) (bG rfl (by decide) (hit rfl rfl ?_)))
  tm_at "r"
  have hA:A<=5:=by simp[mS] at hk;exact hk.1
  refine⟨_,_,_,rfl,r_,⟨by simp,by lia⟩,?_⟩;have:=h H (ah.refl H)
  have e:cD b d ⟨3,A,B,C,X⟩=decide (tL A d=X):=by
   show Gi A X d=_;rw[bO.E8 A,bO.Lg A];rw[aT];simp only[decide_eq_true_eq];exact eq_comm
  rw[e] at this;simpa using this
 |4,hk,h=>
  refine bG rfl (by decide) (bG rfl (by decide) (bG rfl (by decide) (bG rfl (by decide) (hit rfl rfl ?_))))
  tm_at "r"
  have hA:A<=1:=by simp[mS] at hk;exact hk.1
  refine⟨_,_,_,rfl,r_,⟨by lia,by lia⟩,?_⟩;have:=h H (ah.refl H)
  have e:cD b d ⟨4,A,B,C,X⟩=decide (vL A d=X):=by
   show(vL A d==X)=_;rw[aT];simp
  rw[e] at this;simpa using this
 |5,hk,h=>
  refine bG rfl (by decide) (bG rfl (by decide) (bG rfl (by decide) (bG rfl (by decide) (bG rfl (by decide) (hit rfl rfl ?_)))))
  tm_at "r"
  simp only[tS ok hs];have hA:A<b.feasts.length:=by simp[mS] at hk;exact hk.1
  obtain⟨e1,e2⟩:=G7 hb hA;obtain⟨x,xs,g1,g2,g3⟩:=jw rZ e1;simp only[g2,g3,m5 ok hz]
  tm_at "r"
  exact⟨x,_,_,rfl,g1,e2,h⟩
 |6,hk,h=>
  refine bG rfl (by decide) (bG rfl (by decide) (bG rfl (by decide) (bG rfl (by decide) (bG rfl (by decide) (bG rfl (by decide) (hit rfl rfl ?_))))))
  tm_at "r"
  simp only[tS ok hs];have hA:A<b.feasts.length/\B<=6/\C<=1:=by simp[mS] at hk;exact⟨hk.1,hk.2.1,hk.2.2.1⟩
  obtain⟨e1,e2⟩:=G7 hb hA.1;obtain⟨x,xs,g1,g2,g3⟩:=jw rZ e1;simp only[g2,g3,hm,m5 ok hz]
  tm_at "r"
  refine⟨x,_,_,_,_,rfl,g1,e2,by lia,λH1 s1=>?_⟩;have:=h H1 s1
  have e:cD b d ⟨6,A,B,C,X⟩=(decide ((ju d:Int)=(B:Int))&&(cS 7).any λi=>i6 (lK b A) (if (C:Int)=0 then d+1+(i:Int) else d-1-(i:Int))):=by
   show(ju d==B&&(cS 7).any λ(i:Nat)=>(lK b A).on (if C=0 then d+1+(i:Int) else d-1-(i:Int)))=_;congr 1
   ·rw[aT];simp only[beq_iff_eq,decide_eq_true_eq];lia
   ·by_cases c:C=0
    ·subst c;rfl
    ·have c':¬(C:Int)=0:=by simp[*]
     simp only[c,c',if_false]
  rw[e] at this;exact this
 |7,hk,h=>
  refine bG rfl (by decide) (bG rfl (by decide) (bG rfl (by decide) (bG rfl (by decide) (bG rfl (by decide) (bG rfl (by decide) (bG rfl (by decide) (hit rfl rfl ?_)))))))
  tm_at "r"
  simp only[tT ok hs];have hA:A<b.reigns.length:=by simp[mS] at hk;exact hk.1
  obtain⟨e1,e2⟩:=NB hb hA;obtain⟨x,xs,g1,g2,g3⟩:=jw hrr e1;simp only[g2,g3];refine⟨x,_,_,_,rfl,g1,r_,λH1 s1=>?_⟩;have:=h H1 s1
  have e:cD b d ⟨7,A,B,C,X⟩=decide (tX (tV b A) d=X):=by
   show(tX (tV b A) d==X)=_;rw[aT];simp
  rw[e] at this;exact this
 |8,hk,h=>
  refine bG rfl (by decide) (bG rfl (by decide) (bG rfl (by decide) (bG rfl (by decide) (bG rfl (by decide) (bG rfl (by decide) (bG rfl (by decide) (bG rfl (by decide) (hit rfl rfl ?_))))))))
  tm_at "r"
  simp only[lN ok hz]
  tm_at "r"
  refine⟨by decide,?_⟩;have:=h H (ah.refl H)
  have e:cD b d ⟨8,A,B,C,X⟩=decide (dw d % 19+1=X):=by
   show(dw d % 19+1==X)=_;rw[aT];simp
  rw[e] at this;exact this
 |9,hk,h=>
  refine bG rfl (by decide) (bG rfl (by decide) (bG rfl (by decide) (bG rfl (by decide) (bG rfl (by decide) (bG rfl (by decide) (bG rfl (by decide) (bG rfl (by decide) (bG rfl (by decide) ?_))))))))
  tm_at "r"
  simp only[lN ok hz];have hA:A<=6:=by simp[mS] at hk;exact hk.1
  have:=h H (ah.refl H);have e:cD b d ⟨9,A,B,C,X⟩=decide (6-((ju (eB (dw d)):Nat):Int)=(A:Int)):=bO.ab1 _ _ hA;rw[e] at this;exact this
 |n+10,hk,h=>cases hk
theorem KY(ok:aK p)(h:H a=some (.ins (p.cl 1) dx (l8 y z f r))):dX p.K "first_year" (.ref a) H Q=Q (.int y) H:=f9 ok h (by decide) (by decide) rfl
theorem K6(ok:aK p)(h:H a=some (.ins (p.cl 1) dx (l8 y z f r))):dX p.K "last_year" (.ref a) H Q=Q (.int z) H:=f9 ok h (by decide) (by decide) rfl
theorem qK(h:aZ H f rs):∃xs:List V,H f=some (.lst xs)/\xs.length=rs.length/\rs.length<=70000/\∀(i:Nat)(r:List Int),rs[i]?=some r->∃x:Addr,xs[i]?=some (V.ref x)/\H x=some (.tup (r.map V.int)):=by
 obtain⟨xs,h1,h2,h3,_⟩:=h;obtain⟨e,g⟩:=wj h2;exact⟨xs,h1,e,h3,g⟩
theorem dN(h:aZ H f rs):cu .len [.ref f] H Q=Q (.int (rs.length:Nat)) H:=by
 obtain⟨xs,h1,e,_,_⟩:=qK h;simp only[cu,bM h1,e]
theorem UE(ok:aK p)(ha:bA p H a b)(h:∀H',ah H H'->Q (bF (oQ b)) H'):ak (G p 23 2) C8 (fin Q) [some (.ref a)] H:=by
 unfold C8;tm_at "r";obtain⟨dx,fr,rr,hs,hf,hr⟩:=ha;have:=h H (ah.refl H);unfold oQ at this;simp only[KY ok hs,K6 ok hs];simp only[tS ok hs,tT ok hs,dN hf,dN hr,aU]
 tm_at "r"
 simp only[tT ok hs,dN hr,aU]
 tm_at "r"
 by_cases c1:(dS 1 eE b.from_&&(dS 1 eE b.to_&&(decide (b.from_<=b.to_)&&decide (b.to_<b.from_+qW))))=true
 ·simp only[c1,Bool.true_eq_false,if_false,bH,aL] at this ⊢
  by_cases c2:mX<b.feasts.length
  ·have pZ:(16:Int)<(b.feasts.length:Nat):=by unfold mX at c2;omega
   simp only[c2,if_true] at this;simpa[pZ,bF] using this
  ·have pZ:¬(16:Int)<(b.feasts.length:Nat):=by unfold mX at c2;lia
   simp only[c2,if_false] at this
   by_cases c3:mX<b.reigns.length
   ·have sG:(16:Int)<(b.reigns.length:Nat):=by unfold mX at c3;lia
    simp only[c3,if_true] at this;simpa[pZ,sG,bF] using this
   ·have sG:¬(16:Int)<(b.reigns.length:Nat):=by unfold mX at c3;lia
    simp only[c3,if_false] at this;simpa[pZ,sG,bF] using this
 ·have c1:=sZ.mpr c1
  simp only[c1,if_true,jP] at this ⊢;exact this
theorem dO{α:Type}{g:α->List Int}{l:List α}(h:aZ H f (l.map g)):∃xs:List V,H f=some (.lst xs)/\xs.length=l.length/\l.length<=70000/\(∀(i:Nat)(v:V),xs[i]?=some v->∃(y:α)(x:Addr),l[i]?=some y/\v=V.ref x/\H x=some (.tup ((g y).map V.int))):=by
 obtain⟨xs,h1,e,n,k⟩:=qK h;refine⟨xs,h1,by simpa using e,by simpa using n,λi v hv=>?_⟩
 have hi:i<l.length:=by
  have:=(dF.mp hv).1;rw[e] at this;simpa using this
 obtain⟨x,g1,g2⟩:=k i (g l[i]) (by simp[hi]);rw[hv] at g1;exact⟨l[i],x,by simp[hi],dM g1,g2⟩
theorem Gf{α:Type}{g:α->List Int}{l:List α}(h:aZ H f (l.map g)){i:Nat}{y:α}(hy:l[i]?=some y):(g y).length<=70000:=by
 obtain⟨xs,_,_,_,h4⟩:=h;exact h4 _ (gH.mpr ⟨y,eO hy,rfl⟩)
theorem UG(ok:aK p)(ha:bA p H a b)(h:∀H',ah H H'->Q (bF (oS b)) H'):ak (G p 24 2) C9 (fin Q) [some (.ref a),none,none] H:=by
 unfold C9;tm_at "r";obtain⟨dx,fr,rr,hs,hf,hr⟩:=ha;obtain⟨xs,e1,e2,e3,e4⟩:=dO hf;refine jJ (a:=fr) (H1:=H) (xs:=xs) (λi=>if !((b.feasts[i]?).all iF) then some (.int (i:Nat)) else none) (λR r=>?_) e1 (by rw[e2];unfold sizeLine;lia) (λu v=>rfl) (λi v H' hv s R hR=>?_) λH' D s e=>?_
 ·simp only[sI];tm_at "r"
  simp only[tS ok hs];exact .inl ⟨xs,.of e1,r⟩
 ·obtain⟨f,x,g1,rfl,g2⟩:=e4 i v hv
  simp only[wipe]
  tm_at "r"
  refine⟨x,f,rfl,s _ _ g2,?_⟩;have:=hR H' (ah.refl H');simp only[g1,kG] at this;cases c:f.fine<;>simpa[c] using this
 ·simp only[e]
  have:=h H' s;unfold oS at this;rw[y_] at this;rw[e2,iH (l:=b.feasts) (P:=λz f=> !f.fine) λi f hf=>by simp[hf]];exact this
theorem UH(ok:aK p)(ha:bA p H a b)(h:∀H',ah H H'->Q (bF (oU b)) H'):ak (G p 25 2) C_ (fin Q) [some (.ref a),none,none] H:=by
 unfold C_;tm_at "r";obtain⟨dx,fr,rr,hs,hf,hr⟩:=ha;obtain⟨xs,e1,e2,e3,e4⟩:=dO hr;refine jJ (a:=rr) (H1:=H) (xs:=xs) (λi=>if !((b.reigns[i]?).all tM) then some (.int (i:Nat)) else none) (λR r=>?_) e1 (by rw[e2];unfold sizeLine;lia) (λu v=>rfl) (λi v H' hv s R hR=>?_) λH' D s e=>?_
 ·simp only[sI];tm_at "r"
  simp only[tT ok hs];exact .inl ⟨xs,.of e1,r⟩
 ·obtain⟨f,x,g1,rfl,g2⟩:=e4 i v hv
  have g2:=s _ _ g2;simp only[dZ,aV,bB] at g2;simp only[wipe]
  tm_at "r"
  simp only[aO g2]
  tm_at "r"
  have:=hR H' (ah.refl H');simp only[g1,kG] at this;cases c:f.fine<;>simpa[c] using this
 ·simp only[e]
  have:=h H' s;unfold oU at this;rw[y_] at this;rw[e2,iH (l:=b.reigns) (P:=λz f=> !f.fine) λi f hf=>by simp[hf]];exact this
theorem lM{α:Type}:∀{l:List α}{f:Nat->Option V}{g:α->Option V},(∀i x,l[i]?=some x->f i=g x)->flat f l.length=l.filterMap g
 |[],f,g,_=>rfl
 |y::l,f,g,h=>by
  have ih:=lM (l:=l) (f:=λi=>f (i+1)) (g:=g) λi x hx=>h (i+1) x (by simpa using hx);unfold flat at ih ⊢;rw[ck,yJ,nZ,nZ,Ke,h 0 y rfl];have e:(f ∘ Nat.succ)=λi=>f (i+1):=rfl;rw[e,ih]
theorem filterMap_some{α β:Type}(g:α->β)(l:List α):l.filterMap (λx=>some (g x))=l.map g:=by
 induction l with
 |nil=>rfl
 |cons y l ih=>simp[ih]
theorem Hz{α:Type}{l:List α}{g:α->Bool}(h:∀i x,l[i]?=some x->f i=some (.bl (g x))):flat f l.length=(l.map g).map V.bl:=by
 rw[lM (g:=λx=>some (.bl (g x))) h,filterMap_some,ff];rfl
theorem S8{ns:List Int}(ha:H a=some (.tup (ns.map V.int)))(h:Q (.bl (decide (1<=ns.length)&&decide (ns.length<=31))) H):ak (G p 32 2) CJ (fin Q) [some (.ref a)] H:=by
 unfold CJ;tm_at "r";simp only[cu,aO ha,aU]
 tm_at "r"
 have e1:decide ((1:Int)<=(ns.length:Nat))=decide (1<=ns.length):=by rw[aT];simp;omega
 have e2:decide (((ns.length:Nat):Int)<=31)=decide (ns.length<=31):=by rw[aT];simp;omega
 rw[e1,e2];exact h
theorem ZM(ha:H a=some (.tup (ns.map V.int)))(hn:ns.length<=70000)(h:∀H',ah H H'->Q (.bl (rf ns)) H'):ak (G p 33 2) Fq (fin Q) [some (.ref a),none] H:=by
 unfold Fq;tm_at "r";refine lcT (a:=a) (H1:=H) (xs:=ns.map V.int) (λi=>(ns[i]?).map λn=>V.bl (decide (97<=n)&&decide (n<=122))) (λR r=>?_) ha (by simp;unfold sizeLine;lia) (λv=>rfl) (λi v H' hv s R hR=>?_) λH' D s e=>?_
 ·simp only[sI];tm_at "r"
  exact .inr ⟨_,.of ha,r⟩
 ·simp only[eS,mO] at hv
  obtain⟨n,hn,rfl⟩:=hv;simp only[wipe]
  tm_at "r"
  have:=hR H' (ah.refl H');simp only[hn,kH] at this;cases c:decide (97<=n)<;>simpa[c] using this
 ·rw[aU,Hz (g:=λn=>decide (97<=n)&&decide (n<=122)) λi n hn=>by rw[hn];rfl] at e
  rw[HP e];have:=h H' s;unfold rf at this;rw[qv];exact this
theorem HA(xs:List V)(i j:Nat):fz xs (some (i:Int)) (some (j:Int))=(xs.drop i).take (j-i):=by
 unfold fz;rw[HT.wF,HT.wF]
 by_cases h:i<=xs.length
 ·rw[vH h]
  by_cases h2:j<=xs.length
  ·rw[vH h2]
  ·rw[Dn (by lia),jo (by rw[lu];simp),jo (by rw[lu];(simp;omega))]
 ·rw[show min i xs.length=xs.length by grind,yK (aY _),yK (by lia)];simp
theorem HQ(xs:List V)(j:Nat):fz xs none (some (j:Int))=xs.take j:=by
 unfold fz;rw[HT.wF,HT.M6]
 by_cases h2:j<=xs.length
 ·rw[vH h2];simp
 ·rw[Dn (by lia),jo (by simp),jo (by lia)];simp
theorem G8(xs:List V)(i:Nat):fz xs (some (i:Int)) none=xs.drop i:=by
 unfold fz;rw[HT.wF,HT.M6]
 by_cases h:i<=xs.length
 ·rw[vH h,jo (by rw[lu];lia)]
 ·rw[Dn (by lia),yK (aY _),yK (by lia)];simp
theorem LF(n:j3):rf (aX n)=n.all Se.isSmall:=by
 unfold rf aX;rw[qv];congr 1;funext c;unfold Se.isSmall;rw[aT];simp;omega
theorem Vx(ha:H a=some (.tup ((aX n).map V.int)))(hn:n.length<=70000)(h:∀H',ah H H'->Q (.bl (gJ false n)) H'):ak (G p 34 2) Dq (fin Q) [some (.ref a)] H:=by
 unfold Dq;tm_at "r";refine⟨a,aX n,rfl,ha,?_⟩;have el:(aX n).length=n.length:=by unfold aX;simp
 rw[el]
 have ef:gJ false n=((decide (1<=n.length)&&decide (n.length<=31))&&rf (aX n)):=by
  rw[LF];unfold gJ;cases n with
  |nil=>rfl
  |cons c r=>
   have e:decide (1<=(c::r).length)=true:=decide_eq_true (by simp);rw[e];rfl
 rw[ef] at h;cases c:(decide (1<=n.length)&&decide (n.length<=31)) with
 |false=>
  rw[c] at h;simp only[aL,if_false];exact h H (ah.refl H)
 |true=>
  rw[c] at h;simp only[if_true];exact⟨a,aX n,rfl,ha,by rw[el];exact hn,h⟩
theorem Ua(ha:H a=some (.tup ((aX n).map V.int)))(hn:n.length<=70000)(h:∀H',ah H H'->Q (.bl (gJ true n)) H'):ak (G p 35 2) CT (fin Q) [some (.ref a)] H:=by
 unfold CT;tm_at "r";refine⟨a,aX n,rfl,ha,?_⟩;have el:(aX n).length=n.length:=by unfold aX;simp
 rw[el];cases n with
 |nil=>exact h H (ah.refl H)
 |cons c r=>
  have e:decide (1<=(c::r).length)=true:=decide_eq_true (by simp)
  have ef:gJ true (c::r)=(decide ((c::r).length<=31)&&((decide ((65:Int)<=(c.toNat:Nat))&&decide (((c.toNat:Nat):Int)<=90))&&rf (aX r))):=by
   rw[LF];unfold gJ Se.isCapital;congr 2;rw[aT];simp;omega
  rw[ef] at h;rw[e,gu];simp only[aX,aV] at ha;cases c1:decide ((c::r).length<=31) with
  |false=>
   rw[c1] at h;simp only[aL,if_false];exact h H (ah.refl H)
  |true=>
   rw[c1] at h;simp only[if_true,aO ha]
   tm_at "r"
   cases c2:decide ((65:Int)<=(c.toNat:Nat)) with
   |false=>
    rw[c2] at h;simp only[aL,if_false];exact h H (ah.refl H)
   |true=>
    rw[c2] at h;simp only[if_true];cases c3:decide (((c.toNat:Nat):Int)<=90) with
    |false=>
     rw[c3] at h;simp only[aL,if_false];exact h H (ah.refl H)
    |true=>
     rw[c3] at h;simp only[if_true,jx,ha];refine⟨λq=>?_,λq hq=>⟨q,aX r,rfl,?_,?_,λH' s=>h H' ((ah.new hq).trans s)⟩⟩
     ·have:=q.1
      rw[show(1:Int)=((1:Nat):Int) from rfl,HT.wF] at this;simp at this
     ·rw[au,show(1:Int)=((1:Nat):Int) from rfl,G8];rfl
     ·have:(aX r).length=r.length:=by unfold aX;simp
      rw[this];simp at hn;(constructor<;>omega)
theorem GO(ok:aK p)(ha:H a=some (.ins (p.cl 2) dx (jF l pe o h s pl w se))):dX p.K "lives" (.ref a) H Q=Q (.ref l) H:=f9 ok ha (by decide) (by decide) rfl
theorem qx(ok:aK p)(ha:H a=some (.ins (p.cl 2) dx (jF l pe o h s pl w se))):dX p.K "persons" (.ref a) H Q=Q (.ref pe) H:=f9 ok ha (by decide) (by decide) rfl
theorem qy(ok:aK p)(ha:H a=some (.ins (p.cl 2) dx (jF l pe o h s pl w se))):dX p.K "offices" (.ref a) H Q=Q (.ref o) H:=f9 ok ha (by decide) (by decide) rfl
theorem oG(ok:aK p)(ha:H a=some (.ins (p.cl 2) dx (jF l pe o h s pl w se))):dX p.K "holds" (.ref a) H Q=Q (.ref h) H:=f9 ok ha (by decide) (by decide) rfl
theorem zL(ok:aK p)(ha:H a=some (.ins (p.cl 2) dx (jF l pe o h s pl w se))):dX p.K "seals" (.ref a) H Q=Q (.ref s) H:=f9 ok ha (by decide) (by decide) rfl
theorem lH(ok:aK p)(ha:H a=some (.ins (p.cl 2) dx (jF l pe o h s pl w se))):dX p.K "places" (.ref a) H Q=Q (.ref pl) H:=f9 ok ha (by decide) (by decide) rfl
theorem wm(ok:aK p)(ha:H a=some (.ins (p.cl 2) dx (jF l pe o h s pl w se))):dX p.K "ways" (.ref a) H Q=Q (.ref w) H:=f9 ok ha (by decide) (by decide) rfl
theorem tW(ok:aK p)(ha:H a=some (.ins (p.cl 2) dx (jF l pe o h s pl w se))):dX p.K "seens" (.ref a) H Q=Q (.ref se) H:=f9 ok ha (by decide) (by decide) rfl
theorem acy(ok:aK p)(ha:a_ p H a k)(hb:H b=some (.tup ((eW g).map V.int)))(h:Q (.bl (decide (g.who<k.persons.length)&&(decide (g.office<k.offices.length)&&g.when_.fine))) H):ak (G p 40 2) GK (fin Q) [some (.ref a),some (.ref b)] H:=by
 unfold GK;obtain⟨dx,l,pe,o,hh,s,pl,w,se,hs,L⟩:=ha;simp only[eW,aV,bB] at hb
 tm_at "r";simp only[aO hb];tm_at "r"
 simp only[qx ok hs,dN L.persons,aU]
 tm_at "r"
 simp only[aO hb];tm_at "r";simp only[qy ok hs,dN L.offices,aU]
 tm_at "r"
 simp only[aO hb];tm_at "r";have e1:decide ((g.who:Int)<(k.persons.length:Nat))=decide (g.who<k.persons.length):=by rw[aT];simp
 have e2:decide ((g.office:Int)<(k.offices.length:Nat))=decide (g.office<k.offices.length):=by rw[aT];simp
 rw[e1,e2];exact h
theorem UI(ok:aK p)(ha:a_ p H a k)(hb:H b=some (.tup ((eW g).map V.int)))(hw:g.who<k.persons.length)(h:Q (.bl ((k.persons[g.who]?).all λy=>decide (y.life.first<=g.when_.first)&&decide (g.when_.last<=y.life.last))) H):ak (G p 41 2) Dc (fin Q) [some (.ref a),some (.ref b),none] H:=by
 unfold Dc;obtain⟨dx,l,pe,o,hh,s,pl,w,se,hs,L⟩:=ha;simp only[eW,aV,bB] at hb
 tm_at "r";simp only[GO ok hs,aO hb];tm_at "r"
 obtain⟨x,xs,g1,g2,g3⟩:=jw (n:=g.who) L.lives (r:=dZ k.persons[g.who].life) (by simp[hw]);simp only[dZ,aV,bB] at g1;simp only[g2,g3,aO g1,aO hb];tm_at "r";simp only[aO g1,aO hb];tm_at "r";simp only[hw,gF,kG] at h;exact h
theorem UJ(ha:H a=some (.tup ((eW g1).map V.int)))(hb:H b=some (.tup ((eW g2).map V.int)))(h:Q (.bl (decide (g1.office=g2.office)&&(decide (g1.when_.first<=g2.when_.last)&&decide (g2.when_.first<=g1.when_.last)))) H):ak (G p 42 2) Dd (fin Q) [some (.ref a),some (.ref b)] H:=by
 unfold Dd;simp only[eW,aV,bB] at ha hb
 tm_at "r";simp only[aO ha,aO hb];tm_at "r"
 simp only[aO ha,aO hb];tm_at "r";simp only[aO ha,aO hb];tm_at "r";have e1:decide ((g1.office:Int)=(g2.office:Nat))=decide (g1.office=g2.office):=by rw[aT];simp;(constructor<;>lia)
 rw[e1];exact h
theorem Xx(ha:H a=some (.tup ((gM g1).map V.int)))(hb:H b=some (.tup ((gM g2).map V.int)))(h:Q (.bl (decide (g1.i=g2.i)&&decide (g1.j=g2.j))) H):ak (G p 44 2) Ep (fin Q) [some (.ref a),some (.ref b)] H:=by
 unfold Ep;simp only[gM,aV,bB] at ha hb
 tm_at "r";simp only[aO ha,aO hb];tm_at "r"
 simp only[aO ha,aO hb];tm_at "r";have e1:decide ((g1.i:Int)=(g2.i:Nat))=decide (g1.i=g2.i):=by rw[aT];simp;(constructor<;>lia)
 have e2:decide ((g1.j:Int)=(g2.j:Nat))=decide (g1.j=g2.j):=by rw[aT];simp;(constructor<;>lia)
 rw[e1,e2];exact h
theorem aec(ok:aK p)(ha:a_ p H a k)(hb:H b=some (.tup ((gM g).map V.int)))(h:Q (.bl (decide (g.i<k.places.length)&&(decide (g.j<k.places.length)&&(!decide (g.i=g.j)&&(decide (1<=g.days)&&decide (g.days<=1000)))))) H):ak (G p 43 2) G4 (fin Q) [some (.ref a),some (.ref b),none] H:=by
 unfold G4;obtain⟨dx,l,pe,o,hh,s,pl,w,se,hs,L⟩:=ha;simp only[gM,aV,bB] at hb
 tm_at "r";simp only[lH ok hs,dN L.places,aU,aO hb];tm_at "r"
 simp only[aO hb];tm_at "r";simp only[aO hb];tm_at "r";simp only[aO hb];tm_at "r";have e1:decide ((g.i:Int)<(k.places.length:Nat))=decide (g.i<k.places.length):=by rw[aT];simp
 have e2:decide ((g.j:Int)<(k.places.length:Nat))=decide (g.j<k.places.length):=by rw[aT];simp
 have e3:decide ((g.i:Int)=(g.j:Nat))=decide (g.i=g.j):=by rw[aT];simp;(constructor<;>lia)
 have e4:decide ((1:Int)<=(g.days:Nat))=decide (1<=g.days):=by rw[aT];simp;omega
 have e5:decide (((g.days:Nat):Int)<=1000)=decide (g.days<=1000):=by rw[aT];simp;omega
 rw[e1,e2,e3,e4,e5];exact h
theorem AJ.same(L:AJ H k l pe o h s pl w se)(q:ah H H'):AJ H' k l pe o h s pl w se:=
 ⟨L.lives.same q,L.persons.same q,L.offices.same q,L.holds.same q,L.seals.same q,L.places.same q,L.ways.same q,L.seens.same q⟩
theorem Vy(ok:aK p)(ha:a_ p H a b)(h:∀H',ah H H'->Q (bF (aQ 8 b)) H'):ak (G p 53 3) Dt (fin Q) [some (.ref a),none,none] H:=by
 unfold Dt;tm_at "r";obtain⟨dx,l,pe,o,hh,s0,pl,w,se,hs,L⟩:=ha;obtain⟨xs,e1,e2,e3,e4⟩:=dO L.seals;refine jJ (H1:=H) (xs:=xs) (λi=>if (b.seals[i]?).any (λx:iM=> !x.fine) then some (.int (i:Nat)) else none) (λR r=>?_) e1 (by rw[e2];unfold sizeLine;lia) (λu v=>rfl) (λi v H' hv s R hR=>?_) λH' D s e=>?_
 ·simp only[sI];tm_at "r"
  simp only[zL ok hs];exact .inl ⟨xs,.of e1,r⟩
 ·obtain⟨y,x,g1,rfl,g2⟩:=e4 i v hv
  have g2:=s _ _ g2;have L':a_ p H' a b:=⟨dx,l,pe,o,hh,s0,pl,w,se,s _ _ hs,L.same s⟩;simp only[dZ,aV,bB] at g2;simp only[wipe]
  tm_at "r"
  simp only[aO g2]
  tm_at "r"
  have:=hR H' (ah.refl H');simp only[g1,iE] at this;cases c:y.fine<;>simpa[c] using this
 ·simp only[e]
  have:=h H' s;rw[e2,iH (l:=b.seals) (P:=λz x=>(λx:iM=> !x.fine) x) λi f hf=>by simp[hf]];exact this
theorem Ub(ok:aK p)(ha:a_ p H a b)(h:∀H',ah H H'->Q (bF (aQ 3 b)) H'):ak (G p 48 3) CV (fin Q) [some (.ref a),none,none] H:=by
 unfold CV;tm_at "r";obtain⟨dx,l,pe,o,hh,s0,pl,w,se,hs,L⟩:=ha;obtain⟨xs,e1,e2,e3,e4⟩:=dO L.offices;refine jJ (H1:=H) (xs:=xs) (λi=>if (b.offices[i]?).any (λx:j3=> !gJ false x) then some (.int (i:Nat)) else none) (λR r=>?_) e1 (by rw[e2];unfold sizeLine;lia) (λu v=>rfl) (λi v H' hv s R hR=>?_) λH' D s e=>?_
 ·simp only[sI];tm_at "r"
  simp only[qy ok hs];exact .inl ⟨xs,.of e1,r⟩
 ·obtain⟨y,x,g1,rfl,g2⟩:=e4 i v hv
  have g2:=s _ _ g2;have L':a_ p H' a b:=⟨dx,l,pe,o,hh,s0,pl,w,se,s _ _ hs,L.same s⟩;simp only[wipe]
  tm_at "r"
  refine⟨x,y,rfl,g2,?_,λH2 s2=>?_⟩
  ·have:=Gf L.offices g1;unfold aX at this;simpa using this
  have:=hR H2 s2;simp only[g1,iE] at this;cases c:gJ false y<;>simpa[c] using this
 ·simp only[e]
  have:=h H' s;rw[e2,iH (l:=b.offices) (P:=λz x=>(λx:j3=> !gJ false x) x) λi f hf=>by simp[hf]];exact this
theorem UK(ok:aK p)(ha:a_ p H a b)(h:∀H',ah H H'->Q (bF (aQ 9 b)) H'):ak (G p 54 3) De (fin Q) [some (.ref a),none,none] H:=by
 unfold De;tm_at "r";obtain⟨dx,l,pe,o,hh,s0,pl,w,se,hs,L⟩:=ha;obtain⟨xs,e1,e2,e3,e4⟩:=dO L.places;refine jJ (H1:=H) (xs:=xs) (λi=>if (b.places[i]?).any (λx:j3=> !gJ true x) then some (.int (i:Nat)) else none) (λR r=>?_) e1 (by rw[e2];unfold sizeLine;lia) (λu v=>rfl) (λi v H' hv s R hR=>?_) λH' D s e=>?_
 ·simp only[sI];tm_at "r"
  simp only[lH ok hs];exact .inl ⟨xs,.of e1,r⟩
 ·obtain⟨y,x,g1,rfl,g2⟩:=e4 i v hv
  have g2:=s _ _ g2;have L':a_ p H' a b:=⟨dx,l,pe,o,hh,s0,pl,w,se,s _ _ hs,L.same s⟩;simp only[wipe]
  tm_at "r"
  refine⟨x,y,rfl,g2,?_,λH2 s2=>?_⟩
  ·have:=Gf L.places g1;unfold aX at this;simpa using this
  have:=hR H2 s2;simp only[g1,iE] at this;cases c:gJ true y<;>simpa[c] using this
 ·simp only[e]
  have:=h H' s;rw[e2,iH (l:=b.places) (P:=λz x=>(λx:j3=> !gJ true x) x) λi f hf=>by simp[hf]];exact this
theorem Vz(ok:aK p)(ha:a_ p H a b)(h:∀H',ah H H'->Q (bF (aQ 5 b)) H'):ak (G p 50 3) Dr (fin Q) [some (.ref a),none,none] H:=by
 unfold Dr;tm_at "r";obtain⟨dx,l,pe,o,hh,s0,pl,w,se,hs,L⟩:=ha;obtain⟨xs,e1,e2,e3,e4⟩:=dO L.holds;refine jJ (H1:=H) (xs:=xs) (λi=>if (b.holds[i]?).any (λx:lW=>decide (b.persons.length<=x.who)||(decide (b.offices.length<=x.office)|| !x.when_.fine)) then some (.int (i:Nat)) else none) (λR r=>?_) e1 (by rw[e2];unfold sizeLine;lia) (λu v=>rfl) (λi v H' hv s R hR=>?_) λH' D s e=>?_
 ·simp only[sI];tm_at "r"
  simp only[oG ok hs];exact .inl ⟨xs,.of e1,r⟩
 ·obtain⟨y,x,g1,rfl,g2⟩:=e4 i v hv
  have g2:=s _ _ g2;have L':a_ p H' a b:=⟨dx,l,pe,o,hh,s0,pl,w,se,s _ _ hs,L.same s⟩;simp only[wipe]
  tm_at "r"
  refine⟨a,b,x,y,rfl,L',g2,?_⟩;have:=hR H' (ah.refl H');simp only[g1,iE] at this
  have e:(!(decide (y.who<b.persons.length)&&(decide (y.office<b.offices.length)&&y.when_.fine)))=(decide (b.persons.length<=y.who)||(decide (b.offices.length<=y.office)|| !y.when_.fine)):=by
   simp only[Za,←decide_not,tU]
  rw[e];cases c:(decide (b.persons.length<=y.who)||(decide (b.offices.length<=y.office)|| !y.when_.fine))<;>simpa[c] using this
 ·simp only[e]
  have:=h H' s;rw[e2,iH (l:=b.holds) (P:=λz x=>(λx:lW=>decide (b.persons.length<=x.who)||(decide (b.offices.length<=x.office)|| !x.when_.fine)) x) λi f hf=>by simp[hf]];exact this
theorem acz(hp:As b){i:Nat}{y:lW}(hy:b.holds[i]?=some y):y.who<b.persons.length:=by
 have e:aQ 5 b=eu b.holds λ(_:Nat)(x:lW)=>decide (b.persons.length<=x.who)||(decide (b.offices.length<=x.office)|| !x.when_.fine):=rfl;have hp:aQ 5 b=none:=hp;rw[e] at hp;have:=jR.mp hp i y hy;simp at this;exact this.1
theorem VA(ok:aK p)(ha:a_ p H a b)(hp:As b)(h:∀H',ah H H'->Q (bF (aQ 6 b)) H'):ak (G p 51 3) Ds (fin Q) [some (.ref a),none,none] H:=by
 unfold Ds;tm_at "r";obtain⟨dx,l,pe,o,hh,s0,pl,w,se,hs,L⟩:=ha;obtain⟨xs,e1,e2,e3,e4⟩:=dO L.holds;refine jJ (H1:=H) (xs:=xs) (λi=>if (b.holds[i]?).any (λx=>(b.persons[x.who]?).any λ(y:we)=>decide (x.when_.first<y.life.first)||decide (y.life.last<x.when_.last)) then some (.int (i:Nat)) else none) (λR r=>?_) e1 (by rw[e2];unfold sizeLine;lia) (λu v=>rfl) (λi v H' hv s R hR=>?_) λH' D s e=>?_
 ·simp only[sI];tm_at "r"
  simp only[oG ok hs];exact .inl ⟨xs,.of e1,r⟩
 ·obtain⟨y,x,g1,rfl,g2⟩:=e4 i v hv
  have g2:=s _ _ g2;have L':a_ p H' a b:=⟨dx,l,pe,o,hh,s0,pl,w,se,s _ _ hs,L.same s⟩;have hw:=acz hp g1;simp only[wipe]
  tm_at "r"
  refine⟨a,b,x,y,rfl,L',g2,hw,?_⟩;have:=hR H' (ah.refl H');simp only[g1,iE,hw,gF] at this;simp only[hw,gF,kG]
  have e:(!(decide (b.persons[y.who].life.first<=y.when_.first)&&decide (y.when_.last<=b.persons[y.who].life.last)))=(decide (y.when_.first<b.persons[y.who].life.first)||decide (b.persons[y.who].life.last<y.when_.last)):=by
   simp only[Za,←decide_not,Int.not_le]
  rw[e];cases c:(decide (y.when_.first<b.persons[y.who].life.first)||decide (b.persons[y.who].life.last<y.when_.last))<;>simpa[c] using this
 ·simp only[e]
  have:=h H' s;rw[e2,iH (l:=b.holds) (P:=λz x=>(b.persons[x.who]?).any λ(y:we)=>decide (x.when_.first<y.life.first)||decide (y.life.last<x.when_.last)) λi f hf=>by simp only[hf,iE]];exact this
theorem VB(ok:aK p)(ha:a_ p H a b)(h:∀H',ah H H'->Q (bF (aQ 12 b)) H'):ak (G p 57 3) Du (fin Q) [some (.ref a),none,none,none] H:=by
 unfold Du;obtain⟨dx,l,pe,o,hh,s0,pl,w,se,hs,L⟩:=ha
 tm_at "r"
 simp only[lH ok hs,dN L.places,aU];obtain⟨xs,e1,e2,e3,e4⟩:=dO L.seens;refine jJ (H1:=H) (xs:=xs) (λi=>if (b.seens[i]?).any (λx=> !bZ x.day||decide (b.places.length<=x.place)) then some (.int (i:Nat)) else none) (λR r=>?_) e1 (by rw[e2];unfold sizeLine;lia) (λu v=>rfl) (λi v H' hv s R hR=>?_) λH' D s e=>?_
 ·simp only[sI];tm_at "r"
  simp only[tW ok hs];exact .inl ⟨xs,.of e1,r⟩
 ·obtain⟨y,x,g1,rfl,g2⟩:=e4 i v hv
  have g2:=s _ _ g2;simp only[jv,aV,bB] at g2;simp only[wipe]
  tm_at "r"
  simp only[aO g2]
  tm_at "r"
  have:=hR H' (ah.refl H');simp only[g1,iE] at this;have e:decide ((b.places.length:Int)<=(y.place:Nat))=decide (b.places.length<=y.place):=by rw[aT];simp
  rw[e];cases c:bZ y.day<;>cases c2:decide (b.places.length<=y.place)<;>simpa[c,c2] using this
 ·simp only[e]
  have:=h H' s;rw[e2,iH (l:=b.seens) (P:=λz x=> !bZ x.day||decide (b.places.length<=x.place)) λi f hf=>by simp only[hf,iE]];exact this
theorem aa_(h:f 0=none):flat (λi=>f (i+1)) (n-1)=flat f n:=by
 cases n with
 |zero=>rfl
 |succ n=>
  unfold flat;rw[yJ,nZ,h,Ke];rfl
noncomputable def wW(b:bW)(j:Nat):Option V:=if (b.seens[j]?).any (λy=>decide (1<=j)&&match b.seens[j-1]? with|some x=>decide (y.day<=x.day)|none=>false) then some (.int (j:Nat)) else none
theorem VC(ok:aK p)(ha:a_ p H a b)(h:∀H',ah H H'->Q (bF (aQ 13 b)) H'):ak (G p 58 3) Dv (fin Q) [some (.ref a),none,none] H:=by
 unfold Dv;obtain⟨dx,l,pe,o,hh,s0,pl,w,se,hs,L⟩:=ha
 tm_at "r"
 simp only[tW ok hs];obtain⟨xs,e1,e2,e3,e4⟩:=dO L.seens;have e3':=e3;refine Je (H1:=H) (lo:=1) (n:=b.seens.length-1) (λi=>wW b (i+1)) (λR r=>?_) (by unfold sizeLine;(simp;lia)) (λv=>rfl) (λi H' hi s R hR=>?_) λH' D s e=>?_
 ·simp only[sI];tm_at "r"
  simp only[dN L.seens,aU];refine⟨⟨by decide,by decide,by simp,by lia⟩,?_⟩;rw[show(((b.seens.length:Nat):Int)-1).toNat=b.seens.length-1 by simp];exact r
 ·simp only[wipe]
  tm_at "r"
  have i1:i+1<b.seens.length:=by omega
  have i0:i<b.seens.length:=by lia
  obtain⟨x1,BZ,q1,q2,q3⟩:=jw (n:=i+1) (L.seens.same s) (r:=jv b.seens[i+1]) (by simp[i1]);obtain⟨x0,Ra,r1,r2,r3⟩:=jw (n:=i) (L.seens.same s) (r:=jv b.seens[i]) (by simp[i0]);simp only[jv,aV,bB] at q1 r1;rw[show(1:Int)+(i:Nat)=((i+1:Nat):Int) by simp+arith,show((i+1:Nat):Int)-1=(i:Nat) by simp];rw[r2] at q2;obtain rfl:=dM q2;simp only[r2,r3,q3,aO q1,aO r1]
  tm_at "r"
  have:=hR H' (ah.refl H');simp only[wW,i1,i0,gF,iE,TY,decide_eq_true (show 1<=i+1 by simp),gu] at this;cases c:decide (b.seens[i+1].day<=b.seens[i].day)<;>simpa[c] using this
 ·rw[aa_ (f:=wW b) (by simp[wW])] at e
  simp only[e];have:=h H' s;rw[iH (l:=b.seens) (P:=λi y=>decide (1<=i)&&match b.seens[i-1]? with|some x=>decide (y.day<=x.day)|none=>false) λi f hf=>by simp only[wW,hf,iE]]
  have e13:aQ 13 b=eu b.seens λi y=>decide (1<=i)&&match b.seens[i-1]? with|some x=>decide (y.day<=x.day)|none=>false:=by
   show FL b.seens (λ(x y:m6)=>decide (y.day<=x.day))=_;unfold FL;congr 1;funext i y;congr 1;cases b.seens[i-1]?<;>rfl
  rw[←e13];exact this
theorem FF(h:aX m=aX n):m=n:=by
 unfold aX at h;refine TZ (f:=λc:UInt8=>((c.toNat:Nat):Int)) ?_ |>.mp h;intro x y e;have e:((x.toNat:Nat):Int)=((y.toNat:Nat):Int):=e;exact KR.mp (by lia)
set_option tactic.hygienic true in
theorem GP:∀{xs:List V}{rs:List (List Int)}(k:Nat),rows? H xs=some rs->rows? H (xs.take k)=some (rs.take k)
 |xs,rs,0,_=>rfl
 |[],rs,k+1,h=>by cases h;rfl
 |x::xs,rs,k+1,h=>by
  cases x<;>simp only[rows?] at h<;>try (cases h;done)
  split at h
  ·rename_i ys e1
   split at h
   ·rename_i ns r e2 e3
    cases h;simp only[List.take_succ_cons,rows?,e1,e2,GP k e3]
   ·cases h
  ·cases h
theorem acA(ha:aZ H a rs)(h:∀H' D,ah H H'->H' D=some (.lst (flat (λi=>if decide (rs.getD i []∈rs.take i)=true then some (.int (i:Nat)) else none) rs.length))->Q (.ref D) H'):ak (G p 39 3) GJ (fin Q) [some (.ref a),none,none] H:=by
 unfold GJ;tm_at "r";obtain⟨xs,h1,h2,h3,h4⟩:=ha;obtain⟨el,g⟩:=wj h2;refine jJ (H1:=H) (xs:=xs) (λi=>if decide (rs.getD i []∈rs.take i)=true then some (.int (i:Nat)) else none) (λR r=>?_) h1 (by rw[el];unfold sizeLine;lia) (λu v=>rfl) (λi v H' hv s R hR=>?_) λH' D s e=>?_
 ·simp only[sI];tm_at "r"
  exact .inl ⟨xs,.of h1,r⟩
 ·have hi:i<rs.length:=by
   have:=(dF.mp hv).1
   simp_all
  obtain⟨x,g1,g2⟩:=g i rs[i] (by simp[hi]);rw[hv] at g1;obtain rfl:=dM g1;simp only[wipe]
  tm_at "r"
  simp only[jx,s _ _ h1];intro q hq;have nx:x≠q:=bV (s _ _ g2) hq;have sq:ah H' (L2.upd H' q (.lst (fz xs none (some (i:Int))))):=ah.new hq;have hr:=ah.rows (s.trans sq) (GP i h2);rw[HQ] at hr ⊢;rw[HQ] at sq;simp only[dW,aI nx,s _ _ g2,au,Mini.ints_map,hr]
  tm_at "r"
  have:=hR _ sq;have eg:rs.getD i []=rs[i]:=by simp[hi]
  rw[eg] at this;cases c:decide (rs[i]∈List.take i rs)<;>simpa[c] using this
 ·rw[el] at e
  exact h H' D s e
theorem R0(ok:aK p)(ha:a_ p H a b)(h:∀H',ah H H'->Q (bF (aQ 2 b)) H'):ak (G p 47 3) Cf (fin Q) [some (.ref a)] H:=by
 unfold Cf;obtain⟨dx,l,pe,o,hh,s0,pl,w,se,hs,L⟩:=ha
 tm_at "r"
 simp only[qx ok hs];refine⟨_,_,rfl,L.persons,λH' D s e=>?_⟩;simp only[e];have:=h H' s;rw[aU,iH (l:=b.persons) (P:=λi y=>(b.persons.take i).any λx=>x.name==y.name) λi y hy=>?_]
 ·exact this
 ·have hi:=(dF.mp hy).1
  have e1:(b.persons.map λx=>aX x.name).getD i []=aX (y.name):=by simp[hy]
  have e2:decide ((b.persons.map λx=>aX x.name).getD i []∈(b.persons.map λx=>aX x.name).take i)=(b.persons.take i).any λx=>x.name==y.name:=by
   rw[e1,←qm,aT];simp only[decide_eq_true_eq,gH,qf,beq_iff_eq];exact⟨λ⟨z,q1,q2⟩=>⟨z,q1,FF q2⟩,λ⟨z,q1,q2⟩=>⟨z,q1,by rw[q2]⟩⟩
  simp only[e2]
theorem R1(ok:aK p)(ha:a_ p H a b)(h:∀H',ah H H'->Q (bF (aQ 4 b)) H'):ak (G p 49 3) Cg (fin Q) [some (.ref a)] H:=by
 unfold Cg;obtain⟨dx,l,pe,o,hh,s0,pl,w,se,hs,L⟩:=ha
 tm_at "r"
 simp only[qy ok hs];refine⟨_,_,rfl,L.offices,λH' D s e=>?_⟩;simp only[e];have:=h H' s;rw[aU,iH (l:=b.offices) (P:=λi y=>(b.offices.take i).any λx=>x==y) λi y hy=>?_]
 ·exact this
 ·have hi:=(dF.mp hy).1
  have e1:(b.offices.map λx=>aX x).getD i []=aX (y):=by simp[hy]
  have e2:decide ((b.offices.map λx=>aX x).getD i []∈(b.offices.map λx=>aX x).take i)=(b.offices.take i).any λx=>x==y:=by
   rw[e1,←qm,aT];simp only[decide_eq_true_eq,gH,qf,beq_iff_eq];exact⟨λ⟨z,q1,q2⟩=>⟨z,q1,FF q2⟩,λ⟨z,q1,q2⟩=>⟨z,q1,by rw[q2]⟩⟩
  simp only[e2]
theorem Sa(ok:aK p)(ha:a_ p H a b)(h:∀H',ah H H'->Q (bF (aQ 10 b)) H'):ak (G p 55 3) Ck (fin Q) [some (.ref a)] H:=by
 unfold Ck;obtain⟨dx,l,pe,o,hh,s0,pl,w,se,hs,L⟩:=ha
 tm_at "r"
 simp only[lH ok hs];refine⟨_,_,rfl,L.places,λH' D s e=>?_⟩;simp only[e];have:=h H' s;rw[aU,iH (l:=b.places) (P:=λi y=>(b.places.take i).any λx=>x==y) λi y hy=>?_]
 ·exact this
 ·have hi:=(dF.mp hy).1
  have e1:(b.places.map λx=>aX x).getD i []=aX (y):=by simp[hy]
  have e2:decide ((b.places.map λx=>aX x).getD i []∈(b.places.map λx=>aX x).take i)=(b.places.take i).any λx=>x==y:=by
   rw[e1,←qm,aT];simp only[decide_eq_true_eq,gH,qf,beq_iff_eq];exact⟨λ⟨z,q1,q2⟩=>⟨z,q1,FF q2⟩,λ⟨z,q1,q2⟩=>⟨z,q1,by rw[q2]⟩⟩
  simp only[e2]
theorem yW{α:Type}{l:List α}{P:Nat->α->Bool}(hP:(l[i]?).any (P i)=true)(hj:∀j,j<i->(l[j]?).any (P j)=false):eu l P=some i:=by
 cases e:l[i]? with
 |none=>rw[e] at hP;cases hP
 |some x=>
  rw[e] at hP;refine Yi e hP λj y hji hy=>?_;have:=hj j hji;rw[hy] at this;exact this
theorem yX{α:Type}{l:List α}{P:Nat->α->Bool}(hn:n=l.length)(hP:∀i,i<n->(l[i]?).any (P i)=false):eu l P=none:=by
 refine jR.mpr λi x hx=>?_;have:=hP i (by rw[hn];exact(dF.mp hx).1);rw[hx] at this;exact this
theorem Uc(ok:aK p)(ha:a_ p H a b)(h:∀H',ah H H'->Q (bF (aQ 1 b)) H'):ak (G p 46 3) CU (fin Q) [some (.ref a),none,none] H:=by
 unfold CU;obtain⟨dx,l,pe,o,hh,s0,pl,w,se,hs,L⟩:=ha
 tm_at "r"
 obtain⟨xs,e1,e2,e3,e4⟩:=dO L.lives;have e:aQ 1 b=eu b.persons λ(_:Nat)(x:we)=> !x.life.fine|| !gJ true x.name:=rfl;rw[e] at h;refine Im (H1:=H) (xs:=xs) (λi=>(b.persons[i]?).any λx=> !x.life.fine|| !gJ true x.name) (λu v=>[some (.ref a),some u,some v]) (λR r=>?_) e1 (λu v=>rfl) (λu v u' v'=>rfl) (λi v H' N hv s hb gD hN=>?_) (λi H' hi hP hj s=>?_) λhP σ H' s=>?_
 ·simp only[sI];tm_at "r"
  simp only[GO ok hs];exact .inl ⟨xs,.of e1,r⟩
 ·obtain⟨y,x,g1,rfl,g2⟩:=e4 i v hv
  have g2:=s _ _ g2;have hi:i<b.persons.length:=(dF.mp g1).1;simp only[dZ,aV,bB] at g2
  tm_at "r"
  simp only[aO g2]
  tm_at "r"
  simp only[qx ok (s _ _ hs)];obtain⟨z,zs,q1,q2,q3⟩:=jw (n:=i) (L.persons.same s) (r:=aX y.name) (by simp[g1]);simp only[q2,q3];simp only[g1,iE] at gD hN;cases c:y.life.fine with
  |false=>
   simp only[c,jP,Y4] at gD;simpa[c] using gD trivial H' (ah.refl H')
  |true=>
   simp only[c,bH,K_] at gD hN;simp only[bH,aL,if_false];refine⟨z,y.name,rfl,q1,?_,λH2 s2=>?_⟩
   ·have:=Gf L.persons g1;unfold aX at this;simpa using this
   ·cases c2:gJ true y.name with
    |false=>simpa[c2] using gD (by rw[c2];rfl) H2 s2
    |true=>simpa[c2] using hN (by rw[c2];rfl) H2 s2
 ·have:=h H' s
  rw[yW (P:=λ_ (x:we)=> !x.life.fine|| !gJ true x.name) hP hj] at this;exact this
 ·have:=h H' s
  rw[yX (P:=λ_ (x:we)=> !x.life.fine|| !gJ true x.name) e2 hP] at this;exact this
theorem Ll{α:Type}{g:α->List Int}{l:List α}(h:aZ H f (l.map g))(k:Nat){q:Addr}(hq:H q=none):∃xs:List V,H f=some (.lst xs)/\aZ (L2.upd H q (.lst (fz xs none (some (k:Int))))) q ((l.take k).map g):=by
 obtain⟨xs,h1,h2,h3,h4⟩:=h;refine⟨xs,h1,xs.take k,by rw[au,HQ],?_,?_,?_⟩
 ·rw[qm];exact ah.rows (ah.new hq) (GP k h2)
 ·simp at h3 ⊢;grind
 ·intro r hr;rw[qm] at hr;exact h4 r (List.mem_of_mem_take hr)
theorem PJ{α:Type}{K:aD}{wi:TI}{x:Nat}{tt:TT}{te:TE}{σ:L2.St}{g:α->List Int}{l:List α}(P:α->Bool)(hI:∀R,(∀q H1,ah H H1->aZ H1 q (l.map g)->R (kY K q) H1)->wi σ H R)(hw:∀v:V,wipe ((wipe σ vs).set x (some v)) vs=wipe σ vs)(hs:∀(y:α)(z:Addr)(H2:Hp),ah H H2->H2 z=some (.tup ((g y).map V.int))->kh tt te ((wipe σ vs).set x (some (.ref z))) H2 (some (.bl (P y))))(hd:∀H' D,ah H H'->H' D=some (.lst ((l.map P).map V.bl))->Q (.ref D) H'):eZ wi (bJ K (.name x)) tt te vs σ H Q:=by
 refine hI _ λq H1 s1 hr D hD=>?_;obtain⟨ys,e1,e2,e3,e4⟩:=dO hr;refine O6 (f:=λi=>(l[i]?).map λy=>V.bl (P y)) e1 hD (by rw[e2];unfold sizeLine;lia) hw (λi v H2 hv s2=>?_) λH' s e=>?_
 ·obtain⟨y,z,g1,rfl,g2⟩:=e4 i v hv
  have:=hs y z H2 (s1.trans s2) (s2 _ _ g2);simp only[g1,kH];exact this
 ·refine hd H' D (s1.trans s) ?_
  rw[e,e2,Hz (g:=P) λi y hy=>by rw[hy];rfl]
theorem SO(ok:aK p)(ha:a_ p H a b)(h:∀H',ah H H'->Q (bF (aQ 7 b)) H'):ak (G p 52 3) CB (fin Q) [some (.ref a),none,none,none] H:=by
 unfold CB;obtain⟨dx,l,pe,o,hh,s0,pl,w,se,hs,L⟩:=ha
 tm_at "r"
 obtain⟨xs,e1,e2,e3,e4⟩:=dO L.holds;have e:aQ 7 b=eu b.holds λ(i:Nat)(y:lW)=>(b.holds.take i).any λx=>x.office==y.office&&(decide (x.when_.first<=y.when_.last)&&decide (y.when_.first<=x.when_.last)):=rfl;rw[e] at h;refine Im (H1:=H) (xs:=xs) (λi=>(b.holds[i]?).any λy=>(b.holds.take i).any λx=>x.office==y.office&&(decide (x.when_.first<=y.when_.last)&&decide (y.when_.first<=x.when_.last))) (λu v=>[some (.ref a),some u,some v,none]) (λR r=>?_) e1 (λu v=>rfl) (λu v u' v'=>rfl) (λi v H' N hv s hb gD hN=>?_) (λi H' hi hP hj s=>?_) λhP σ H' s=>?_
 ·simp only[sI];tm_at "r"
  simp only[oG ok hs];exact .inl ⟨xs,.of e1,r⟩
 ·obtain⟨y,x,g1,rfl,g2⟩:=e4 i v hv
  have g2:=s _ _ g2;simp only[g1,iE] at gD hN
  tm_at "r"
  refine PJ (g:=eW) (l:=b.holds.take i) (λz=>decide (y.office=z.office)&&(decide (y.when_.first<=z.when_.last)&&decide (z.when_.first<=y.when_.last))) (λR r=>?_) (λv=>rfl) (λz c H2 s2 hc R hR=>?_) λH2 D s2 hD=>?_
  ·simp only[sI];tm_at "r"
   simp only[oG ok (s _ _ hs)];simp only[jx,s _ _ e1];intro q hq;obtain⟨B0,k1,k2⟩:=Ll (L.holds.same s) i hq;rw[s _ _ e1] at k1;obtain rfl:xs=B0:=by injection k1 with k1;injection k1
   obtain⟨ys,k3,_⟩:=id k2;exact .inl ⟨ys,.of k3,r q _ (ah.new hq) k2⟩
  ·simp only[wipe]
   tm_at "r"
   exact⟨x,c,y,z,rfl,s2 _ _ g2,hc,hR H2 (ah.refl H2)⟩
  ·rw[Au hD]
   tm_at "r"
   have ea:((b.holds.take i).map λz=>decide (y.office=z.office)&&(decide (y.when_.first<=z.when_.last)&&decide (z.when_.first<=y.when_.last))).any id=(b.holds.take i).any λx=>x.office==y.office&&(decide (x.when_.first<=y.when_.last)&&decide (y.when_.first<=x.when_.last)):=by
    rw[qu];congr 1;funext z;rw[aT];simp;(constructor<;>lia)
   rw[ea];cases c:(b.holds.take i).any λx=>x.office==y.office&&(decide (x.when_.first<=y.when_.last)&&decide (y.when_.first<=x.when_.last)) with
   |false=>
    simp only[aL,if_false];exact hN c H2 s2
   |true=>
    simp only[if_true];exact gD c H2 s2
 ·have:=h H' s
  rw[yW (P:=λi (y:lW)=>(b.holds.take i).any λx=>x.office==y.office&&(decide (x.when_.first<=y.when_.last)&&decide (y.when_.first<=x.when_.last))) hP hj] at this;exact this
 ·have:=h H' s
  rw[yX (P:=λi (y:lW)=>(b.holds.take i).any λx=>x.office==y.office&&(decide (x.when_.first<=y.when_.last)&&decide (y.when_.first<=x.when_.last))) e2 hP] at this;exact this
noncomputable def ux(b:bW)(i:Nat)(w:m_):Bool:=decide (b.places.length<=w.i)||(decide (b.places.length<=w.j)||(w.i==w.j||(w.days==0||(decide (1000<w.days)||(b.ways.take i).any λ(v:m_)=>v.i==w.i&&v.j==w.j))))
theorem Wz(ok:aK p)(ha:a_ p H a b)(h:∀H',ah H H'->Q (bF (aQ 11 b)) H'):ak (G p 56 3) DY (fin Q) [some (.ref a),none,none,none] H:=by
 unfold DY;obtain⟨dx,l,pe,o,hh,s0,pl,w,se,hs,L⟩:=ha
 tm_at "r"
 obtain⟨xs,e1,e2,e3,e4⟩:=dO L.ways;have e:aQ 11 b=eu b.ways (ux b):=rfl;rw[e] at h;refine Im (H1:=H) (xs:=xs) (λi=>(b.ways[i]?).any (ux b i)) (λu v=>[some (.ref a),some u,some v,none]) (λR r=>?_) e1 (λu v=>rfl) (λu v u' v'=>rfl) (λi v H' N hv s hb gD hN=>?_) (λi H' hi hP hj s=>?_) λhP σ H' s=>?_
 ·simp only[sI];tm_at "r"
  simp only[wm ok hs];exact .inl ⟨xs,.of e1,r⟩
 ·obtain⟨y,x,g1,rfl,g2⟩:=e4 i v hv
  have g2:=s _ _ g2;simp only[g1,iE] at gD hN
  tm_at "r"
  refine⟨a,b,x,y,rfl,⟨dx,l,pe,o,hh,s0,pl,w,se,s _ _ hs,L.same s⟩,g2,?_⟩
  have eb:ux b i y=((!(decide (y.i<b.places.length)&&(decide (y.j<b.places.length)&&(!decide (y.i=y.j)&&(decide (1<=y.days)&&decide (y.days<=1000))))))||(b.ways.take i).any λz=>decide (y.i=z.i)&&decide (y.j=z.j)):=by
   unfold ux
   have ea:((b.ways.take i).any λz=>decide (y.i=z.i)&&decide (y.j=z.j))=(b.ways.take i).any λ(v:m_)=>v.i==y.i&&v.j==y.j:=by
    congr 1;funext z;rw[aT];simp;(constructor<;>lia)
   rw[ea];generalize ((b.ways.take i).any λ(v:m_)=>v.i==y.i&&v.j==y.j)=B;rw[aT];cases B
   ·first|(simp;lia)|simp
   ·simp
  rw[eb] at gD hN;cases c:(decide (y.i<b.places.length)&&(decide (y.j<b.places.length)&&(!decide (y.i=y.j)&&(decide (1<=y.days)&&decide (y.days<=1000))))) with
  |false=>
   rw[c] at gD;exact gD rfl H' (ah.refl H')
  |true=>
   rw[c] at gD hN;simp only[bH,aL,if_false,K_] at gD hN ⊢;refine PJ (g:=gM) (l:=b.ways.take i) (λz=>decide (y.i=z.i)&&decide (y.j=z.j)) (λR r=>?_) (λv=>rfl) (λz c H2 s2 hc R hR=>?_) λH2 D s2 hD=>?_
   ·simp only[sI];tm_at "r"
    simp only[wm ok (s _ _ hs)];simp only[jx,s _ _ e1];intro q hq;obtain⟨B0,k1,k2⟩:=Ll (L.ways.same s) i hq;rw[s _ _ e1] at k1;obtain rfl:xs=B0:=by injection k1 with k1;injection k1
    obtain⟨ys,k3,_⟩:=id k2;exact .inl ⟨ys,.of k3,r q _ (ah.new hq) k2⟩
   ·simp only[wipe]
    tm_at "r"
    exact⟨x,c,y,z,rfl,s2 _ _ g2,hc,hR H2 (ah.refl H2)⟩
   ·rw[Au hD]
    tm_at "r"
    rw[qu];cases c2:(b.ways.take i).any (id ∘ λz=>decide (y.i=z.i)&&decide (y.j=z.j)) with
    |false=>
     simp only[aL,if_false];exact hN c2 H2 s2
    |true=>
     simp only[if_true];exact gD c2 H2 s2
 ·have:=h H' s
  rw[yW (P:=ux b) hP hj] at this;exact this
 ·have:=h H' s
  rw[yX (P:=ux b) e2 hP] at this;exact this
theorem aj0{K:aD}{wi:TI}{x k:Nat}{a:Addr}{xs:List V}{tt:TT}{te:TE}{σ:L2.St}{H H1:Hp}{Q:VK}(f:Nat->Option V)(hI:∀R,R (l5 K a 0) H1->wi σ H R)(hx:H1 a=some (.tup xs))(hn:xs.length<=sizeLine)(hw:∀u v:V,wipe (((wipe σ vs).set k (some u)).set x (some v)) vs=wipe σ vs)(hs:∀(i:Nat)(v:V)(H:Hp),xs[i]?=some v->ah H1 H->kh tt te (((wipe σ vs).set k (some (.int (i:Nat)))).set x (some v)) H (f i))(hd:∀H' D,ah H1 H'->H' D=some (.lst (flat f xs.length))->Q (.ref D) H'):eZ wi (bJ K (.tup [k,x])) tt te vs σ H Q:=by
 refine hI _ λD hD=>uw (n:=xs.length) (f:=f) hD hn (λH s=>⟨xs,.of (s _ _ hx),aY _⟩) (λi H hi s=>⟨xs,xs[i],.of (s _ _ hx),by simp[hi]⟩) (λi H z H' hi s hy Q hQ=>?_) λH' s e=>hd H' D s e;obtain⟨T,v,rfl,hT,rfl,hv⟩:=hy;have hv:=hv xs (.of (s _ _ hx));rw[show(0:Int)+(i:Nat)=(i:Nat) by simp];simp only[bJ,au,ck,eT,true_and,qa,sY,oi,tD];have s2:ah H (L2.upd H T (.tup [.int (i:Nat),v])):=ah.new hT;exact hQ _ _ s2 (hw _ _) (hs i v _ hv (s.trans s2))
theorem Sj(ok:aK p)(ha:a_ p H a b)(h:∀H',ah H H'->Q (bF (aQ 0 b)) H'):ak (G p 45 3) CN (fin Q) [some (.ref a),none,none,none] H:=by
 unfold CN;obtain⟨dx,l,pe,o,hh,s0,pl,w,se,hs,L⟩:=ha
 tm_at "r"
 simp only[qx ok hs,dN L.persons,aU];refine⟨by show 2<=sizeLine;decide,λq1 n1=>?_⟩;obtain⟨H1,eH⟩:∃X,X=L2.upd H q1 (.tup [.int ((b.persons.length:Nat):Int),.int 32]):=⟨_,rfl⟩;have s1:ah H H1:=eH▸ah.new n1;have t1:H1 q1=some (.tup [.int ((b.persons.length:Nat):Int),.int 32]):=eH▸au;rw[←eH];clear eH n1;replace hs:=s1 _ _ hs;replace L:=L.same s1;simp only[qy ok hs,dN L.offices,aU];refine⟨by show 2<=sizeLine;decide,λq2 n2=>?_⟩;obtain⟨H2,eH⟩:∃X,X=L2.upd H1 q2 (.tup [.int ((b.offices.length:Nat):Int),.int 16]):=⟨_,rfl⟩;have s2:ah H1 H2:=eH▸ah.new n2;have t2:H2 q2=some (.tup [.int ((b.offices.length:Nat):Int),.int 16]):=eH▸au;rw[←eH];clear eH n2;replace hs:=s2 _ _ hs;replace L:=L.same s2;replace t1:=s2 _ _ t1;simp only[oG ok hs,dN L.holds,aU];refine⟨by show 2<=sizeLine;decide,λq3 n3=>?_⟩;obtain⟨H3,eH⟩:∃X,X=L2.upd H2 q3 (.tup [.int ((b.holds.length:Nat):Int),.int 64]):=⟨_,rfl⟩;have s3:ah H2 H3:=eH▸ah.new n3;have t3:H3 q3=some (.tup [.int ((b.holds.length:Nat):Int),.int 64]):=eH▸au;rw[←eH];clear eH n3;replace hs:=s3 _ _ hs;replace L:=L.same s3;replace t1:=s3 _ _ t1;replace t2:=s3 _ _ t2;simp only[zL ok hs,dN L.seals,aU];refine⟨by show 2<=sizeLine;decide,λq4 n4=>?_⟩;obtain⟨H4,eH⟩:∃X,X=L2.upd H3 q4 (.tup [.int ((b.seals.length:Nat):Int),.int 16]):=⟨_,rfl⟩;have s4:ah H3 H4:=eH▸ah.new n4;have t4:H4 q4=some (.tup [.int ((b.seals.length:Nat):Int),.int 16]):=eH▸au;rw[←eH];clear eH n4;replace hs:=s4 _ _ hs;replace L:=L.same s4;replace t1:=s4 _ _ t1;replace t2:=s4 _ _ t2;replace t3:=s4 _ _ t3;simp only[lH ok hs,dN L.places,aU];refine⟨by show 2<=sizeLine;decide,λq5 n5=>?_⟩;obtain⟨H5,eH⟩:∃X,X=L2.upd H4 q5 (.tup [.int ((b.places.length:Nat):Int),.int 16]):=⟨_,rfl⟩;have s5:ah H4 H5:=eH▸ah.new n5;have t5:H5 q5=some (.tup [.int ((b.places.length:Nat):Int),.int 16]):=eH▸au;rw[←eH];clear eH n5;replace hs:=s5 _ _ hs;replace L:=L.same s5;replace t1:=s5 _ _ t1;replace t2:=s5 _ _ t2;replace t3:=s5 _ _ t3;replace t4:=s5 _ _ t4;simp only[tW ok hs,dN L.seens,aU];refine⟨by show 2<=sizeLine;decide,λq6 n6=>?_⟩;obtain⟨H6,eH⟩:∃X,X=L2.upd H5 q6 (.tup [.int ((b.seens.length:Nat):Int),.int 64]):=⟨_,rfl⟩;have s6:ah H5 H6:=eH▸ah.new n6;have t6:H6 q6=some (.tup [.int ((b.seens.length:Nat):Int),.int 64]):=eH▸au;rw[←eH];clear eH n6;replace hs:=s6 _ _ hs;replace L:=L.same s6;replace t1:=s6 _ _ t1;replace t2:=s6 _ _ t2;replace t3:=s6 _ _ t3;replace t4:=s6 _ _ t4;replace t5:=s6 _ _ t5;simp only[wm ok hs,dN L.ways,aU];refine⟨by show 2<=sizeLine;decide,λq7 n7=>?_⟩;obtain⟨H7,eH⟩:∃X,X=L2.upd H6 q7 (.tup [.int ((b.ways.length:Nat):Int),.int 240]):=⟨_,rfl⟩;have s7:ah H6 H7:=eH▸ah.new n7;have t7:H7 q7=some (.tup [.int ((b.ways.length:Nat):Int),.int 240]):=eH▸au;rw[←eH];clear eH n7;replace hs:=s7 _ _ hs;replace L:=L.same s7;replace t1:=s7 _ _ t1;replace t2:=s7 _ _ t2;replace t3:=s7 _ _ t3;replace t4:=s7 _ _ t4;replace t5:=s7 _ _ t5;replace t6:=s7 _ _ t6;refine⟨by show 7<=sizeLine;decide,λq8 hq8=>?_⟩
 have key:∀(i:Nat)(v:V),[V.ref q1,V.ref q2,V.ref q3,V.ref q4,V.ref q5,V.ref q6,V.ref q7][i]?=some v->∃(y:Nat×Nat)(x:Addr),b.sizes[i]?=some y/\v=.ref x/\H7 x=some (.tup [.int (y.1:Nat),.int (y.2:Nat)]):=by
  intro i v hv
  match i with
  |0=>simp at hv;subst hv;exact⟨_,_,rfl,rfl,t1⟩
  |1=>simp at hv;subst hv;exact⟨_,_,rfl,rfl,t2⟩
  |2=>simp at hv;subst hv;exact⟨_,_,rfl,rfl,t3⟩
  |3=>simp at hv;subst hv;exact⟨_,_,rfl,rfl,t4⟩
  |4=>simp at hv;subst hv;exact⟨_,_,rfl,rfl,t5⟩
  |5=>simp at hv;subst hv;exact⟨_,_,rfl,rfl,t6⟩
  |6=>simp at hv;subst hv;exact⟨_,_,rfl,rfl,t7⟩
  |n+7=>simp at hv
 have s8:ah H7 (L2.upd H7 q8 (.tup [V.ref q1,V.ref q2,V.ref q3,V.ref q4,V.ref q5,V.ref q6,V.ref q7])):=ah.new hq8;refine aj0 (H1:=L2.upd H7 q8 (.tup [V.ref q1,V.ref q2,V.ref q3,V.ref q4,V.ref q5,V.ref q6,V.ref q7])) (a:=q8) (xs:=[V.ref q1,V.ref q2,V.ref q3,V.ref q4,V.ref q5,V.ref q6,V.ref q7]) (λi=>if (b.sizes[i]?).any (λx=>decide (x.2<x.1)) then some (.int (i:Nat)) else none) (λR r=>?_) au (by show 7<=sizeLine;decide) (λu v=>rfl) (λi v H' hv s R hR=>?_) λH' D s e=>?_
 ·simp only[sI];tm_at "r"
  exact .inr ⟨_,.of au,r⟩
 ·obtain⟨y,x,g1,rfl,g2⟩:=key i v hv
  have g2:=s _ _ (s8 _ _ g2);simp only[wipe]
  tm_at "r"
  simp only[aO g2]
  tm_at "r"
  have:=hR H' (ah.refl H');simp only[g1,iE] at this;have e:decide (((y.2:Nat):Int)<(y.1:Nat))=decide (y.2<y.1):=by rw[aT];simp
  rw[e];cases c:decide (y.2<y.1)<;>simpa[c] using this
 ·simp only[e]
  have:=h H' (((((((s1.trans s2).trans s3).trans s4).trans s5).trans s6).trans s7).trans (s8.trans s));have e0:aQ 0 b=eu b.sizes λ(_:Nat)(x:Nat×Nat)=>decide (x.2<x.1):=rfl;rw[e0] at this;have el:[V.ref q1,V.ref q2,V.ref q3,V.ref q4,V.ref q5,V.ref q6,V.ref q7].length=b.sizes.length:=rfl;rw[el,iH (l:=b.sizes) (P:=λz x=>decide (x.2<x.1)) λi f hf=>by simp only[hf,iE]];exact this
theorem PL{K:aD}{wi:TI}{k x:Nat}{a:Addr}{j:Int}{σ:L2.St}{H H1:Hp}{D:Ends}{tb:TS}(S:Nat->L2.St->Prop)(hI:∀R,R (l5 K a j) H1->wi σ H R)(hx:∀H,aP K H a xs)(h0:S 0 σ)(hb:∀(i:Nat)(v:V)(τ:L2.St)(H:Hp)(N:L2.St->Hp->Prop),xs[i]?=some v->ah H1 H->S i τ->(∀mD H',ah H H'->S (i+1) mD->N mD H')->tb {D with nx:=N,ct:=N,bk:=D.nx} ((τ.set k (some (.int (j+(i:Nat))))).set x (some v)) H)(nR:∀τ H',S xs.length τ->ah H1 H'->D.nx τ H'):gf wi (bJ K (.tup [k,x])) tb D σ H:=by
 refine hI _ ⟨λi m τ H'=>m=xs.length-i/\i<=xs.length/\ah H1 H'/\S i τ,⟨_,rfl,dH _,ah.refl _,h0⟩,?_⟩;rintro i m τ H' ⟨rfl,hi,hs,hS⟩
 by_cases aM:i<xs.length
 ·refine .inr ⟨⟨xs,xs[i],hx H',by simp[aM]⟩,λmD H2=>ah H1 H2/\S (i+1) mD,λmD H2 ⟨a1,a2⟩=>⟨xs.length-(i+1),by grind,rfl,by trivial,a1,a2⟩,λz H2 hy=>?_⟩
  obtain⟨T,v,rfl,hT,rfl,hv⟩:=hy;have hv:=hv xs (hx H');simp only[bJ,au,ck,eT,true_and,qa,sY,oi,tD];have s2:ah H' (L2.upd H' T (.tup [.int (j+(i:Nat)),v])):=ah.new hT;exact hb i v τ _ _ hv (hs.trans s2) hS λmD H3 s3 q=>⟨(hs.trans s2).trans s3,q⟩
 ·have e:i=xs.length:=by lia
  subst e;exact .inl ⟨⟨xs,hx H',aY _⟩,nR τ H' hS hs⟩
theorem O8(b:cP):b.fault=match oQ b with|some x=>some (1,x)|none=>match oS b with|some i=>some (2,i)|none=>(oU b).map λi=>(3,i):=by
 unfold Lb oQ oS oU;split
 ·rfl
 ·split
  ·rfl
  ·split
   ·rfl
   ·rfl
theorem G9:∀(l:List (Option Nat))(k i:Nat)(x:Nat),l[i]?=some (some x)->(∀j,j<i->l[j]?=some none)->(l.zipIdx k).findSome? (λ(x:Option Nat×Nat)=>x.1.map λ(p:Nat)=>(x.2+1,p))=some (k+i+1,x)
 |[],k,i,x,h,_=>by simp at h
 |y::l,k,0,x,h,_=>by simp at h;subst h;simp
 |y::l,k,i+1,x,h,hj=>by
  have h0:=hj 0 (by simp);simp at h0;subst h0;have:=G9 l (k+1) i x (by simpa using h) λj q=>by simpa using hj (j+1) (by simp[*])
  simp only[tu,yN,Wa];rw[this,show k+1+i=k+(i+1) by simp+arith]
theorem NC:∀(l:List (Option Nat))(k:Nat),(∀j,j<l.length->l[j]?=some none)->(l.zipIdx k).findSome? (λ(x:Option Nat×Nat)=>x.1.map λ(p:Nat)=>(x.2+1,p))=none
 |[],k,_=>rfl
 |y::l,k,hj=>by
  have h0:=hj 0 (by simp);simp at h0;subst h0;have:=NC l (k+1) λj q=>by simpa using hj (j+1) (by simpa using q)
  simp only[tu,yN,Wa];exact this
theorem zZ(b:bW)(hi:i<15):b.rules[i]?=some (aQ i b):=by
 have hl:b.rules.length=15:=rfl;unfold aQ;rw[gF (by trivial)];rfl
theorem O9(b:bW):b.fault=b.rules.zipIdx.findSome? λ(x:Option Nat×Nat)=>x.1.map λ(p:Nat)=>(x.2+1,p):=by
 have e0:aQ 0 b=eu b.sizes λ(_:Nat)(x:Nat×Nat)=>decide (x.2<x.1):=rfl;cases e:aQ 0 b with
 |some x=>
  have:=G9 b.rules 0 0 x (by rw[zZ b (by simp),e]) (λj q=>absurd q (qk _));rw[this];unfold K2;rw[←e0,e]
 |none=>
  unfold K2;rw[←e0,e]
theorem ZN(hi:i<15)(h:aQ i b=some x)(hj:∀j,j<i->aQ j b=none):b.fault=some (i+1,x):=by
 rw[O9,G9 b.rules 0 i x (by rw[zZ b hi,h]) λj q=>by rw[zZ b (by lia),hj j q]];simp
theorem ZO(hj:∀j,j<15->aQ j b=none):b.fault=none:=by
 rw[O9,NC];intro j q;have hl:b.rules.length=15:=rfl;rw[zZ b (by trivial),hj j (by lia)]
noncomputable def pF(i:Nat)(b:cP):Option Nat:=match i with|0=>oQ b|1=>oS b|_=>oU b
theorem B3(h:pF 0 b=o):oQ b=o:=h
theorem Jk(h:pF 1 b=o):oS b=o:=h
theorem Rb(h:pF 2 b=o):oU b=o:=h
theorem ZP(hi:i<3)(eo:pF i b=some x)(hj:∀j,j<i->pF j b=none):b.fault=some (i+1,x):=by
 rw[O8]
 match i,hi,eo,hj with
 |0,_,eo,_=>rw[B3 eo]
 |1,_,eo,hj=>rw[B3 (hj 0 (by simp)),Jk eo]
 |2,_,eo,hj=>rw[B3 (hj 0 (by simp)),Jk (hj 1 (by simp)),Rb eo];rfl
theorem ZQ(hj:∀j,j<3->pF j b=none):b.fault=none:=by
 rw[O8,B3 (hj 0 (by simp)),Jk (hj 1 (by simp)),Rb (hj 2 (by simp))];rfl
theorem Tu(ok:aK p)(ha:bA p H a b)(h:∀H' v,ah H H'->o6 H' b.fault v->Q v H'):ak (G p 87 3) vJ (fin Q) [some (p.gv 2),some (.ref a),none,none,none] H:=by
 unfold vJ;simp only[ak,sS,G,sE,bz,sT,sC,H_,lX];obtain⟨t,et,hT⟩:=ok.dr;rw[et];refine PL (H1:=H) (a:=t) (j:=1) (xs:=[23,24,25].map λj=>.ref (p.fa j)) (λi τ=>(∃u v w,τ=[some (.ref t),some (.ref a),u,v,w])/\∀j,j<i->pF j b=none) (λR r=>?_) hT ⟨⟨_,_,_,rfl⟩,λj q=>absurd q (qk _)⟩ (λi v τ H' N hv s hS hN=>?_) λτ H' hS s=>?_
 ·simp only[sI];simp only[sE,dG]
  exact⟨_,hT _,r⟩
 ·obtain⟨⟨u,v',w,rfl⟩,hj⟩:=hS
  have iC:bA p H' a b:=by
   obtain⟨dx,fr,rr,q1,q2,q3⟩:=ha;exact⟨dx,fr,rr,s _ _ q1,q2.same s,q3.same s⟩
  have xB:∀(o:Option Nat)(H2:Hp),pF i b=o->i<3->ah H' H2->(if (!decide (bF o=V.az))=true then [V.int (1+(i:Nat)),bF o].length<=sizeLine/\∀q,H2 q=none->Q (.ref q) (L2.upd H2 q (.tup [V.int (1+(i:Nat)),bF o])) else N [some (.ref t),some (.ref a),some (.int (1+(i:Nat))),some v,some (bF o)] H2):=by
   intro o H2 eo hi s2;cases o with
   |none=>
    simp only[bF,decide_true,bH,aL,if_false];refine hN _ H2 s2 ⟨⟨_,_,_,rfl⟩,λj q=>?_⟩;rcases JW.mp q with q|q
    ·exact hj j q
    ·rw[q];exact eo
   |some x=>
    have:decide (bF (some x)=V.az)=false:=by simp[bF]
    simp only[this,jP,if_true];refine⟨by show 2<=sizeLine;decide,λq hq=>h _ _ ((s.trans s2).trans (ah.new hq)) ?_⟩;have ef:b.fault=some (i+1,x):=ZP hi eo hj;rw[ef];refine⟨q,rfl,?_⟩;rw[au];simp only[bF];rw[show((i+1:Nat):Int)=1+(i:Nat) by simp+arith]
  have hi:i<3:=by
   have:=(dF.mp hv).1;simpa using this
  obtain rfl|rfl|rfl:i=0\/i=1\/i=2:=by lia
  ·obtain rfl:V.ref (p.fa 23)=v:=dM hv
   simp only[fF,fE,fC,dG];refine⟨23,rfl,by decide,?_⟩;rw[show spT p 23=uB p oQ from rfl];exact⟨a,b,rfl,iC,λH2 s2=>xB _ H2 rfl hi s2⟩
  ·obtain rfl:V.ref (p.fa 24)=v:=dM hv
   simp only[fF,fE,fC,dG];refine⟨24,rfl,by decide,?_⟩;rw[show spT p 24=uB p oS from rfl];exact⟨a,b,rfl,iC,λH2 s2=>xB _ H2 rfl hi s2⟩
  ·obtain rfl:V.ref (p.fa 25)=v:=dM hv
   simp only[fF,fE,fC,dG];refine⟨25,rfl,by decide,?_⟩;rw[show spT p 25=uB p oU from rfl];exact⟨a,b,rfl,iC,λH2 s2=>xB _ H2 rfl hi s2⟩
 ·obtain⟨_,hj⟩:=hS
  refine h H' _ s ?_;have ef:b.fault=none:=ZQ hj;rw[ef];rfl
theorem acB(h:aQ 0 b=none):b.places.length<=16:=by
 have e0:aQ 0 b=eu b.sizes λ(_:Nat)(x:Nat×Nat)=>decide (x.2<x.1):=rfl;rw[e0] at h;have:=jR.mp h 4 (b.places.length,16) rfl;simpa using this
noncomputable def Jl:List Nat:=[45,46,47,48,49,50,51,52,53,54,55,56,57,58,59]
theorem lSp(p:Pa):∀i,i<15->∃j,Jl[i]?=some j/\j<87/\∀(H:Hp)(Q:VK)(E:XK)(a:Addr)(b:bW),a_ p H a b->(∀j,j<i->aQ j b=none)->(∀H',ah H H'->Q (bF (aQ i b)) H')->spT p j [.ref a] H Q E
 |0,_=>⟨45,rfl,by decide,λH Q E a b ha hp h=>by
  rw[show spT p 45=cX p (λz=>True) (aQ 0) from rfl];exact⟨a,b,rfl,ha,trivial,h⟩⟩
 |1,_=>⟨46,rfl,by decide,λH Q E a b ha hp h=>by
  rw[show spT p 46=cX p (λz=>True) (aQ 1) from rfl];exact⟨a,b,rfl,ha,trivial,h⟩⟩
 |2,_=>⟨47,rfl,by decide,λH Q E a b ha hp h=>by
  rw[show spT p 47=cX p (λz=>True) (aQ 2) from rfl];exact⟨a,b,rfl,ha,trivial,h⟩⟩
 |3,_=>⟨48,rfl,by decide,λH Q E a b ha hp h=>by
  rw[show spT p 48=cX p (λz=>True) (aQ 3) from rfl];exact⟨a,b,rfl,ha,trivial,h⟩⟩
 |4,_=>⟨49,rfl,by decide,λH Q E a b ha hp h=>by
  rw[show spT p 49=cX p (λz=>True) (aQ 4) from rfl];exact⟨a,b,rfl,ha,trivial,h⟩⟩
 |5,_=>⟨50,rfl,by decide,λH Q E a b ha hp h=>by
  rw[show spT p 50=cX p (λz=>True) (aQ 5) from rfl];exact⟨a,b,rfl,ha,trivial,h⟩⟩
 |6,_=>⟨51,rfl,by decide,λH Q E a b ha hp h=>by
  rw[show spT p 51=cX p (As) (aQ 6) from rfl];exact⟨a,b,rfl,ha,hp 5 (by simp),h⟩⟩
 |7,_=>⟨52,rfl,by decide,λH Q E a b ha hp h=>by
  rw[show spT p 52=cX p (λz=>True) (aQ 7) from rfl];exact⟨a,b,rfl,ha,trivial,h⟩⟩
 |8,_=>⟨53,rfl,by decide,λH Q E a b ha hp h=>by
  rw[show spT p 53=cX p (λz=>True) (aQ 8) from rfl];exact⟨a,b,rfl,ha,trivial,h⟩⟩
 |9,_=>⟨54,rfl,by decide,λH Q E a b ha hp h=>by
  rw[show spT p 54=cX p (λz=>True) (aQ 9) from rfl];exact⟨a,b,rfl,ha,trivial,h⟩⟩
 |10,_=>⟨55,rfl,by decide,λH Q E a b ha hp h=>by
  rw[show spT p 55=cX p (λz=>True) (aQ 10) from rfl];exact⟨a,b,rfl,ha,trivial,h⟩⟩
 |11,_=>⟨56,rfl,by decide,λH Q E a b ha hp h=>by
  rw[show spT p 56=cX p (λz=>True) (aQ 11) from rfl];exact⟨a,b,rfl,ha,trivial,h⟩⟩
 |12,_=>⟨57,rfl,by decide,λH Q E a b ha hp h=>by
  rw[show spT p 57=cX p (λz=>True) (aQ 12) from rfl];exact⟨a,b,rfl,ha,trivial,h⟩⟩
 |13,_=>⟨58,rfl,by decide,λH Q E a b ha hp h=>by
  rw[show spT p 58=cX p (λz=>True) (aQ 13) from rfl];exact⟨a,b,rfl,ha,trivial,h⟩⟩
 |14,_=>⟨59,rfl,by decide,λH Q E a b ha hp h=>by
  rw[show spT p 59=cX p (λb=>aQ 11 b=none/\aQ 12 b=none/\b.places.length<=16) (aQ 14) from rfl];exact⟨a,b,rfl,ha,⟨hp 11 (by simp),hp 12 (by simp),acB (hp 0 (by simp))⟩,h⟩⟩
 |n+15,h=>absurd h (by simp)
theorem Tv(ok:aK p)(ha:a_ p H a b)(h:∀H' v,ah H H'->o6 H' b.fault v->Q v H'):ak (G p 87 3) vJ (fin Q) [some (p.gv 3),some (.ref a),none,none,none] H:=by
 unfold vJ;simp only[ak,sS,G,sE,bz,sT,sC,H_,lX];obtain⟨t,et,hT⟩:=ok.lr;rw[et];have hT:∀H,aP p.K H t (Jl.map λj=>.ref (p.fa j)):=hT;refine PL (H1:=H) (a:=t) (j:=1) (xs:=Jl.map λj=>.ref (p.fa j)) (λi τ=>(∃u v w,τ=[some (.ref t),some (.ref a),u,v,w])/\∀j,j<i->aQ j b=none) (λR r=>?_) hT ⟨⟨_,_,_,rfl⟩,λj q=>absurd q (qk _)⟩ (λi v τ H' N hv s hS hN=>?_) λτ H' hS s=>?_
 ·simp only[sI];simp only[sE,dG]
  exact⟨_,hT _,r⟩
 ·obtain⟨⟨u,v',w,rfl⟩,hj⟩:=hS
  have iC:a_ p H' a b:=by
   obtain⟨dx,l,pe,o,hh,s0,pl,w,se,q1,L⟩:=ha;exact⟨dx,l,pe,o,hh,s0,pl,w,se,s _ _ q1,L.same s⟩
  have hi:i<15:=by
   have:=(dF.mp hv).1;rw[aU] at this;exact this
  obtain⟨j,ej,lj,jg⟩:=lSp p i hi
  obtain rfl:V.ref (p.fa j)=v:=by
   rw[eS,ej] at hv;exact dM hv
  simp only[fF,fE,fC,dG];refine⟨j,rfl,lj,jg _ _ _ a b iC hj λH2 s2=>?_⟩;cases eo:aQ i b with
  |none=>
   simp only[bF,decide_true,bH,aL,if_false];refine hN _ H2 s2 ⟨⟨_,_,_,rfl⟩,λj q=>?_⟩;rcases JW.mp q with q|q
   ·exact hj j q
   ·rw[q];exact eo
  |some x=>
   have:decide (bF (some x)=V.az)=false:=by simp[bF]
   simp only[this,jP,if_true];refine⟨by show 2<=sizeLine;decide,λq hq=>h _ _ ((s.trans s2).trans (ah.new hq)) ?_⟩;rw[ZN hi eo hj];refine⟨q,rfl,?_⟩;rw[au];simp only[bF];rw[show((i+1:Nat):Int)=1+(i:Nat) by lia]
 ·obtain⟨_,hj⟩:=hS
  refine h H' _ s ?_;rw[ZO hj];rfl
theorem Sy(ha:bA p H a b)(h:∀H' v,ah H H'->o6 H' b.fault v->Q v H'):ak (G p 88 3) Cu (fin Q) [some (.ref a)] H:=by
 unfold Cu;tm_at "r";exact .inl ⟨a,b,rfl,ha,h⟩
theorem SQ(ha:a_ p H a b)(h:∀H' v,ah H H'->o6 H' b.fault v->Q v H'):ak (G p 89 3) CD (fin Q) [some (.ref a)] H:=by
 unfold CD;tm_at "r";exact .inr ⟨a,b,rfl,ha,h⟩
theorem lU(h:H a=some (.lst xs)):cu .len [.ref a] H Q=Q (.int (xs.length:Nat)) H:=by simp only[cu,bM h]
set_option tactic.hygienic true in
theorem oH(k:∀(a:Addr)(ys:List V),H a=some (.tup ys)->H' a=some (.tup ys)):∀{xs:List V}{rs:List (List Int)},rows? H xs=some rs->rows? H' xs=some rs
 |[],rs,h=>h
 |x::xs,rs,h=>by
  cases x<;>simp only[rows?] at h<;>try (cases h;done)
  rename_i a;split at h
  ·rename_i ys e
   split at h
   ·rename_i ns r e2 e3
    simp only[rows?,k a _ e,e2,oH k e3];exact h
   ·cases h
  ·cases h
theorem ahp{K:aD}{wi:TI}{x n:Nat}{lo c:Int}{tt:TT}{te:TE}{σ:L2.St}{H H1:Hp}{Q:VK}(rs:List (List Int))(hI:∀R,R (BD lo c n) H1->wi σ H R)(hn:n=rs.length)(hz:n<=70000)(hz2:∀r∈rs,r.length<=70000)(hw:∀v:V,wipe ((wipe σ vs).set x (some v)) vs=wipe σ vs)(hs:∀(i:Nat)(r:List Int)(H:Hp),rs[i]?=some r->ah H1 H->∀R:V->Hp->Prop,(∀H' q,ah H H'->H' q=some (.tup (r.map V.int))->R (.ref q) H')->tt ((wipe σ vs).set x (some (.int (lo+(i:Nat)*c)))) H λb H3=>b=true/\te ((wipe σ vs).set x (some (.int (lo+(i:Nat)*c)))) H3 R)(hm:∀τ H (A B:Bool->Hp->Prop),(∀b H,A b H->B b H)->tt τ H A->tt τ H B)(hd:∀H' D,ah H1 H'->H1 D=none->aZ H' D rs->Q (.ref D) H'):eZ wi (bJ K (.name x)) tt te vs σ H Q:=by
 refine hI _ λD hD=>⟨λi m H=>m=n-i/\i<=n/\ah H1 H/\∃acc,H D=some (.lst acc)/\acc.length=i/\rows? H acc=some (rs.take i),⟨n,by simp,dH _,ah.new hD,[],au,rfl,rfl⟩,?_⟩;rintro i m H ⟨rfl,hi,c7,acc,gk,ku,jm⟩
 by_cases aM:i<n
 ·refine .inr ⟨aM,λH'=>ah H1 H'/\∃acc,H' D=some (.lst acc)/\acc.length=i+1/\rows? H' acc=some (rs.take (i+1)),λH' ⟨a,b⟩=>⟨n-(i+1),by grind,rfl,by trivial,a,b⟩,λz H' hy=>?_⟩
  obtain⟨rfl,rfl⟩:=hy;have hr:rs[i]?=some rs[i]:=by simp[show i<rs.length by omega]
  refine⟨hw _,?_⟩;refine hm _ _ _ _ (λb H3 q=>?_) (hs i rs[i] _ hr c7 (λy H4=>∃acc,H4 D=some (.lst acc)/\acc.length<sizeLine/\(ah H1 (L2.upd H4 D (.lst (acc++[y])))/\∃l9,(L2.upd H4 D (.lst (acc++[y]))) D=some (.lst l9)/\l9.length=i+1/\rows? (L2.upd H4 D (.lst (acc++[y]))) l9=some (rs.take (i+1)))) λH4 q s4 hq=>?_)
  ·obtain⟨rfl,q⟩:=q
   simp only[if_true];exact q
  ·refine⟨acc,s4 _ _ gk,by rw[ku];unfold sizeLine;lia,ah.put (c7.trans s4) hD,acc++[.ref q],au,by simp[ku],?_⟩
   have e:rs.take (i+1)=rs.take i++[rs[i]]:=by rw[oq,hr];rfl
   rw[e]
   have nD:∀(a:Addr)(ys:List V),H4 a=some (.tup ys)->a≠D:=λa ys ha e=>by
    rw[e,s4 _ _ gk] at ha;cases ha
   refine wk (oH (H:=H4) (λa ys ha=>by rw[aI (nD a ys ha)];exact ha) (ah.rows s4 jm)) ?_;rw[aI (nD q _ hq)];exact hq
 ·have e:i=n:=by lia
  subst e;refine .inl ⟨aY _,hd H D c7 hD ⟨acc,gk,?_,by simp_all,hz2⟩⟩;rw[jm,hn,Vf]
theorem aiL(hc:1<=c)(vo:c<=16)(hn:n<=70000):IU 0 (n:Nat) (c:Nat) ((n+c-1)/c):=by
 have er:yI 0 (n:Nat) (c:Nat)=((n+c-1)/c:Nat):=by
  unfold yI;rw[if_pos (by simp+arith [*])]
  by_cases h:n=0
  ·subst h
   rw[if_neg (by decide),Vg (by omega)];rfl
  ·rw[if_pos (by lia)]
   have:n+c-1=(n-1)+c:=by lia
   rw[this,Uo _ (by trivial)];have e2:((n:Nat):Int)-0-1=((n-1:Nat):Int):=by lia
   rw[e2];simp
 refine⟨by lia,by(simp;lia),?_,er⟩;unfold Ti;rw[er];have:(n+c-1)/c<=n+c:=eU (Wb _ _) (by simp);generalize (n+c-1)/c=k at*;simp only[alA,bx,V1,decide_eq_true_eq,beq_iff_eq];refine⟨by(simp;lia),.inr ?_⟩;rw[if_pos (by lia)];simp only[bx,decide_eq_true_eq];lia
theorem ZR(ha:H a=some (.lst (ns.map V.int)))(hc:1<=c)(vo:c<=16)(hn:ns.length<=65536)(h:∀H' D,ah H H'->H D=none->aZ H' D (bP c ns)->Q (.ref D) H'):ak (G p 70 3) Fw (fin Q) [some (.ref a),some (.int (c:Nat)),none] H:=by
 unfold Fw;tm_at "r";have hl:(bP c ns).length=(ns.length+c-1)/c:=by unfold bP;simp
 have hk:(ns.length+c-1)/c<=70000:=eU (Wb _ _) (by(simp;lia));refine ahp (H1:=H) (lo:=0) (c:=(c:Nat)) (n:=(ns.length+c-1)/c) (bP c ns) (λR r=>?_) hl.symm hk ?_ (λv=>rfl) (λi r H' hr s R hR=>?_) (λτ H A B sH hA=>sH _ _ hA) h
 ·simp only[sI];tm_at "r"
  rw[lU ha,aU];exact⟨_,aiL hc vo (by lia),r⟩
 ·intro r hr
  unfold bP at hr;simp only[gH] at hr;obtain⟨i,_,rfl⟩:=hr;rw[vD]
  grind
 ·simp only[wipe]
  tm_at "r"
  have er:r=(ns.drop (i*c)).take c:=by
   unfold bP at hr;simp only[eS,mO] at hr;obtain⟨j,e1,rfl⟩:=hr;have:=dF.mp e1;obtain⟨_,e2⟩:=this;simp at e2;subst e2;rfl
  subst er;simp only[jx,s _ _ ha];refine⟨trivial,λq hq=>?_⟩;delta cu;simp only[au];intro q2 sJ;refine hR _ q2 ((ah.new hq).trans (ah.new sJ)) ?_;rw[au];have e1:(0:Int)+(i:Nat)*(c:Nat)=((i*c:Nat):Int):=by simp
  have e2:(0:Int)+(i:Nat)*(c:Nat)+(c:Nat)=((i*c+c:Nat):Int):=by simp
  rw[e2,e1,HA,Nat.add_sub_cancel_left,qm,zc]
theorem afE(ha:H a=some (.lst (ns.map V.int)))(xU:H cc=some (.tup (cols.map V.int)))(hc:1<=c)(hn:ns.length<=65536)(h:∀H',ah H H'->Q (.bl (cI c cols ns)) H'):ak (G p 71 3) Hx (fin Q) [some (.ref a),some (.int (c:Nat)),some (.ref cc),none,none] H:=by
 unfold Hx;tm_at "r";rw[lU ha,aU]
 tm_at "r"
 refine⟨by lia,?_⟩;have e0:decide (((ns.length:Nat):Int) % (c:Nat)=0)=decide (ns.length % c=0):=by rw[aT];simp;(constructor<;>lia)
 rw[e0];unfold cI at h;cases c0:decide (ns.length % c=0) with
 |false=>
  rw[c0] at h;simp only[jP,if_true];exact h H (ah.refl H)
 |true=>
  rw[c0] at h;simp only[bH,aL,if_false];refine jJ (H1:=H) (xs:=ns.map V.int) (λi=>some (.bl (decide (0<=ns.getD i 0)|| !decide (((i % c:Nat):Int)∈cols)))) (λR r=>?_) ha (by simp;unfold sizeLine;lia) (λu v=>rfl) (λi v H' hv s R hR=>?_) λH' D s e=>?_
  ·simp only[sI];tm_at "r"
   exact .inl ⟨_,.of ha,r⟩
  ·simp only[eS,mO] at hv
   obtain⟨n,hn,rfl⟩:=hv;have en:ns.getD i 0=n:=by simp[hn]
   rw[en] at hR;simp only[wipe]
   tm_at "r"
   have em:((i:Nat):Int) % (c:Nat)=((i % c:Nat):Int):=by simp
   cases c1:decide (0<=n) with
   |true=>
    rw[c1] at hR;simp only[if_true];exact hR H' (ah.refl H')
   |false=>
    rw[c1] at hR;simp only[aL,if_false];refine⟨by lia,?_⟩;simp only[dW,aO (s _ _ xU),Mini.ints_map];rw[em];exact hR H' (ah.refl H')
  ·rw[Nz (λi=>.bl (decide (0<=ns.getD i 0)|| !decide (((i % c:Nat):Int)∈cols))),aU] at e
   have e2:((cS ns.length).map λi=>V.bl (decide (0<=ns.getD i 0)|| !decide (((i % c:Nat):Int)∈cols)))=((cS ns.length).map λi=>decide (0<=ns.getD i 0)|| !decide (((i % c:Nat):Int)∈cols)).map V.bl:=by rw[ff];rfl
   rw[e2] at e;show cu .all [.ref D] H' Q;rw[HP e,qv];exact h H' s
theorem ND(hN:H N=none)(s:ah H H')(hA:H' N=some (.lst acc))(hr:rows? H' acc=some rs)(n1:H' q1=none)(n2:L2.upd H' q1 (.lst xs) q2=none):
 (L2.upd (L2.upd H' q1 (.lst xs)) q2 (.tup (r.map V.int))) N=some (.lst acc)/\ah H (L2.upd (L2.upd (L2.upd H' q1 (.lst xs)) q2 (.tup (r.map V.int))) N (.lst (acc++[.ref q2])))/\rows? (L2.upd (L2.upd (L2.upd H' q1 (.lst xs)) q2 (.tup (r.map V.int))) N (.lst (acc++[.ref q2]))) (acc++[.ref q2])=some (rs++[r]):=by
 have s3:ah H' (L2.upd (L2.upd H' q1 (.lst xs)) q2 (.tup (r.map V.int))):=(ah.new n1).trans (ah.new n2);have e3:(L2.upd (L2.upd H' q1 (.lst xs)) q2 (.tup (r.map V.int))) q2=some (.tup (r.map V.int)):=au;generalize L2.upd (L2.upd H' q1 (.lst xs)) q2 (.tup (r.map V.int))=H3 at*
 have nD:∀(a:Addr)(ys:List V),H3 a=some (.tup ys)->a≠N:=λa ys ha e=>by
  rw[e,s3 _ _ hA] at ha;cases ha
 refine⟨s3 _ _ hA,ah.put (s.trans s3) hN,?_⟩;refine wk (oH (H:=H3) (λa ys ha=>by rw[aI (nD a ys ha)];exact ha) (ah.rows s3 hr)) ?_;rw[aI (nD q2 _ e3)];exact e3
theorem Xy(ha:H a=some (.lst (ns.map V.int)))(hn:ns.length<=65536)(h:∀H' D,ah H H'->H D=none->aZ H' D (g_ ns)->Q (.ref D) H'):ak (G p 30 3) Em (fin Q) [some (.ref a),none,none,none,none] H:=by
 unfold Em;tm_at "r";simp only[lU ha,aU]
 tm_at "r"
 unfold g_ at h
 by_cases c0:ns=[]
 ·subst c0
  simp only[if_true] at h;simp only[eT,Vj,decide_true,if_true];refine⟨by show 0<=sizeLine;decide,λq hq=>h _ q (ah.new hq) hq ⟨[],au,rfl,by simp,by simp⟩⟩
 simp only[c0,if_false] at h
 have c0':¬((ns.length:Nat):Int)=0:=by
  have:ns.length≠0:=λe=>c0 (vz.mp e);simp[*]
 simp only[c0',decide_false,aL,if_false];refine⟨by show 0<=sizeLine;decide,λN hN=>?_⟩;have hNa:a≠N:=bV ha hN;have ps:=LC ns;unfold gf;simp only[sI];tm_at "r";have yq:L2.upd H N (.lst []) a=some (.lst (ns.map V.int)):=by rw[aI hNa];exact ha
 refine .inl ⟨_,.of yq,λi m τ H'=>m=ns.length-i/\i<=ns.length/\ah H H'/\∃(b:Nat)(acc:List V)(rs:List (List Int))(u v:Option V),τ=[some (.ref a),some (.ref N),some (.int (b:Nat)),u,v]/\b<=i/\H' N=some (.lst acc)/\acc.length<=i/\rows? H' acc=some rs/\parts ns=rs++parts (ns.drop b)/\(∀c∈(ns.drop b).take (i-b),c≠32),
  ⟨_,rfl,dH _,ah.new hN,0,[],[],none,none,rfl,aY _,au,by simp,rfl,rfl,by simp⟩,?_⟩
 rintro i m τ H' ⟨rfl,hi,hs,b,acc,rs,u,v,rfl,hb,hA,hl,hr,hp,hc⟩;have iC:=hs _ _ ha
 by_cases aM:i<ns.length
 ·refine .inr ⟨⟨_,.int ns[i],.of iC,by simp[aM]⟩,_,λmD H2 q=>⟨ns.length-(i+1),by grind,q⟩,λz H2 hy=>?_⟩
  obtain⟨T,v,rfl,hT,rfl,hv⟩:=hy;have hv:=hv _ (.of iC)
  have ev:v=.int ns[i]:=by
   rw[eS,gF aM] at hv;exact(dM hv).symm
  subst ev;simp only[bJ,au,ck,eT,true_and,qa,sY,oi,tD];have s2:ah H' (L2.upd H' T (.tup [.int (i:Nat),.int ns[i]])):=ah.new hT;generalize L2.upd H' T (.tup [.int (i:Nat),.int ns[i]])=H2 at*;replace iC:=s2 _ _ iC;replace hA:=s2 _ _ hA;replace hr:=ah.rows s2 hr;replace hs:=hs.trans s2
  tm_at "r"
  by_cases c1:ns[i]=32
  ·simp only[c1,decide_true,if_true,hA,true_and,jx,iC]
   intro q1 n1;simp only[cu,au];intro q2 n2;have ec:fz (ns.map V.int) (some (b:Int)) (some (i:Int))=((ns.drop b).take (i-b)).map V.int:=by rw[HA,qm,zc]
   rw[ec] at n2 ⊢;obtain⟨k1,k2,k3⟩:=ND (r:=(ns.drop b).take (i-b)) hN hs hA hr n1 n2;simp only[kg,k1];refine⟨by unfold sizeLine;lia,by trivial,k2,i+1,_,_,_,_,rfl,by simp,au,by simp;omega,k3,?_,?_⟩
   ·have ed:ns.drop b=(ns.drop b).take (i-b)++32::ns.drop (i+1):=by
     have e1:=J2 (i-b) (ns.drop b);rw[vM,show b+(i-b)=i by simp[*],yH aM,c1] at e1;exact e1.symm
    rw[hp,C2];congr 1
    conv=>lhs;rw[ed]
    rw[GA hc];rfl
   ·intro c cV
    simp at cV
  ·simp only[c1,decide_false,aL,if_false]
   refine⟨by lia,hs,b,acc,rs,_,_,rfl,by(constructor<;>omega),hA,by(constructor<;>omega),hr,hp,?_⟩;intro c cV;rw[show i+1-b=(i-b)+1 by grind,oq,jO] at cV;rcases cV with q|q
   ·exact hc c q
   ·rw[Km,show b+(i-b)=i by lia,gF aM] at q
    simp at q;rw[q];exact c1
 ·have e:i=ns.length:=by lia
  subst e;refine .inl ⟨⟨_,.of iC,by simp⟩,?_⟩
  tm_at "r"
  simp only[hA,true_and,jx,iC];intro q1 n1;simp only[cu,au];intro q2 n2;have ec:fz (ns.map V.int) (some (b:Int)) none=(ns.drop b).map V.int:=by rw[G8,zc]
  rw[ec] at n2 ⊢;obtain⟨k1,k2,k3⟩:=ND (r:=ns.drop b) hN hs hA hr n1 n2;simp only[kg,k1];refine⟨by unfold sizeLine;lia,h _ N k2 hN ⟨_,au,?_,by lia,λr sM=>eU (ps.2 r sM) (by lia)⟩⟩;have el:(ns.drop b).take (ns.length-b)=ns.drop b:=jo (by rw[lu];simp);rw[el] at hc;rw[k3,hp,Fc hc]
theorem WA(ok:aK p)(hx:H x=some (.ins (p.cl 1) dx []))(h:Q .az (upd H x (.ins (p.cl 1) dx (l8 y z f r)))):ak (G p 0 0) DU (fin Q) [some (.ref x),some (.int y),some (.int z),some (.ref f),some (.ref r)] H:=by
 unfold DU;tm_at "r";simp+decide only[pC,hx,au,ok.cls,ok.na,true_and,eT,ck,qw,qM,dU,if_false];exact h
theorem Xz(ok:aK p)(hx:H x=some (.ins (p.cl 2) dx []))(h:Q .az (upd H x (.ins (p.cl 2) dx (jF l pe o hh s pl w se)))):ak (G p 0 0) En (fin Q) [some (.ref x),some (.ref l),some (.ref pe),some (.ref o),some (.ref hh),some (.ref s),some (.ref pl),some (.ref w),some (.ref se)] H:=by
 unfold En;tm_at "r";simp+decide only[pC,hx,au,ok.cls,ok.na,true_and,eT,ck,qw,qM,dU,if_false];exact h
theorem wo{K:aD}{H H':Hp}{a:Addr}(h:aP K H a xs)(s:ah H H'):aP K H' a xs:=by
 rcases h with(h|⟨z,h⟩)|h
 ·exact .inl (.inl (s _ _ h))
 ·exact .inl (.inr ⟨z,s _ _ h⟩)
 ·exact .inr h
theorem Bd.same(h:Bd p H v x)(s:ah H H'):Bd p H' v x:=
 let ⟨t,e,z⟩:=h;⟨t,e,wo z s⟩
section
variable{σ:L2.St}{H0:Hp}{l c:Nat}
def iW(p:Pa)(l c:Nat)(σ:L2.St)(H0:Hp)(e:E)(b:Int×Int):Prop:=∀H Q,ah H0 H->(∀H' v,ah H H'->Bd p H' v b->Q v H')->sE (G p l c) e σ H Q
theorem xu(ok:aK p)(h:(j,x.1,x.2)∈[(6,(0:Int),(0:Int)),(7,1,12),(8,0,6),(9,1,2000),(10,1,19)]):iW p l c σ H0 (.b_ j) x:=λH Q s q=>
 let ⟨t,e,z⟩:=ok.bd j x.1 x.2 h;q H _ (ah.refl H) ⟨t,e,z H⟩
theorem PM(hd:∀H Q,sE (G p l c) d σ H Q=Q (.int x.1) H)(he:∀H Q,sE (G p l c) e σ H Q=Q (.int x.2) H):iW p l c σ H0 (.tup (.cons d (.cons e .nil))) x:=λH Q s q=>by
 simp only[sE,bz,hd,he];exact⟨by show 2<=sizeLine;decide,λt ht=>q _ _ (ah.new ht) ⟨t,rfl,.of au⟩⟩
theorem PN(hv:σ[i]?=some (some v))(h:Bd p H0 v x):iW p l c σ H0 (.var i) x:=λH Q s q=>by
 simp only[sE,hv];exact q H _ (ah.refl H) (h.same s)
def uK(p:Pa)(H:Hp)(v:V)(l:List (Int×Int)):Prop:=∃T v0 v1 v2 v3,v=.ref T/\H T=some (.tup [v0,v1,v2,v3])/\Bd p H v0 (l.getD 0 (0,0))/\Bd p H v1 (l.getD 1 (0,0))/\Bd p H v2 (l.getD 2 (0,0))/\Bd p H v3 (l.getD 3 (0,0))
theorem uK.same(h:uK p H v r)(s:ah H H'):uK p H' v r:=
 let ⟨T,v0,v1,v2,v3,a,b,d0,d1,d2,d3⟩:=h;⟨T,v0,v1,v2,v3,a,s _ _ b,d0.same s,d1.same s,d2.same s,d3.same s⟩
def Rc(p:Pa)(l c:Nat)(σ:L2.St)(H0:Hp)(e:E)(r:List (Int×Int)):Prop:=∀H Q,ah H0 H->(∀H' v,ah H H'->uK p H' v r->Q v H')->sE (G p l c) e σ H Q
theorem mG(h0:iW p l c σ H0 e0 b0)(h1:iW p l c σ H0 e1 b1)(h2:iW p l c σ H0 e2 b2)(h3:iW p l c σ H0 e3 b3):Rc p l c σ H0 (.tup (.cons e0 (.cons e1 (.cons e2 (.cons e3 .nil))))) [b0,b1,b2,b3]:=λH Q s q=>by
 simp only[sE,bz];refine h0 H _ s λH1 v0 s1 k0=>h1 H1 _ (s.trans s1) λH2 v1 s2 k1=>h2 H2 _ ((s.trans s1).trans s2) λH3 v2 s3 k2=>h3 H3 _ (((s.trans s1).trans s2).trans s3) λH4 v3 s4 k3=>⟨by show 4<=sizeLine;decide,λT hT=>?_⟩;have n:=ah.new (o:=.tup [v0,v1,v2,v3]) hT;exact q _ _ ((((s1.trans s2).trans s3).trans s4).trans n) ⟨T,v0,v1,v2,v3,rfl,au,k0.same (((s2.trans s3).trans s4).trans n),k1.same ((s3.trans s4).trans n),k2.same (s4.trans n),k3.same n⟩
def j8(p:Pa)(H:Hp):List V->List (List (Int×Int))->Prop
 |[],[]=>True
 |v::vs,r::rs=>uK p H v r/\j8 p H vs rs
 |_,_=>False
theorem j8.same(s:ah H H'):∀{vs:List V}{rs:List (List (Int×Int))},j8 p H vs rs->j8 p H' vs rs
 |[],[],_=>trivial
 |_::_,_::_,h=>⟨h.1.same s,j8.same s h.2⟩
theorem j8.get:∀{vs:List V}{rs:List (List (Int×Int))}{k:Nat}{r:List (Int×Int)},j8 p H vs rs->rs[k]?=some r->∃v,vs[k]?=some v/\uK p H v r
 |[],[],_,_,_,e=>by simp at e
 |[],_::_,_,_,h,_=>h.elim
 |_::_,_::_,0,_,h,e=>by cases e;exact⟨_,rfl,h.1⟩
 |_::_,_::_,k+1,_,h,e=>j8.get (k:=k) h.2 e
theorem j8.len:∀{vs:List V}{rs:List (List (Int×Int))},j8 p H vs rs->vs.length=rs.length
 |[],[],_=>rfl
 |_::_,_::_,h=>congrArg (·+1) (j8.len h.2)
def A9(p:Pa)(l c:Nat)(σ:L2.St)(H0:Hp)(es:Es)(rs:List (List (Int×Int))):Prop:=∀H Q,ah H0 H->(∀H' vs,ah H H'->j8 p H' vs rs->Q vs H')->bz (G p l c) es σ H Q
theorem evn:A9 p l c σ H0 .nil []:=λH Q s q=>q H [] (ah.refl H) trivial
theorem mH(h:Rc p l c σ H0 e r)(t:A9 p l c σ H0 es rs):A9 p l c σ H0 (.cons e es) (r::rs):=λH Q s q=>by
 simp only[bz];exact h H _ s λH1 v s1 k=>t H1 _ (s.trans s1) λH2 vs s2 ks=>q H2 _ (s1.trans s2) ⟨k.same s2,ks⟩
end
noncomputable def Rf:Es:=match vW with
 | .cons _ (.cons _ (.cons (.set _ (.tup e)) _))=>e
 |_=>.nil
theorem ahq(ok:aK p)(h1:Bd p H q1 (0,((b.feasts.length:Nat):Int)-1))(h2:Bd p H q2 (0,((b.reigns.length:Nat):Int)-1)):A9 p 79 3 [a,k,some q1,some q2,x] H Rf ((cS 10).map (jf b)):=by
 have N:iW p 79 3 [a,k,some q1,some q2,x] H (.b_ 6) (0,0):=xu ok (by decide);have M:iW p 79 3 [a,k,some q1,some q2,x] H (.b_ 7) (1,12):=xu ok (by decide);have W:iW p 79 3 [a,k,some q1,some q2,x] H (.b_ 8) (0,6):=xu ok (by decide);have Y:iW p 79 3 [a,k,some q1,some q2,x] H (.b_ 9) (1,2000):=xu ok (by decide);have U:iW p 79 3 [a,k,some q1,some q2,x] H (.b_ 10) (1,19):=xu ok (by decide);have F:iW p 79 3 [a,k,some q1,some q2,x] H (.var 2) (0,((b.feasts.length:Nat):Int)-1):=PN rfl h1;have R:iW p 79 3 [a,k,some q1,some q2,x] H (.var 3) (0,((b.reigns.length:Nat):Int)-1):=PN rfl h2;have I:∀i j:Int,iW p 79 3 [a,k,some q1,some q2,x] H (.tup (.cons (.cst (.int i)) (.cons (.cst (.int j)) .nil))) (i,j):=λi j=>PM (λz z=>rfl) (λz z=>rfl);exact mH (mG M (I 1 31) N N) (mH (mG M (I 0 2) N (I 1 19)) (mH (mG W N N N) (mH (mG (I 0 5) N N Y) (mH (mG (I 0 1) N N (I 1 15)) (mH (mG F N N (PM (x:=(-400,400)) (λz z=>rfl) (λz z=>rfl))) (mH (mG F W (I 0 1) N) (mH (mG R N N Y) (mH (mG N N N U) (mH (mG W N N N) evn)))))))))
noncomputable def Rg:Ss:=match vW with
 | .cons _ (.cons _ r)=>r
 |_=>.nil
theorem aiM:vW=.cons (.set 2 (.tup (.cons (.cst (.int 0)) (.cons (.ay .sub (.blt .len (.cons (.fld (.var 0) "feasts") .nil)) (.cst (.int 1))) .nil)))) (.cons (.set 3 (.tup (.cons (.cst (.int 0)) (.cons (.ay .sub (.blt .len (.cons (.fld (.var 0) "reigns") .nil)) (.cst (.int 1))) .nil)))) Rg):=rfl
theorem ahr:Rg=.cons (.set 4 (.tup Rf)) (.cons (.ret (.ix (.var 4) (.var 1))) .nil):=rfl
theorem ZS(ok:aK p)(ha:bA p H a b)(hk:k<10)(h:∀H' T v0 v1 v2 v3,ah H H'->H' T=some (.tup [v0,v1,v2,v3])->Bd p H' v0 ((jf b k).getD 0 (0,0))->Bd p H' v1 ((jf b k).getD 1 (0,0))->Bd p H' v2 ((jf b k).getD 2 (0,0))->Bd p H' v3 ((jf b k).getD 3 (0,0))->Q (.ref T) H'):ak (G p 79 3) vW (fin Q) [some (.ref a),some (.int (k:Nat)),none,none,none] H:=by
 rw[aiM];obtain⟨dx,fr,rr,hs,hf,hr⟩:=ha
 tm_at "r"
 simp only[tS ok hs,dN hf,aU]
 tm_at "r"
 refine⟨by show 2<=sizeLine;decide,λq1 n1=>?_⟩;have s1:=ah.new (o:=.tup [.int 0,.int (((b.feasts.length:Nat):Int)-1)]) n1;simp only[tT ok (s1 _ _ hs),dN (hr.same s1),aU]
 tm_at "r"
 refine⟨by show 2<=sizeLine;decide,λq2 n2=>?_⟩;have s2:=ah.new (o:=.tup [.int 0,.int (((b.reigns.length:Nat):Int)-1)]) n2;rw[ahr];simp only[ak,sS,sE];refine ahq ok ⟨q1,rfl,.of (s2 _ _ au)⟩ ⟨q2,rfl,.of au⟩ _ _ (ah.refl _) λH' vs s3 k3=>?_;refine⟨by rw[k3.len];simp;decide,λT hT=>?_⟩;obtain⟨v,e,T',v0,v1,v2,v3,rfl,t,d0,d1,d2,d3⟩:=(k3.same (ah.new (o:=.tup vs) hT)).get (r:=jf b k) (by rw[eS,List.getElem?_range hk];rfl)
 tm_at "r"
 simp only[aO au,qO e];exact h _ T' v0 v1 v2 v3 (((s1.trans s2).trans s3).trans (ah.new hT)) t d0 d1 d2 d3
theorem WB{n:Int}{t:Addr}(ht:rd H t=some xs)(h:Q (.bl (decide (0<=n)&&decide (n<(xs.length:Nat)))) H):ak (G p 91 4) D_ (fin Q) [some (.int n),some (.ref t)] H:=by
 unfold D_;tm_at "r";simp only[cu,ht]
 tm_at "r"
 exact h
theorem WC(ok:aK p)(ha:bA p H a b)(h:Q (.int (D0 b)) H):ak (G p 16 3) DV (fin Q) [some (.ref a)] H:=by
 obtain⟨dx,f,r,ha,_,_⟩:=ha;unfold DV;tm_at "r";simp only[KY ok ha];exact h
theorem XA(ok:aK p)(ha:bA p H a b)(h:Q (.int (eB (b.to_+1)-1)) H):ak (G p 17 3) El (fin Q) [some (.ref a)] H:=by
 obtain⟨dx,f,r,ha,_,_⟩:=ha;unfold El;tm_at "r";simp only[K6 ok ha]
 tm_at "r"
 exact h
theorem afF(f:Int)(N:Nat):ny f N=(Sets.cE f N).map V.int:=by
 unfold ny Sets.cE;rw[ff];rfl
theorem acC(ha:bA p H a b)(hb:b.fault=none)(h:∀H' D,ah H H'->bh H' D (Sets.cE (D0 b) (DN b))->Q (.ref D) H'):ak (G p 18 3) GI (fin Q) [some (.ref a)] H:=by
 have hn:=lY hb;unfold GI;tm_at "r";refine⟨a,b,rfl,ha,a,b,rfl,ha,?_⟩
 have e:(eB (b.to_+1)-1+1-D0 b).toNat=DN b:=by
  unfold DN D0;simp
 simp only[e];have e0:D0 b=eB b.from_:=rfl;refine⟨⟨by omega,by lia,by lia,by lia,by lia⟩,λl hl=>h _ l (ah.new hl) ?_⟩;unfold bh;rw[au,afF]
theorem aiN{K:aD}{wi:TI}{x:Nat}{a:Addr}{xs:List V}{tt:TT}{te:TE}{σ:L2.St}{H H1:Hp}{Q:VK}(P:Nat->V->Hp->Prop)(QA:∀i v H H',P i v H->(∀b o,H b=some o->(∀l,o≠HO.lst l)->H' b=some o)->P i v H')(hI:∀R,R (kY K a) H1->wi σ H R)(hx:H1 a=some (.lst xs))(hn:xs.length<=70000)(hw:∀v:V,wipe ((wipe σ vs).set x (some v)) vs=wipe σ vs)(hs:∀(i:Nat)(v:V)(H:Hp),xs[i]?=some v->ah H1 H->∀R:V->Hp->Prop,(∀H' y,ah H H'->P i y H'->R y H')->tt ((wipe σ vs).set x (some v)) H λb H3=>b=true/\te ((wipe σ vs).set x (some v)) H3 R)(hm:∀τ H (A B:Bool->Hp->Prop),(∀b H,A b H->B b H)->tt τ H A->tt τ H B)(hd:∀H' D ys,ah H1 H'->H' D=some (.lst ys)->ys.length=xs.length->(∀i v,ys[i]?=some v->P i v H')->Q (.ref D) H'):eZ wi (bJ K (.name x)) tt te vs σ H Q:=by
 refine hI _ λD hD=>⟨λi m H=>m=xs.length-i/\i<=xs.length/\ah H1 H/\∃acc,H D=some (.lst acc)/\acc.length=i/\∀j v,acc[j]?=some v->P j v H,⟨xs.length,by simp,dH _,ah.new hD,[],au,rfl,λj v h=>by simp at h⟩,?_⟩;rintro i m H ⟨rfl,hi,c7,acc,gk,ku,jm⟩
 by_cases aM:i<xs.length
 ·refine .inr ⟨⟨xs,xs[i],aG.of (c7 _ _ hx),by simp[aM]⟩,λH'=>ah H1 H'/\∃acc,H' D=some (.lst acc)/\acc.length=i+1/\∀j v,acc[j]?=some v->P j v H',λH' ⟨a,b⟩=>⟨xs.length-(i+1),by grind,rfl,by trivial,a,b⟩,λz H' hy=>?_⟩
  obtain⟨eH,hv⟩:=hy;rw[eH];have hv:=hv xs (aG.of (c7 _ _ hx));refine⟨hw _,?_⟩;refine hm _ _ _ _ (λb H3 q=>?_) (hs i z _ hv c7 (λy H4=>∃acc,H4 D=some (.lst acc)/\acc.length<sizeLine/\(ah H1 (L2.upd H4 D (.lst (acc++[y])))/\∃l9,(L2.upd H4 D (.lst (acc++[y]))) D=some (.lst l9)/\l9.length=i+1/\∀j v,l9[j]?=some v->P j v (L2.upd H4 D (.lst (acc++[y]))))) λH4 y s4 hq=>?_)
  ·obtain⟨rfl,q⟩:=q
   simp only[if_true];exact q
  ·have nD:∀(b:Addr)(o:HO),H4 b=some o->(∀l,o≠HO.lst l)->(L2.upd H4 D (.lst (acc++[y]))) b=some o:=λb o hb hl=>by
    have:b≠D:=λe=>by
     rw[e,s4 _ _ gk] at hb;cases hb;exact hl acc rfl
    rw[aI this];exact hb
   refine⟨acc,s4 _ _ gk,by rw[ku];unfold sizeLine;lia,ah.put (c7.trans s4) hD,acc++[y],au,by simp[ku],λj v hj=>?_⟩;rw[S2] at hj;split at hj
   ·refine QA j v H _ (jm j v hj) λb o hb hl=>nD b o (s4 _ _ hb) hl
   ·rename_i hge
    have:j=i:=by
     have:=(dF.mp hj).1;simp at this
     grind
    subst this;rw[ku,E2] at hj;simp at hj;subst hj;exact QA j y H4 _ hq nD
 ·have e:i=xs.length:=by lia
  subst e;exact .inl ⟨⟨xs,aG.of (c7 _ _ hx),aY _⟩,hd H D acc c7 gk ku jm⟩
theorem o7{wi:TI}{g:TG}{tt:TT}{te:TE}{vs:List Nat}{σ:L2.St}{H:Hp}{Q:VK}(h:wi σ H λJ H1=>eZ (λz z R=>R J H1) g tt te vs σ H1 Q):eZ wi g tt te vs σ H Q:=h
theorem Ou:∀{ys:List V},(∀(i:Nat)(v:V),ys[i]?=some v->∃a:Addr,v=V.ref a)->∃as:List Addr,ys=as.map V.ref
 |[],_=>⟨[],rfl⟩
 |y::ys,h=>by
  obtain⟨a,rfl⟩:=h 0 y rfl;obtain⟨as,rfl⟩:=Ou (ys:=ys) λi v hv=>h (i+1) v (by simpa using hv);exact⟨a::as,rfl⟩
theorem abb(ok:aK p)(ha:bA p H a b)(hb:b.fault=none)(h:∀H' D,ah H H'->mZ p H' D (Sets.cE (D0 b) (DN b))->Q (.ref D) H'):ak (G p 19 3) F8 (fin Q) [some (.ref a),none] H:=by
 have hn:=lY hb;unfold F8;tm_at "r";have hl:(Sets.cE (D0 b) (DN b)).length=DN b:=by unfold Sets.cE;simp
 refine o7 ?_;simp only[sI];tm_at "r";refine⟨a,b,rfl,ha,hb,λH1 L s1 hL=>.inl ⟨_,.of hL,?_⟩⟩;refine aiN (a:=L) (H1:=H1) (xs:=(Sets.cE (D0 b) (DN b)).map V.int) (λi v H=>∃x,v=V.ref x/\gO p H x ((Sets.cE (D0 b) (DN b)).getD i 0)) ?_ (λR r=>r) hL (by simp[hl];lia) (λv=>rfl) ?_ ?_ ?_
 ·rintro i v H2 H3 ⟨x,rfl,dx,hx⟩ k
  exact⟨x,rfl,dx,k _ _ hx (λl e=>by cases e)⟩
 ·intro i v H2 hv s2 R hR
  rw[eS,mO] at hv;obtain⟨d,hd,rfl⟩:=hv;simp only[wipe]
  tm_at "r"
  refine⟨trivial,λH3 x s3 hx=>hR H3 _ s3 ⟨x,rfl,?_⟩⟩;rw[nX,hd];exact hx
 ·intro τ H2 A B sH q
  exact sH _ _ q
 ·intro H2 D ys s2 hD hy hP
  obtain⟨as,rfl⟩:=Ou (ys:=ys) λi v hv=>let ⟨x,e,_⟩:=hP i v hv;⟨x,e⟩;refine h H2 D (s1.trans s2) ⟨as,hD,by simpa using hy,λi z d hz hd=>?_⟩;obtain⟨x,e,hx⟩:=hP i (V.ref z) (by rw[eS,hz];rfl);cases e;rw[nX,hd] at hx;exact hx
theorem z_{α:Type}(P:α->Bool)(f:α->V)(l:List α):l.filterMap (λx=>if P x=true then some (f x) else none)=(l.filter P).map f:=by
 induction l with
 |nil=>rfl
 |cons y l ih=>
  rw[nZ,oh];cases c:P y<;>simp[ih]
theorem aed{α:Type}(f:α->Nat)(l:List α):(l.map λx=>V.int (f x:Nat)).headD .az=bF (l.map f).head?:=by
 cases l<;>rfl
theorem afG{α:Type}(f:α->Nat)(l:List α):(l.map λx=>V.int (f x:Nat))=((l.map f).map λ(n:Nat)=>(n:Int)).map V.int:=by simp
theorem afH(l:List Nat):nv (l.map λ(n:Nat)=>(n:Int))=bF l.min?:=by
 unfold nv;cases e:l.min? with
 |none=>
  rw[SJ] at e;subst e;rfl
 |some m=>
  rw[J1] at e
  have:(l.map λ(n:Nat)=>(n:Int)).min?=some (m:Int):=by
   refine O0 (gH.mpr ⟨m,e.1,rfl⟩) λa ha=>?_;obtain⟨n,hn,rfl⟩:=gH.mp ha;have:=e.2 n hn;simp[*]
  rw[this];rfl
theorem YD(ha:H a=some (.tup ((eW g).map V.int)))(h:Q (.bl (g.when_.has d)) H):ak (G p 72 4) EO (fin Q) [some (.ref a),some (.int d)] H:=by
 simp only[eW,aV,bB] at ha;unfold EO;tm_at "r";simp only[aO ha];tm_at "r";have e:g.when_.has d=(decide (g.when_.first<=d)&&decide (d<=g.when_.last)):=rfl;rw[e] at h;cases c:decide (g.when_.first<=d) with
 |false=>rw[c] at h;exact h
 |true=>rw[c] at h;simp only[if_true,aO ha];tm_at "r";exact h
theorem ZT(ok:aK p)(ha:a_ p H a b)(ho:0<=o)(h:∀H',ah H H'->Q (bF (b.holder o.toNat d)) H'):ak (G p 73 4) Fx (fin Q) [some (.ref a),some (.int o),some (.int d),none] H:=by
 obtain⟨dx,l,pe,of,hh,s,pl,w,se,ha,L⟩:=ha;obtain⟨xs,e1,e2,e3,e4⟩:=dO L.holds;unfold Fx;tm_at "r";refine pY (a:=hh) (H1:=H) (xs:=xs) (λi=>(b.holds[i]?).bind λg=>if (decide (g.office=o.toNat)&&g.when_.has d)=true then some (V.int (g.who:Nat)) else none) (λR r=>?_) e1 (by rw[e2];unfold sizeLine;lia) (λv=>rfl) (λi v H' hv s' R hR=>?_) λH' D s' e=>?_
 ·simp only[sI];tm_at "r"
  simp only[oG ok ha];exact .inl ⟨xs,.of e1,r⟩
 ·obtain⟨g,x,g1,rfl,g2⟩:=e4 i v hv
  have g2:=s' _ _ g2;have vp:=g2;simp only[eW,aV,bB] at g2;simp only[wipe]
  tm_at "r"
  simp only[aO g2];tm_at "r";have:=hR H' (ah.refl H');simp only[g1,qg] at this;have eo:decide (((g.office:Nat):Int)=o)=decide (g.office=o.toNat):=by rw[aT];simp;lia
  rw[eo];cases c:decide (g.office=o.toNat) with
  |false=>rw[c] at this;exact this
  |true=>
   rw[c] at this;refine⟨_,_,_,rfl,vp,?_⟩;simp only[aO g2];tm_at "r";cases c2:g.when_.has d with
   |false=>rw[c2] at this;exact this
   |true=>rw[c2] at this;exact this
 ·simp only[e]
  have:=h H' s';rw[Sets.ab8] at this;rw[e2,lM (l:=b.holds) (g:=λg=>if (decide (g.office=o.toNat)&&g.when_.has d)=true then some (V.int (g.who:Nat)) else none) (λi x hx=>by rw[hx];rfl),z_,aed (λg:lW=>g.who)];exact this
theorem YE(ok:aK p)(ha:a_ p H a b)(hk:Sets.Ok b)(ho:0<=o)(h:∀H',ah H H'->Q (bF (b.highest o.toNat d)) H'):ak (G p 74 4) ER (fin Q) [some (.ref a),some (.int o),some (.int d),none,none] H:=by
 obtain⟨dx,l,pe,of,hh,s,pl,w,se,ha,L⟩:=ha;obtain⟨xs,e1,e2,e3,e4⟩:=dO L.holds;unfold ER;tm_at "r";refine pY (a:=hh) (H1:=H) (xs:=xs) (λi=>(b.holds[i]?).bind λg=>if (decide (g.who=o.toNat)&&g.when_.has d)=true then some (V.int (g.office:Nat)) else none) (λR r=>?_) e1 (by rw[e2];unfold sizeLine;lia) (λv=>rfl) (λi v H' hv s' R hR=>?_) λH' D s' e=>?_
 ·simp only[sI];tm_at "r"
  simp only[oG ok ha];exact .inl ⟨xs,.of e1,r⟩
 ·obtain⟨g,x,g1,rfl,g2⟩:=e4 i v hv
  have g2:=s' _ _ g2;have vp:=g2;simp only[eW,aV,bB] at g2;simp only[wipe]
  tm_at "r"
  simp only[aO g2];tm_at "r";have:=hR H' (ah.refl H');simp only[g1,qg] at this;have eo:decide (((g.who:Nat):Int)=o)=decide (g.who=o.toNat):=by rw[aT];simp;lia
  rw[eo];cases c:decide (g.who=o.toNat) with
  |false=>rw[c] at this;exact this
  |true=>
   rw[c] at this;refine⟨_,_,_,rfl,vp,?_⟩;simp only[aO g2];tm_at "r";cases c2:g.when_.has d with
   |false=>rw[c2] at this;exact this
   |true=>rw[c2] at this;exact this
 ·have:=h H' s'
  rw[Sets.aaT hk] at this;rw[e2,lM (l:=b.holds) (g:=λg=>if (decide (g.who=o.toNat)&&g.when_.has d)=true then some (V.int (g.office:Nat)) else none) (λi x hx=>by rw[hx];rfl),z_,afG (λg:lW=>g.office)] at e;simp only[xm,e,Mini.ints_map];rw[afH];exact this
theorem ZU(ha:aZ H a rs)(hn:H n=some (.tup (row.map V.int)))(h:∀H',ah H H'->Q (bF (rs.findIdx? λr=>r==row)) H'):ak (G p 31 3) Fp (fin Q) [some (.ref a),some (.ref n),none,none] H:=by
 obtain⟨xs,e1,e2,e3,e4⟩:=dO (g:=id) (l:=rs) (by simpa using ha);unfold Fp;tm_at "r";refine jJ (a:=a) (H1:=H) (xs:=xs) (λi=>(rs[i]?).bind λr=>if (r==row)=true then some (V.int (i:Nat)) else none) (λR r=>?_) e1 (by rw[e2];unfold sizeLine;lia) (λu v=>rfl) (λi v H' hv s R hR=>?_) λH' D s e=>?_
 ·simp only[sI];tm_at "r"
  exact .inl ⟨xs,.of e1,r⟩
 ·obtain⟨r,x,g1,rfl,g2⟩:=e4 i v hv
  simp only[wipe]
  tm_at "r"
  simp only[dW,s _ _ g2,s _ _ hn,id,Mini.ints_map]
  tm_at "r"
  have:=hR H' (ah.refl H');simp only[g1,qg] at this;have ee:(r==row)=decide (r=row):=by rw[aT];simp
  rw[ee] at this;cases c:decide (r=row)<;>(rw[c] at this;exact this)
 ·simp only[e]
  have:=h H' s;rw[y_] at this;rw[e2,iH (l:=rs) (P:=λz r=>r==row) λi r hr=>by rw[hr];rfl];exact this
theorem XC(ha:bA p H a b)(hD:bh H D ds)(hl:ds.length<=1096)(hd:∀d∈ds,D0 b<=d/\d<=D0 b+1096)(h:∀H',ah H H'->Q (.int (ds.map λd=>(2:Int)^(d-D0 b).toNat).sum) H'):ak (G p 64 4) Er (fin Q) [some (.ref a),some (.ref D),none,none] H:=by
 unfold Er;tm_at "r";refine⟨a,b,rfl,ha,?_⟩;refine pY (a:=D) (H1:=H) (xs:=ds.map V.int) (λi=>some (V.int ((2:Int)^(ds.getD i 0-D0 b).toNat))) (λR r=>?_) hD (by unfold sizeLine;simp;lia) (λv=>rfl) (λi v H' hv s R hR=>?_) λH' E s e=>?_
 ·simp only[sI];tm_at "r"
  exact .inl ⟨_,.of hD,r⟩
 ·rw[eS,mO] at hv
  obtain⟨d,hv,rfl⟩:=hv;simp only[wipe]
  tm_at "r"
  have hm:=hd d (eO hv);refine⟨⟨by simp[*],by lia,by decide⟩,?_⟩;have:=hR H' (ah.refl H');rw[nX,hv] at this;rw[LK];exact this
 ·have e2:flat (λi=>some (V.int ((2:Int)^(ds.getD i 0-D0 b).toNat))) (ds.map V.int).length=(ds.map λd=>(2:Int)^(d-D0 b).toNat).map V.int:=by
   rw[aU,lM (l:=ds) (g:=λd=>some (V.int ((2:Int)^(d-D0 b).toNat))) (λi x hx=>by rw[nX,hx];rfl),filterMap_some,ff];rfl
  rw[e2] at e;simp only[cu,e,Mini.ints_map];exact h H' s
theorem afI{N:Nat}{d f l u M m:Int}(hN:(N:Int)=u+1-d)(m1:d<=M)(m2:f<=M)(m3:M=d\/M=f)(n1:m<=u)(n2:m<=l)(n3:m=u\/m=l):((Sets.bits N (λi=>[(f,l)].any (Sets.cJ (d+(i:Int)))):Nat):Int)=if M-d>m-d then 0 else 2^(m-d+1).toNat-2^(M-d).toNat:=by
 have k:∀i:Nat,i<N->[(f,l)].any (Sets.cJ (d+(i:Int)))=(decide (M-d<=i)&&decide ((i:Int)<=m-d)):=λi hi=>by
  rw[aT];simp[Sets.cJ];omega
 split
 ·rw[Sets.v9.2 λi hi=>by rw[k i hi];simp;grind];rfl
 ·obtain⟨A,hA⟩:=p9 (show 0<=M-d by simp[*])
  obtain⟨B,hB⟩:=p9 (show 0<=m-d by grind);rw[hA,hB] at k;rw[hA,hB,Sets.zu (q:=λi=>decide (A<=i)&&decide (i<=B)) (λi hi=>by rw[k i hi];simp only[Int.ofNat_le]),←Sets.ab3 (by simp_all) (by lia),Int.natCast_sub (J8 (by decide) (by omega))];simp
theorem acD(hb:b.fault=none)(f l:Int):((i8 b [(f,l)]:Nat):Int)=if max f (D0 b)-D0 b>min l (eB (b.to_+1)-1)-D0 b then 0 else 2^(min l (eB (b.to_+1)-1)-D0 b+1).toNat-2^(max f (D0 b)-D0 b).toNat:=by
 have hn:=lY hb;exact afI (u:=eB (b.to_+1)-1) (by unfold D0;simp[*]) (Int.le_max_right ..) (Int.le_max_left ..) (by lia) (Int.min_le_right ..) (Int.min_le_left ..) (by lia)
theorem XD(ha:bA p H a b)(hb:b.fault=none)(ht:H t=some (.tup [.int f,.int l]))(h:Q (.int (i8 b [(f,l)]:Nat)) H):ak (G p 65 4) Et (fin Q) [some (.ref a),some (.ref t),none,none,none] H:=by
 have hn:=lY hb;have e0:D0 b=eB b.from_:=rfl;rw[acD hb] at h;unfold Et;tm_at "r";refine⟨a,b,rfl,ha,?_⟩;simp only[aO ht];tm_at "r";simp only[aO ht];tm_at "r";refine⟨a,b,rfl,ha,?_⟩
 by_cases c:max f (D0 b)-D0 b>min l (eB (b.to_+1)-1)-D0 b
 ·rw[if_pos c] at h
  rw[if_pos (decide_eq_true c)];exact h
 ·rw[if_neg c] at h
  rw[if_neg (by simpa using c)];refine⟨⟨by omega,by omega,by decide⟩,⟨by omega,by omega,by decide⟩,?_⟩;rw[LK,LK];exact h
theorem ahs(m:Nat):∀n:Nat,(m &&& n)+(m ||| n)=m+n:=by
 induction m using Nat.strongRecOn with
 |ind m ih=>
  intro n
  by_cases h:m=0
  ·subst h;simp
  have e:=ih (m/2) (by lia) (n/2);have a1:(m &&& n)/2=m/2 &&& n/2:=Nat.and_div_two;have a2:(m ||| n)/2=m/2 ||| n/2:=Nat.or_div_two;have b1:=Nat.and_mod_two_pow (a:=m) (b:=n) (n:=1);have b2:=Nat.or_mod_two_pow (a:=m) (b:=n) (n:=1);rw[Nat.pow_one] at b1 b2
  have c:(m % 2 &&& n % 2)+(m % 2 ||| n % 2)=m % 2+n % 2:=by
   rcases R9 m with x|x<;>rcases R9 n with y|y<;>rw[x,y]<;>rfl
  lia
theorem acE(m n:Nat):EA (m:Int) (n:Int)=((m ||| n:Nat):Int):=by
 rw[bitOr_and,bitAnd_pp (n9 m) (n9 n)];have:=ahs m n;simp only[fG];lia
theorem LZ(m n:Nat):vK (m:Int) (n:Int)=((m &&& n:Nat):Int):=by
 rw[bitAnd_pp (n9 m) (n9 n)];simp only[fG]
theorem WD(ha:bA p H a b)(hb:b.fault=none)(ht:aZ H t (cR l))(h:Q (.int (i8 b l:Nat)) H):ak (G p 66 4) DZ (fin Q) [some (.ref a),some (.ref t),none,none] H:=by
 obtain⟨xs,e1,e2,e3,e4⟩:=dO ht;unfold DZ;tm_at "r";unfold gf;simp only[sI];tm_at "r";refine .inl ⟨xs,.of e1,?_⟩;refine⟨λi m σ H'=>m=xs.length-i/\i<=xs.length/\H'=H/\∃z,σ=[some (.ref a),some (.ref t),some (.int (i8 b (l.take i):Nat)),z],⟨xs.length,by simp,dH _,rfl,none,?_⟩,?_⟩
 ·have:i8 b (l.take 0)=0:=Sets.ab4 _
  rw[this];rfl
 ·rintro i m σ H' ⟨rfl,hi,rfl,z,rfl⟩
  by_cases aM:i<xs.length
  ·refine .inr ⟨⟨xs,xs[i],aG.of e1,by simp[aM]⟩,λaF gm=>gm=H'/\∃z,aF=[some (.ref a),some (.ref t),some (.int (i8 b (l.take (i+1)):Nat)),z],λaF gm ⟨q1,q2⟩=>⟨xs.length-(i+1),by grind,rfl,by trivial,q1,q2⟩,λx gm hy=>?_⟩
   obtain⟨rfl,hv⟩:=hy;obtain⟨y,u,g1,rfl,g2⟩:=e4 i x (hv xs (aG.of e1));simp only[bJ,fO]
   tm_at "r"
   refine⟨_,_,_,_,_,rfl,ha,hb,g2,trivial,some (.ref u),?_⟩;rw[acE];have e:l.take (i+1)=l.take i++[y]:=by rw[oq,g1];rfl
   rw[e];unfold i8;rw[Sets.afp];simp only[List.any_append]
  ·have e:i=xs.length:=by lia
   refine .inl ⟨⟨xs,aG.of e1,by simp[*]⟩,?_⟩
   tm_at "r"
   rw[jo (by simp[*])];exact h
theorem O_(f:Int)(N k:Nat)(h:k<N):(Sets.cE f N)[k]?=some (f+(k:Int)):=by
 unfold Sets.cE;simp[h]
theorem lV(f:Int)(N:Nat):(Sets.cE f N).length=N:=by unfold Sets.cE;simp
theorem XE{a S:Addr}{qs:List (Nat->Bool)}(ha:bA p H a b)(hb:b.fault=none)(hS:H S=some (.lst (qs.map λq=>V.int (Sets.bits (DN b) q:Nat))))(h:∀H' E,ah H H'->bh H' E ((Sets.cE (D0 b) (DN b)).filter λd=>qs.all λq=>q (d-D0 b).toNat)->Q (.ref E) H'):ak (G p 67 4) Eu (fin Q) [some (.ref a),some (.ref S),none,none,none,none,none] H:=by
 have hn:=lY hb;unfold Eu;tm_at "r";refine⟨a,b,rfl,ha,hb,λH1 L s1 hL=>?_⟩
 have ni:∀d∈Sets.cE (D0 b) (DN b),D0 b<=d/\d<=D0 b+1096:=λd hd=>by
  unfold Sets.cE at hd;obtain⟨k,hk,rfl⟩:=gH.mp hd;simp at hk;lia
 refine⟨a,b,L,_,rfl,let ⟨dx,f,r,h1,h2,h3⟩:=ha;⟨dx,f,r,s1 _ _ h1,h2.same s1,h3.same s1⟩,hL,by rw[lV];simp[*],ni,λH2 s2=>?_⟩;have e0:=Sets.G1 (D0 b) (λy=>true) (DN b);rw[Tq.mpr (λy y=>rfl)] at e0;rw[e0];unfold gf;simp only[sI];tm_at "r";have p6:=s2 _ _ (s1 _ _ hS);refine .inl ⟨_,.of p6,?_⟩;refine⟨λi m σ H'=>m=qs.length-i/\i<=qs.length/\H'=H2/\∃z,σ=[some (.ref a),some (.ref S),some (.ref L),some (.int (Sets.bits (DN b) (λk=>(qs.take i).all λq=>q k):Nat)),z,none,none],⟨qs.length,by simp,dH _,rfl,none,rfl⟩,?_⟩;rintro i m σ H' ⟨rfl,hi,rfl,z,rfl⟩
 by_cases aM:i<qs.length
 ·refine .inr ⟨⟨_,V.int (Sets.bits (DN b) qs[i]:Nat),aG.of p6,by simp[aM]⟩,λaF gm=>gm=H'/\∃z,aF=[some (.ref a),some (.ref S),some (.ref L),some (.int (Sets.bits (DN b) (λk=>(qs.take (i+1)).all λq=>q k):Nat)),z,none,none],λaF gm ⟨q1,q2⟩=>⟨qs.length-(i+1),by grind,rfl,by trivial,q1,q2⟩,λx gm hy=>?_⟩
  obtain⟨rfl,hv⟩:=hy;have hv:=hv _ (aG.of p6);rw[eS,gF aM,kH] at hv;cases hv;simp only[bJ,fO]
  tm_at "r"
  refine⟨trivial,some (.int (Sets.bits (DN b) qs[i]:Nat)),?_⟩;rw[LZ,Sets.Nj];have e:qs.take (i+1)=qs.take i++[qs[i]]:=by rw[oq,gF aM];rfl
  rw[e];simp only[Wc,kJ,E3,tF]
 ·have ei:i=qs.length:=by lia
  refine .inl ⟨⟨_,aG.of p6,by simp;simp[*]⟩,?_⟩;rw[jo (by lia)];have Rh:=s2 _ _ hL;refine jJ (a:=L) (H1:=H') (xs:=(Sets.cE (D0 b) (DN b)).map V.int) (λi=>if (qs.all λq=>q i)=true then some (V.int (D0 b+(i:Int))) else none) (λR r=>?_) Rh (by unfold sizeLine;simp[lV];lia) (λu v=>rfl) (λk v H3 hv s R hR=>?_) λH3 D s e=>?_
  ·exact .inl ⟨_,.of Rh,r⟩
  ·have hk:k<DN b:=by
    have:=(dF.mp hv).1;simpa[lV] using this
   rw[eS,O_ _ _ _ hk] at hv;cases hv;simp only[wipe]
   tm_at "r"
   refine⟨by simp,?_⟩;have:=hR H3 (ah.refl H3);rw[bitAnd_m1]
   have eb:decide ((((Sets.bits (DN b) λk=>qs.all λq=>q k):Nat):Int)/2^((k:Int)).toNat % 2=1)=qs.all λq=>q k:=by
    have hb:=Sets.jY (λk=>qs.all λq=>q k) (DN b) k;rw[decide_eq_true hk,gu,Nat.testBit_eq_decide_div_mod_eq] at hb;rw[←hb,fG,aT,decide_eq_true_iff,decide_eq_true_iff];have:((2:Int)^k)=((2^k:Nat):Int):=by simp
    rw[this]
    (simp;lia)
   rw[eb];cases c:qs.all (λq=>q k)<;>(rw[c] at this;exact this)
  ·refine h H3 D ((s1.trans s2).trans s) ?_
   unfold bh;rw[e];rw[aU,lM (l:=Sets.cE (D0 b) (DN b)) (g:=λd=>if (qs.all λq=>q (d-D0 b).toNat)=true then some (V.int d) else none) (λi x hx=>?_),z_]
   have hk:i<DN b:=by
    have:=(dF.mp hx).1;simpa[lV] using this
   rw[O_ _ _ _ hk] at hx;cases hx;rw[show(D0 b+(i:Int)-D0 b).toNat=i by simp+arith]
theorem Ov{α:Type}(ys:List α)(y:α):cF (ys++[y]) (-1)=some y:=by
 unfold cF iS;simp[show(1:Int)<=(ys.length:Int)+1 by simp+arith,show(-1+((ys.length:Int)+1)).toNat=ys.length by simp+arith]
theorem afJ:iS (n+1) (-1)=some n:=by
 unfold iS;simp;simp+arith
theorem abd(hD:bh H D ds)(hl:ds.length<=1096)(h:∀H' E,ah H H'->bh H' E (Sets.ends (iG ds))->Q (.ref E) H'):ak (G p 68 4) F_ (fin Q) [some (.ref D),none,none] H:=by
 unfold F_;tm_at "r";refine⟨by show 0<=sizeLine;decide,λE hE=>?_⟩;unfold gf;simp only[sI];tm_at "r";have hDE:D≠E:=bV hD hE;have hD0:(upd H E (.lst [])) D=some (.lst (ds.map V.int)):=by rw[aI hDE];exact hD
 refine .inl ⟨_,.of hD0,?_⟩;refine⟨λi m σ H'=>m=ds.length-i/\i<=ds.length/\ah H H'/\H' E=some (.lst ((Sets.ends (iG (ds.take i))).map V.int))/\∃z,σ=[some (.ref D),some (.ref E),z],⟨ds.length,by simp,dH _,ah.new hE,by rw[au];rfl,none,rfl⟩,?_⟩;rintro i m σ H' ⟨rfl,hi,hs,he,z,rfl⟩;have Jm:=hs _ _ hD
 by_cases aM:i<ds.length
 ·refine .inr ⟨⟨_,V.int ds[i],aG.of Jm,by simp[aM]⟩,λaF gm=>ah H gm/\gm E=some (.lst ((Sets.ends (iG (ds.take (i+1)))).map V.int))/\∃z,aF=[some (.ref D),some (.ref E),z],λaF gm ⟨q1,q2,q3⟩=>⟨ds.length-(i+1),by grind,rfl,by trivial,q1,q2,q3⟩,λx gm hy=>?_⟩
  obtain⟨rfl,hv⟩:=hy;have hv:=hv _ (aG.of Jm);rw[eS,gF aM,kH] at hv;cases hv;have e:ds.take (i+1)=ds.take i++[ds[i]]:=by rw[oq,gF aM];rfl
  have hsz:=Sets.MH (ds.take i);have Ri:=Sets.Nk (iG (ds.take i));rw[e,Sets.Lh,Sets.afr];simp only[bJ,fO]
  tm_at "r"
  rcases Cy (Sets.ends (iG (ds.take i))) with en|⟨ys,y,en⟩
  ·rw[en] at he ⊢
   delta bE;simp only[bM he,bB,qh,bH,aL,if_false,he,true_and,Ks];refine⟨by show 2<=sizeLine;decide,λq hq=>?_⟩;have Jo:E≠q:=bV he hq;simp only[pN,aI Jo,he,au];refine⟨by show 2<=sizeLine;decide,ah.put (ah.upd hs hq) hE,rfl,_,rfl⟩
  ·rw[Cz] at en
   rw[en] at he ⊢;rw[ql,aV,bB] at he;have dJ:(!(ys.map V.int++[V.int y]).isEmpty)=true:=by simp
   delta bE;simp only[bM he,dJ,if_true,Ov,J9,vA,K1]
   tm_at "r"
   by_cases c:y=ds[i]-1
   ·have hlen:(ys.map V.int++[V.int y]).length=ys.length+1:=by simp
    simp only[c,decide_true,if_true,rA];rw[c] at he hlen;simp only[he,hlen,afJ];refine⟨ah.put hs hE,?_,_,rfl⟩;rw[au];simp
   ·simp only[c,decide_false,aL,if_false,he,true_and]
    refine⟨by show 2<=sizeLine;decide,λq hq=>?_⟩;have Jo:E≠q:=bV he hq
    have hlen:ys.length+1<=2192:=by
     rw[en] at Ri;simp at Ri hsz;lia
    simp only[pN,aI Jo,he,au];refine⟨by unfold sizeLine;simp;lia,ah.put (ah.upd hs hq) hE,by simp,_,rfl⟩
 ·have ei:i=ds.length:=by lia
  refine .inl ⟨⟨_,aG.of Jm,by simp;simp[*]⟩,?_⟩;rw[jo (by lia)] at he;exact h H' E hs he
theorem ZV(h:mZ p H D ds):∃ps:List (Addr×Int),H D=some (.lst (ps.map λx=>V.ref x.1))/\ps.map (·.2)=ds/\∀x∈ps,gO p H x.1 x.2:=by
 obtain⟨as,h1,h2,h3⟩:=h;refine⟨as.zip ds,?_,Vi (by simp[*]),λx hx=>?_⟩
 ·rw[h1,show(λ(x:Addr×Int)=>V.ref x.1)=V.ref ∘ Prod.fst from rfl,←ff,Vh (by simp[*])]
 ·obtain⟨i,hi⟩:=vB hx
  rw[List.getElem?_zip_eq_some] at hi;exact h3 i _ _ hi.1 hi.2
theorem ZW{a D M:Addr}{b:cP}{ms:List oW}(ok:aK p)(ha:bA p H a b)(hb:b.fault=none)(hD:mZ p H D ds)(hl:ds.length<=1096)(hd:∀d∈ds,bZ d=true)(hM:aZ H M (ms.map iL))(hr:∀k∈ms,mS k b=true)(h:∀H' E,ah H H'->bh H' E (ds.filter λd=>ms.all (cD b d))->Q (.ref E) H'):ak (G p 83 4) Fy (fin Q) [some (.ref a),some (.ref D),some (.ref M),none,none] H:=by
 obtain⟨xs,e1,e2,e3,e4⟩:=dO hM;obtain⟨ps,p1,p2,p3⟩:=ZV hD;unfold Fy;tm_at "r";unfold gf;simp only[sI];tm_at "r";refine .inl ⟨xs,.of e1,?_⟩;refine⟨λi m σ H'=>m=xs.length-i/\i<=xs.length/\ah H H'/\∃z E,σ=[some (.ref a),some (.ref E),some (.ref M),z,none]/\H' E=some (.lst ((ps.filter λx=>(ms.take i).all (cD b x.2)).map λx=>V.ref x.1)),⟨xs.length,by simp,dH _,ah.refl H,none,D,rfl,?_⟩,?_⟩
 ·have:ps.filter (λx=>(ms.take 0).all (cD b x.2))=ps:=Tq.mpr λy y=>rfl
  rw[p1,this]
 rintro i m σ H' ⟨rfl,hi,hs,z,E,rfl,hE⟩;have Jp:=hs _ _ e1
 by_cases aM:i<xs.length
 ·refine .inr ⟨⟨xs,xs[i],aG.of Jp,by simp[aM]⟩,λaF gm=>ah H gm/\∃z E,aF=[some (.ref a),some (.ref E),some (.ref M),z,none]/\gm E=some (.lst ((ps.filter λx=>(ms.take (i+1)).all (cD b x.2)).map λx=>V.ref x.1)),λaF gm ⟨q1,q2⟩=>⟨xs.length-(i+1),by grind,rfl,by trivial,q1,q2⟩,λx gm hy=>?_⟩
  obtain⟨rfl,hv⟩:=hy;obtain⟨k,u,g1,rfl,g2⟩:=e4 i x (hv xs (aG.of Jp));simp only[bJ,fO]
  tm_at "r"
  refine pY (K:=p.K) (x:=4) (a:=E) (H1:=gm) (xs:=(ps.filter λx=>(ms.take i).all (cD b x.2)).map λx=>V.ref x.1) (λj=>((ps.filter λx=>(ms.take i).all (cD b x.2))[j]?).bind λx=>if cD b x.2 k=true then some (V.ref x.1) else none) (λR r=>?_) hE ?_ (λv=>rfl) (λj v H3 hv s R hR=>?_) λH3 L s e=>?_
  ·exact .inl ⟨_,.of hE,r⟩
  ·have:=sW (λx:Addr×Int=>(ms.take i).all (cD b x.2)) ps
   have:ps.length=ds.length:=by rw[←p2];simp
   unfold sizeLine;simp;lia
  ·rw[eS,mO] at hv
   obtain⟨x,hx,rfl⟩:=hv;have B4:x∈ps:=(ly.mp (eO hx)).1;have hxd:x.2∈ds:=by rw[←p2];exact gH.mpr ⟨x,B4,rfl⟩
   simp only[wipe]
   tm_at "r"
   obtain⟨dx,f,r,a1,a2,a3⟩:=ha;have hS:=hs.trans s;obtain⟨dz,hz⟩:=p3 x B4;refine⟨a,b,x.1,x.2,u,k,rfl,⟨dx,f,r,hS _ _ a1,a2.same hS,a3.same hS⟩,hb,⟨dz,hS _ _ hz⟩,hd _ hxd,aO (hS _ _ g2),hr k (eO g1),λH4 s4=>?_⟩;have:=hR H4 s4;simp only[hx,qg] at this;cases c:cD b x.2 k<;>(rw[c] at this;exact this)
  ·refine⟨hs.trans s,_,L,rfl,?_⟩
   rw[e,aU,lM (g:=λx=>if cD b x.2 k=true then some (V.ref x.1) else none) (λi x hx=>by rw[hx];rfl),z_,List.filter_filter];have et:ms.take (i+1)=ms.take i++[k]:=by rw[oq,g1];rfl
   rw[et];simp only[Wc,kJ,E3,tF];rw[Up λx y=>Bool.and_comm _ _]
 ·have ei:i=xs.length:=by lia
  refine .inl ⟨⟨xs,aG.of Jp,by simp[*]⟩,?_⟩;rw[jo (by simp[*])] at hE;refine pY (K:=p.K) (x:=4) (a:=E) (H1:=H') (xs:=(ps.filter λx=>ms.all (cD b x.2)).map λx=>V.ref x.1) (λj=>((ps.filter λx=>ms.all (cD b x.2))[j]?).bind λx=>some (V.int x.2)) (λR r=>?_) hE ?_ (λv=>rfl) (λj v H3 hv s R hR=>?_) λH3 L s e=>?_
  ·exact .inl ⟨_,.of hE,r⟩
  ·have:=sW (λx:Addr×Int=>ms.all (cD b x.2)) ps
   have:ps.length=ds.length:=by rw[←p2];simp
   unfold sizeLine;simp;lia
  ·rw[eS,mO] at hv
   obtain⟨x,hx,rfl⟩:=hv;have B4:x∈ps:=(ly.mp (eO hx)).1;simp only[wipe]
   tm_at "r"
   obtain⟨dz,hz⟩:=p3 x B4;simp only[m5 ok ((hs.trans s) _ _ hz)];have:=hR H3 (ah.refl H3);simp only[hx,qg] at this;exact this
  ·refine h H3 L (hs.trans s) ?_
   unfold bh;rw[e,aU,lM (g:=λ(x:Addr×Int)=>some (V.int x.2)) (λi x hx=>by rw[hx];rfl),filterMap_some,←p2,List.filter_map,ff];rfl
noncomputable def eY(c:List Nat):List V:=c.map λ(k:Nat)=>V.int (k:Int)
def rg(H:Hp)(X:Addr)(N:Nat)(q:Nat->Nat->Bool)(a:Addr)(c:List Nat):Prop:=∃e,e≠X/\a≠X/\H a=some (.tup [.ref e,.int (Sets.cm N q c)])/\H e=some (.lst (eY c))
def fq(H:Hp)(X L:Addr)(N:Nat)(q:Nat->Nat->Bool)(cs:List (List Nat)):Prop:=∃as:List Addr,H L=some (.lst (as.map V.ref))/\as.length=cs.length/\∀(i:Nat)(a:Addr)(c:List Nat),as[i]?=some a->cs[i]?=some c->rg H X N q a c
theorem rg.but(h:rg H X N q a c)(s:∀b o,b≠X->H b=some o->H' b=some o):rg H' X N q a c:=by
 obtain⟨e,h1,h2,h3,h4⟩:=h;exact⟨e,h1,h2,s _ _ h2 h3,s _ _ h1 h4⟩
theorem fq.but(h:fq H X L N q cs)(hL:L≠X)(s:∀b o,b≠X->H b=some o->H' b=some o):fq H' X L N q cs:=by
 obtain⟨as,h1,h2,h3⟩:=h;exact⟨as,s _ _ hL h1,h2,λi a c ha hc=>(h3 i a c ha hc).but s⟩
theorem fq.new(h:fq H X L N q cs)(hY:H Y=none)(o:HO):fq (upd H Y o) Y L N q cs/\L≠Y:=by
 obtain⟨as,h1,h2,h3⟩:=h;have hL:L≠Y:=bV h1 hY;refine⟨⟨as,by rw[aI hL];exact h1,h2,λi a c ha hc=>?_⟩,hL⟩;obtain⟨e,_,_,g1,g2⟩:=h3 i a c ha hc;have n1:=bV g1 hY;have n2:=bV g2 hY;exact⟨e,n2,n1,by rw[aI n1];exact g1,by rw[aI n2];exact g2⟩
theorem fq.push{H H':Hp}{W:Addr}{N:Nat}{q:Nat->Nat->Bool}{cs:List (List Nat)}{a:Addr}{c:List Nat}{as:List Addr}(hW:H W=some (.lst (as.map V.ref)))(hl:as.length=cs.length)(hp:∀(i:Nat)(a:Addr)(c:List Nat),as[i]?=some a->cs[i]?=some c->rg H W N q a c)(hn:rg H W N q a c):
 fq (upd H W (.lst (as.map V.ref++[V.ref a]))) W W N q (cs++[c]):=by
 have s:∀b o,b≠W->H b=some o->(upd H W (.lst (as.map V.ref++[V.ref a]))) b=some o:=λb o nb hb=>by rw[aI nb];exact hb
 refine⟨as++[a],by rw[au];simp,by simp[hl],λi x d hx hd=>?_⟩
 by_cases hi:i<as.length
 ·rw[Cm hi] at hx
  rw[Cm (by simp_all)] at hd;exact(hp i x d hx hd).but s
 ·have e:i=as.length:=by
   have:=(dF.mp hx).1;simp at this;lia
  subst e;rw[Ci (aY _),E2] at hx;rw[Ci (by simp[*]),show as.length-cs.length=0 by simp[*]] at hd;cases hx;cases hd;exact hn.but s
theorem aht(N:Nat)(q:Nat->Nat->Bool)(c:List Nat)(k:Nat):vK (Sets.cm N q c) ((Sets.bits N (q k):Nat):Int)=Sets.cm N q (c++[k]):=by
 by_cases h:c=[]
 ·subst h
  rw[Sets.ahl];show vK (-1) _=_;rw[bitAnd_np (by decide) (n9 _),show(Builtin.bitNot (-1)).toNat=0 from rfl,Nat.and_zero];simp
 ·rw[Sets.ahm,Sets.Hr N q c h,LZ]
theorem afK(N:Nat)(q:Nat->Nat->Bool)(c:List Nat)(k:Nat):decide (Sets.cm N q (c++[k])=0)=decide (Sets.bits N (λi=>(c++[k]).all λk=>q k i)=0):=by
 rw[Sets.Hr N q _ (by simp),aT,decide_eq_true_iff,decide_eq_true_iff];simp
theorem aee(kD:σ[4]?=some (some (.ref e)))(he:H e=some (.lst (eY c)))(h:Q (.int (Sets.bg 0 c:Nat)) H):sE Γ (.eG (.var 4) (.ay .add (.ix (.var 4) (.neg (.cst (.int (1))))) (.cst (.int (1)))) (.cst (.int (0)))) σ H Q:=by
 rcases Cy c with rfl|⟨ys,y,rfl⟩
 ·simp only[sE,sT,kD,bE,bM he,eY,bB,qh,bH,aL,if_false]
  exact h
 ·rw[Cz] at he h
  have dJ:(!(eY (ys++[y])).isEmpty)=true:=by simp[eY]
  have Jq:cF (eY (ys++[y])) (-1)=some (V.int (y:Nat)):=by unfold eY;rw[ql];exact Ov _ _
  simp only[sE,sT,kD,bE,bM he,dJ,if_true,Mini.jH,Jq,wR];have eb:Sets.bg 0 (ys++[y])=y+1:=by unfold Sets.bg;simp
  rw[eb] at h;exact h
noncomputable def B5:Ss:=(.cons (.set 8 (.ay .band (.var 5) (.ix (.var 0) (.var 7)))) (.cons (.ifs (.cmp (.var 8) (.one .eq (.cst (.int (0))))) (.cons (.ret (.ay .add (.var 4) (.lst (.cons (.var 7) .nil)))) .nil) .nil) (.cons (.ex (.app (.var 3) (.tup (.cons (.ay .add (.var 4) (.lst (.cons (.var 7) .nil))) (.cons (.var 8) .nil))))) .nil)))
noncomputable def Jr:Ss:=(.cons (.set 6 (.eG (.var 4) (.ay .add (.ix (.var 4) (.neg (.cst (.int (1))))) (.cst (.int (1)))) (.cst (.int (0))))) (.cons (.cU (.name 7) (.pM (.var 6) (.blt .len (.cons (.var 0) .nil))) B5) .nil))
noncomputable def Rj:Ss:=(.cons (.set 3 (.lst .nil)) (.cons (.cU (.tup [4,5]) (.seq (.var 1)) Jr) (.cons (.set 1 (.var 3)) .nil)))
theorem aj1:Fv=(.cons (.set 1 (.lst (.cons (.tup (.cons (.lst .nil) (.cons (.neg (.cst (.int (1)))) .nil))) .nil))) (.cons (.cU (.name 2) (.jd (.blt .len (.cons (.var 0) .nil))) Rj) (.cons (.ret (.lst .nil)) .nil))):=rfl
noncomputable def fu(N:Nat)(q:Nat->Nat->Bool)(c:List Nat):Bool:=decide (Sets.bits N (λi=>c.all λk=>q k i)=0)
theorem m8(f:Nat->Int)(h:k<n):cF (cz f n) (k:Int)=some (.int (f k)):=qO (by unfold cz;simp[h])
section
variable{S L W e:Addr}{n N s k:Nat}{q:Nat->Nat->Bool}{c:List Nat}{Hm:Hp}{D:Ends}{x2 x6 x8:Option V}{as:List Addr}{cs:List (List Nat)}
theorem aiO(hS:Hm S=some (.lst (cz (λk=>((Sets.bits N (q k):Nat):Int)) n)))(hk:k<n)(he:Hm e=some (.lst (eY c)))(ko:c.length<=8)(ne:e≠W)(hW:Hm W=some (.lst (as.map V.ref)))(sN:as.length=cs.length)(hsz:cs.length<=1000)(Js:∀(i:Nat)(a:Addr)(c:List Nat),as[i]?=some a->cs[i]?=some c->rg Hm W N q a c)
 (xP:fu N q (c++[k])=true->∀H' E,ah Hm H'->H' E=some (.lst (eY (c++[k])))->D.rt (.ref E) H')
 (nR:fu N q (c++[k])=false->∀H' z,(∀b o,b≠W->Hm b=some o->H' b=some o)->fq H' W W N q (cs++[c++[k]])->D.nx [some (.ref S),some (.ref L),x2,some (.ref W),some (.ref e),some (.int (Sets.cm N q c)),x6,some (.int (k:Nat)),z] H'):
 ak (G p 69 4) B5 D [some (.ref S),some (.ref L),x2,some (.ref W),some (.ref e),some (.int (Sets.cm N q c)),x6,some (.int (k:Nat)),x8] Hm:=by
 unfold B5;tm_at "r";simp only[bM hS,m8 _ hk]
 tm_at "r"
 rw[aht,afK];have e2:eY (c++[k])=eY c++[V.int (k:Nat)]:=by unfold eY;simp
 have hz:(eY c).length+[V.int (k:Nat)].length<=sizeLine:=by unfold eY sizeLine;simp;lia
 change if fu N q (c++[k])=true then _ else _
 cases hd:fu N q (c++[k]) with
 |true=>
  simp only[if_true];refine⟨by show 1<=sizeLine;decide,λl hl=>?_⟩;have nl:e≠l:=bV he hl;simp only[c9,aI nl,he,au];refine⟨hz,λE hE=>xP hd _ E (ah.upd (ah.new hl) hE) (by rw[au,e2])⟩
 |false=>
  simp only[aL,if_false,hW,true_and];refine⟨by show 1<=sizeLine;decide,λl hl=>?_⟩;have nl:e≠l:=bV he hl;simp only[c9,aI nl,he,au];refine⟨hz,λf hf=>?_⟩;refine⟨by show 2<=sizeLine;decide,λa ha=>?_⟩;have wl:W≠l:=bV hW hl;have Rk:(upd Hm l (.lst [V.int (k:Nat)])) W=some (.lst (as.map V.ref)):=by rw[aI wl];exact hW
  have wf:W≠f:=bV Rk hf;have Rl:(upd (upd Hm l (.lst [V.int (k:Nat)])) f (.lst (eY c++[V.int (k:Nat)]))) W=some (.lst (as.map V.ref)):=by rw[aI wf];exact Rk
  have wa:W≠a:=bV Rl ha;have Jt:(upd (upd (upd Hm l (.lst [V.int (k:Nat)])) f (.lst (eY c++[V.int (k:Nat)]))) a (.tup [.ref f,.int (Sets.cm N q (c++[k]))])) W=some (.lst (as.map V.ref)):=by rw[aI wa];exact Rl
  have fa:f≠a:=λz=>by rw[←z,au] at ha;cases ha
  obtain⟨H3,eH⟩:∃X,X=upd (upd (upd Hm l (.lst [V.int (k:Nat)])) f (.lst (eY c++[V.int (k:Nat)]))) a (.tup [.ref f,.int (Sets.cm N q (c++[k]))]):=⟨_,rfl⟩;have s3:ah Hm H3:=by rw[eH];exact ah.upd (ah.upd (ah.new hl) hf) ha
  rw[←eH] at Jt ⊢;simp only[kg,Jt];refine⟨by unfold sizeLine;simp;lia,nR hd _ _ (λb o nb hb=>by rw[aI nb];exact s3 _ _ hb) ?_⟩;refine fq.push (H':=H3) Jt sN (λi a c h1 h2=>(Js i a c h1 h2).but λb o y hb=>s3 _ _ hb) ⟨f,wf.symm,wa.symm,by rw[eH,au],by rw[eH,aI fa,au,e2]⟩
set_option tactic.hygienic true in
theorem aiP(hS:Hm S=some (.lst (cz (λk=>((Sets.bits N (q k):Nat):Int)) n)))(hn:n<=8)(sP:S≠W)(hi:(Sets.subs n s 0)[i]?=some c)(he:Hm e=some (.lst (eY c)))(ne:e≠W)(hC:fq Hm W W N q (((Sets.subs n s 0).take i).flatMap (Sets.ia n)))(hP:∀y∈((Sets.subs n s 0).take i).flatMap (Sets.ia n),fu N q y=false)(xP:∀k H' E,Sets.bg 0 c<=k->k<n->(∀y∈Sets.pre n s i c k,fu N q y=false)->fu N q (c++[k])=true->(∀b o,b≠W->Hm b=some o->H' b=some o)->H' E=some (.lst (eY (c++[k])))->D.rt (.ref E) H')(nR:∀H' z7 z8,(∀b o,b≠W->Hm b=some o->H' b=some o)->fq H' W W N q (((Sets.subs n s 0).take (i+1)).flatMap (Sets.ia n))->(∀y∈((Sets.subs n s 0).take (i+1)).flatMap (Sets.ia n),fu N q y=false)->D.nx [some (.ref S),some (.ref L),x2,some (.ref W),some (.ref e),some (.int (Sets.cm N q c)),some (.int (Sets.bg 0 c:Nat)),z7,z8] H'):
 sS (G p 69 4) (.cU (.name 7) (.pM (.var 6) (.blt .len (.cons (.var 0) .nil))) B5) D [some (.ref S),some (.ref L),x2,some (.ref W),some (.ref e),some (.int (Sets.cm N q c)),some (.int (Sets.bg 0 c:Nat)),z7,z8] Hm:=by
 have hlen:(cz (λk=>((Sets.bits N (q k):Nat):Int)) n).length=n:=by unfold cz;simp
 have uY:=Sets.oN n s 0 c (eO hi)
 have ko:c.length<=8/\Sets.bg 0 c<=n:=by
  constructor
  ·rw[uY.1]
   rcases Y9 n s with z|z
   ·have:(Sets.subs n s 0).length=0:=by
     rw[vz];exact Sets.Gz n s 0 z
    have:=(dF.mp hi).1
    simp_all
   ·lia
  ·unfold Sets.bg
   split
   ·simp
   ·rename_i x hx
    have:=uY.2 x (S1 hx);lia
 have hsz:∀k,k<=n->(Sets.pre n s i c k).length<=1000:=λk hk=>Sets.afw hn hi hk;simp only[sS];unfold gf;simp only[sI];tm_at "r";simp only[cu,bM hS,hlen];refine⟨⟨by simp,by lia,by simp,by lia⟩,?_⟩;rw[show(((n:Nat):Int)-((Sets.bg 0 c:Nat):Int)).toNat=n-Sets.bg 0 c by simp]
 refine⟨λj m σ H'=>m=n-Sets.bg 0 c-j/\j<=n-Sets.bg 0 c/\(∀b o,b≠W->Hm b=some o->H' b=some o)/\fq H' W W N q (Sets.pre n s i c (Sets.bg 0 c+j))/\(∀y∈Sets.pre n s i c (Sets.bg 0 c+j),fu N q y=false)/\∃z7 z8,σ=[some (.ref S),some (.ref L),x2,some (.ref W),some (.ref e),some (.int (Sets.cm N q c)),some (.int (Sets.bg 0 c:Nat)),z7,z8],
  ⟨n-Sets.bg 0 c,by simp,dH _,λb o w hb=>hb,?_,?_,_,_,rfl⟩,?_⟩
 ·rw[oz,Sets.MI];exact hC
 ·rw[oz,Sets.MI];exact hP
 rintro j m σ H' ⟨rfl,hj,kb,Ju,B6,y7,y8,rfl⟩
 by_cases aM:j<n-Sets.bg 0 c
 ·refine .inr ⟨aM,λaF H'=>(∀b o,b≠W->Hm b=some o->H' b=some o)/\fq H' W W N q (Sets.pre n s i c (Sets.bg 0 c+j+1))/\(∀y∈Sets.pre n s i c (Sets.bg 0 c+j+1),fu N q y=false)/\∃z7 z8,aF=[some (.ref S),some (.ref L),x2,some (.ref W),some (.ref e),some (.int (Sets.cm N q c)),some (.int (Sets.bg 0 c:Nat)),z7,z8],
   λaF H' ⟨q1,q2,q3,q4⟩=>⟨n-Sets.bg 0 c-(j+1),by omega,rfl,by trivial,q1,q2,q3,q4⟩,λx gm hy=>?_⟩
  obtain⟨rfl,rfl⟩:=hy;simp only[bJ,fO,fF,fE];obtain⟨Q3,h1,h2,h3⟩:=Ju;rw[show((Sets.bg 0 c:Nat):Int)+(j:Nat)=((Sets.bg 0 c+j:Nat):Int) by simp];refine aiO (kb _ _ sP hS) (by grind) (kb _ _ ne he) ko.1 ne h1 h2 (hsz _ (by grind)) h3 (λhd H3 E s3 hE=>xP _ H3 E (by simp) (by lia) B6 hd (λb o nb hb=>s3 _ _ (kb b o nb hb)) hE) λhd H3 z k3 yr=>?_;refine⟨λb o nb hb=>k3 b o nb (kb b o nb hb),?_,?_,_,_,rfl⟩
  ·rw[Sets.Nn n s i c (by lia)];exact yr
  ·rw[Sets.Nn n s i c (by lia)]
   intro y hy;rcases jO.mp hy with z|z
   ·exact B6 y z
   ·simp at z;subst z;exact hd
 ·have ej:Sets.bg 0 c+j=n:=by grind
  refine .inl ⟨by show n-Sets.bg 0 c<=j;simp_all,?_⟩;rw[ej,Sets.afv hi ko.2] at Ju B6;exact nR H' _ _ kb Ju B6
theorem aiQ(hS:H0 S=some (.lst (cz (λk=>((Sets.bits N (q k):Nat):Int)) n)))(hn:n<=8)(sP:S≠W)(hL:fq H0 W L N q (Sets.subs n s 0))(Jv:L≠W)(hW:H0 W=some (.lst []))(xP:∀i c k H' E,(Sets.subs n s 0)[i]?=some c->Sets.bg 0 c<=k->k<n->(∀y∈Sets.pre n s i c k,fu N q y=false)->fu N q (c++[k])=true->(∀b o,b≠W->H0 b=some o->H' b=some o)->H' E=some (.lst (eY (c++[k])))->D.rt (.ref E) H')(nR:∀H' z4 z5 z6 z7 z8,(∀b o,b≠W->H0 b=some o->H' b=some o)->fq H' W W N q (Sets.subs n (s+1) 0)->(∀y∈Sets.subs n (s+1) 0,fu N q y=false)->D.nx [some (.ref S),some (.ref L),x2,some (.ref W),z4,z5,z6,z7,z8] H'):
 sS (G p 69 4) (.cU (.tup [4,5]) (.seq (.var 1)) Jr) D [some (.ref S),some (.ref L),x2,some (.ref W),z4,z5,z6,z7,z8] H0:=by
 obtain⟨as,p7,sN,Js⟩:=hL;simp only[sS];unfold gf;simp only[sI,sE,fC,dG];refine .inl ⟨_,.of p7,?_⟩
 refine⟨λi m σ Hm=>m=(Sets.subs n s 0).length-i/\i<=(Sets.subs n s 0).length/\(∀b o,b≠W->H0 b=some o->Hm b=some o)/\fq Hm W W N q (((Sets.subs n s 0).take i).flatMap (Sets.ia n))/\(∀y∈((Sets.subs n s 0).take i).flatMap (Sets.ia n),fu N q y=false)/\∃z4 z5 z6 z7 z8,σ=[some (.ref S),some (.ref L),x2,some (.ref W),z4,z5,z6,z7,z8],
  ⟨(Sets.subs n s 0).length,by simp,dH _,λb o z hb=>hb,⟨[],hW,rfl,λi a c ha=>by simp at ha⟩,λy hy=>by simp at hy,_,_,_,_,_,rfl⟩,?_⟩
 rintro i m σ Hm ⟨rfl,hi,km,Jw,Jx,y4,y5,y6,y7,y8,rfl⟩;have Jy:=km _ _ Jv p7
 by_cases hli:i<(Sets.subs n s 0).length
 ·have Jz:i<as.length:=by simp[*]
  refine .inr ⟨⟨_,V.ref as[i],aG.of Jy,by simp[Jz]⟩,λaF Hm=>(∀b o,b≠W->H0 b=some o->Hm b=some o)/\fq Hm W W N q (((Sets.subs n s 0).take (i+1)).flatMap (Sets.ia n))/\(∀y∈((Sets.subs n s 0).take (i+1)).flatMap (Sets.ia n),fu N q y=false)/\∃z4 z5 z6 z7 z8,aF=[some (.ref S),some (.ref L),x2,some (.ref W),z4,z5,z6,z7,z8],
   λaF H' ⟨q1,q2,q3,q4⟩=>⟨(Sets.subs n s 0).length-(i+1),by grind,rfl,by trivial,q1,q2,q3,q4⟩,λx H' hy=>?_⟩
  obtain⟨rfl,hv⟩:=hy;have hv:=hv _ (aG.of Jy);rw[eS,gF Jz,kH] at hv;cases hv;have B7:(Sets.subs n s 0)[i]?=some (Sets.subs n s 0)[i]:=gF hli;generalize xU:(Sets.subs n s 0)[i]=c at B7;obtain⟨e,ne,na,ha,he⟩:=(Js i as[i] c (gF Jz) B7).but km;simp only[bJ,ha,ck,eT,true_and,qa,sY,oi,tD,fF,fE];unfold Jr;simp only[ak];rw[sS];refine aee (by simp only[fC,dG]) he ?_;simp only[fF,fE];refine aiP (D:={nx:=_,rt:=D.rt,bk:=D.nx,ct:=_}) (km _ _ sP hS) hn sP B7 he ne Jw Jx (λk H3 E h1 h2 h3 h4 h5 h6=>xP i c k H3 E B7 h1 h2 h3 h4 (λb o nb hb=>h5 b o nb (km b o nb hb)) h6) λH3 w7 w8 k3 yr hP3=>?_;exact⟨λb o nb hb=>k3 b o nb (km b o nb hb),yr,hP3,_,_,_,_,_,rfl⟩
 ·have ei:i=(Sets.subs n s 0).length:=by lia
  refine .inl ⟨⟨_,aG.of Jy,by simp;simp[*]⟩,?_⟩;rw[ei,Sets.afu] at Jw Jx;exact nR Hm _ _ _ _ _ km Jw Jx
end
theorem acF(c:List Nat):eY c=(Dates.ints c).map V.int:=by unfold eY Dates.ints;simp
theorem ZX{S:Addr}{n N:Nat}(hS:H S=some (.lst (cz (λk=>((Sets.bits N (q k):Nat):Int)) n)))(hn:n<=8)(hN:1<=N)(h:∀H' E,ah H H'->bh H' E (gb n N q)->Q (.ref E) H'):ak (G p 69 4) Fv (fin Q) [some (.ref S),none,none,none,none,none,none,none,none] H:=by
 have hlen:(cz (λk=>((Sets.bits N (q k):Nat):Int)) n).length=n:=by unfold cz;simp
 rw[aj1];simp only[ak];rw[sS];simp only[sE,bz];refine⟨by show 0<=sizeLine;decide,λe0 he0=>⟨by show 2<=sizeLine;decide,λa0 yq=>⟨by show 1<=sizeLine;decide,λL0 p7=>?_⟩⟩⟩;obtain⟨H1,eH⟩:∃X,X=L2.upd (L2.upd (L2.upd H e0 (.lst [])) a0 (.tup [.ref e0,.int (-1)])) L0 (.lst [.ref a0]):=⟨_,rfl⟩;rw[←eH];have s1:ah H H1:=by rw[eH];exact ah.upd (ah.upd (ah.new he0) yq) p7
 have n1:e0≠a0:=λe=>by rw[e,au] at yq;cases yq
 have n2:a0≠L0:=λe=>by rw[e,au] at p7;cases p7
 have n3:e0≠L0:=λe=>by rw[←e,aI n1,au] at p7;cases p7
 have hc0:fq H1 L0 L0 N q (Sets.subs n 0 0):=by
  rw[Sets.kL,eH];refine⟨[a0],by rw[au];rfl,rfl,λi a c ha hc=>?_⟩
  have:i=0:=by
   have:=(dF.mp ha).1;simpa using this
  subst this;cases ha;cases hc;exact⟨e0,n3,n2,by rw[aI n2,au];rfl,by rw[aI n3,aI n1,au];rfl⟩
 have hP0:∀k,k<=0->(Sets.subs n k 0).find? (fu N q)=none:=λk hk=>by
  have:k=0:=by simp_all
  subst this;rw[Sets.kL];refine Sets.Np λy hy=>?_;simp at hy;subst hy;unfold fu;rw[decide_eq_false_iff_not,Sets.v9];exact λz=>by have:=z 0 (by trivial);simp at this
 simp only[sS];unfold gf;simp only[sI,sE,bz,fF,fE,fC,dG];simp only[cu,bM (s1 _ _ hS),hlen];refine⟨⟨by lia,by lia⟩,?_⟩;rw[fG]
 refine⟨λi m σ H'=>m=n-i/\i<=n/\ah H H'/\(∀k,k<=i->(Sets.subs n k 0).find? (fu N q)=none)/\∃X L z2 z3 z4 z5 z6 z7 z8,σ=[some (.ref S),some (.ref L),z2,z3,z4,z5,z6,z7,z8]/\fq H' X L N q (Sets.subs n i 0),
  ⟨n,by simp,dH _,s1,hP0,L0,L0,_,_,_,_,_,_,_,rfl,hc0⟩,?_⟩
 rintro s m σ H2 ⟨rfl,hs,s2,hP,X,L,z2,z3,z4,z5,z6,z7,z8,rfl,hC⟩
 by_cases aM:s<n
 ·refine .inr ⟨aM,λaF H'=>ah H H'/\(∀k,k<=s+1->(Sets.subs n k 0).find? (fu N q)=none)/\∃X L z2 z3 z4 z5 z6 z7 z8,aF=[some (.ref S),some (.ref L),z2,z3,z4,z5,z6,z7,z8]/\fq H' X L N q (Sets.subs n (s+1) 0),
   λaF H' ⟨q1,q2,q3⟩=>⟨n-(s+1),by grind,rfl,by trivial,q1,q2,q3⟩,λx H' hy=>?_⟩
  obtain⟨rfl,rfl⟩:=hy;simp only[bJ,fO,fF,fE];unfold Rj;simp only[ak];rw[sS];simp only[sE,bz];refine⟨by show 0<=sizeLine;decide,λW hW=>?_⟩;obtain⟨yr,Jv⟩:=hC.new hW (.lst []);have sP:S≠W:=bV (s2 _ _ hS) hW
  have hHW:H W=none:=by
   cases e:H W with
   |none=>rfl
   |some o=>rw[s2 _ _ e] at hW;cases hW
  simp only[fF,fE]
  have kk:∀H4:Hp,(∀b o,b≠W->(upd H' W (.lst [])) b=some o->H4 b=some o)->ah H H4:=λH4 k4 b o hb=>by
   have nb:=bV hb hHW;exact k4 b o nb (by rw[aI nb];exact s2 _ _ hb)
  refine aiQ (by rw[aI sP];exact s2 _ _ hS) hn sP yr Jv au (λi c k H4 E h1 h2 h3 h4 h5 h6 h7=>?_) λH4 w4 w5 w6 w7 w8 k4 hC4 hP4=>?_
  ·obtain⟨post,aiR⟩:=Sets.ad1 h1 h2 h3
   refine h H4 E (kk H4 h6) ?_;unfold bh gb;rw[h7,show(λc=>decide (Sets.bits N (λi=>c.all λk=>q k i)=0))=fu N q from rfl,Sets.ad2 hP aM aiR h4 h5,acF]
  ·rw[sS]
   simp only[sE,fC,dG,fF,fE];refine⟨kk H4 k4,λk hk=>?_,W,W,_,_,_,_,_,_,_,rfl,hC4⟩
   by_cases hk2:k<=s
   ·exact hP k hk2
   ·have:k=s+1:=by lia
    subst this;exact Sets.Np hP4
 ·have es:s=n:=by lia
  subst es;refine .inl ⟨aY _,?_⟩;refine⟨by show 0<=sizeLine;decide,λE hE=>h _ E (ah.upd s2 hE) ?_⟩;unfold bh gb;rw[au,show(λc=>decide (Sets.bits N (λi=>c.all λk=>q k i)=0))=fu N q from rfl,Sets.ace hP];rfl
theorem jb.rd(h:jb H m row):Mini.rd H m=some (row.map V.int):=by
 rcases h with h|h
 ·exact bM h
 ·exact aO h
theorem jb.same(h:jb H m row)(s:ah H H'):jb H' m row:=h.imp (λz=>s _ _ z) λz=>s _ _ z
theorem bA.same(h:bA p H a b)(s:ah H H'):bA p H' a b:=let ⟨dx,f,r,a1,a2,a3⟩:=h;⟨dx,f,r,s _ _ a1,a2.same s,a3.same s⟩
theorem a_.same(h:a_ p H a b)(s:ah H H'):a_ p H' a b:=let ⟨dx,l,pe,o,hh,sl,pl,w,se,a1,a2⟩:=h;⟨dx,l,pe,o,hh,sl,pl,w,se,s _ _ a1,a2.same s⟩
theorem lcZ{K:aD}{B:Bool}{tt:TT}{te:TE}{vs:List Nat}{σ:L2.St}{H1:Hp}{Q:VK}{k x:Nat}{a b:Addr}{xs ys:List V}(f:Nat->Option V)(hx:H1 a=some (.tup xs))(hy:if B=true then H1 b=some (.tup ys) else H1 b=some (.lst ys))(hl:xs.length=ys.length)(hn:xs.length<=sizeLine)
 (hw:∀u v:V,wipe (((wipe σ vs).set k (some u)).set x (some v)) vs=wipe σ vs)
 (hs:∀(i:Nat)(u v:V)(H:Hp),xs[i]?=some u->ys[i]?=some v->ah H1 H->kh tt te (((wipe σ vs).set k (some u)).set x (some v)) H (f i)) (hd:∀H' D,ah H1 H'->H' D=some (.lst (flat f xs.length))->Q (.ref D) H'):eZ (λy y R=>R (xK B K a b) H1) (bJ K (.tup [k,x])) tt te vs σ H1 Q:=by
 have sb:∀H,ah H1 H->nM B K H b ys:=λH s=>by
  cases B
  ·exact aG.of (s _ _ hy)
  ·exact aP.of (s _ _ hy)
 intro D hD;refine uw (f:=f) (n:=xs.length) hD hn (λH s=>⟨xs,ys,aP.of (s _ _ hx),sb H s,.inl (aY _)⟩) (λi H hi s=>⟨xs,ys,xs[i],ys[i],aP.of (s _ _ hx),sb H s,by simp[hi],by simp[hl▸hi]⟩) (λi H z H' hi s Q_ Q hQ=>?_) λH' s e=>hd H' D s e;obtain⟨T,u,v,rfl,hT,rfl,hu,hv⟩:=Q_;have hu:=hu xs (aP.of (s _ _ hx));have hv:=hv ys (sb H s);simp only[bJ,au,ck,eT,true_and,qa,sY,oi,tD];have s2:ah H (L2.upd H T (.tup [u,v])):=ah.new hT;exact hQ _ _ s2 (hw _ _) (hs i u v _ hu hv (s.trans s2))
theorem Ow(h:jb H m row):cu .len [.ref m] H Q=Q (.int (row.length:Nat)) H:=by
 simp only[cu,h.rd,aU]
theorem QB(l:List Int):fz (l.map V.int) (some 1) none=(l.drop 1).map V.int:=by
 have:=G8 (l.map V.int) 1;rw[show((1:Nat):Int)=1 from rfl] at this;rw[this,zc]
theorem VD(ha:bA p H a b)(hm:jb H m row)(h:∀H',ah H H'->Q (.bl (fL b row)) H'):ak (G p 80 4) DB (fin Q) [some (.ref a),some (.ref m),none,none,none,none] H:=by
 unfold DB;tm_at "r";rw[Ow hm]
 tm_at "r"
 by_cases h5:row.length=5
 ·match row,h5 with
  |[k,a1,a2,a3,a4],_=>
   simp only[ck,eT,aV,bB];simp only[show decide (((5:Nat):Int)=5)=true from rfl,bH,aL,if_false];have pU:Mini.rd H m=some [V.int k,V.int a1,V.int a2,V.int a3,V.int a4]:=hm.rd;simp only[pU];tm_at "r"
   have hr:fL b [k,a1,a2,a3,a4]=(decide (0<=k)&&(decide (k<=9)&&(((jf b k.toNat).zip [a1,a2,a3,a4]).all λx=>gT x.1 x.2))):=by
    unfold fL;simp
   rw[hr] at h
   by_cases c1:k<0
   ·have:decide (0<=k)=false:=by simp;omega
    rw[this] at h;simp only[c1,decide_true,if_true];exact h H (ah.refl H)
   ·have e1:decide (0<=k)=true:=by simp;simp_all
    rw[e1] at h;simp only[c1,decide_false,aL,if_false]
    by_cases c2:9<k
    ·have:decide (k<=9)=false:=by simp;omega
     rw[this] at h;simp only[c2,decide_true,if_true];exact h H (ah.refl H)
    ·have e2:decide (k<=9)=true:=by simp;simp_all
     rw[e2,gu,gu] at h;simp only[c2,decide_false,aL,if_false];refine⟨a,b,k,rfl,ha,⟨by lia,by lia⟩,λH1 T v0 v1 v2 v3 s1 hT b0 b1 b2 b3=>?_⟩
     have hb4:∃x0 x1 x2 x3,jf b k.toNat=[x0,x1,x2,x3]:=by
      rcases(by(simp;lia):k.toNat=0\/k.toNat=1\/k.toNat=2\/k.toNat=3\/k.toNat=4\/k.toNat=5\/k.toNat=6\/k.toNat=7\/k.toNat=8\/k.toNat=9) with e|e|e|e|e|e|e|e|e|e<;>(rw[e];exact⟨_,_,_,_,rfl⟩)
     obtain⟨x0,x1,x2,x3,eb⟩:=hb4;rw[eb] at h b0 b1 b2 b3;simp only[yO,Ka] at b0 b1 b2 b3
     have uL:∀(B:Bool)(q:Addr)(H2:Hp),ah H1 H2->(if B=true then H2 q=some (.tup [V.int a1,V.int a2,V.int a3,V.int a4]) else H2 q=some (.lst [V.int a1,V.int a2,V.int a3,V.int a4]))->eZ (λy y R=>R (xK B p.K T q) H2) (bJ p.K (.tup [4,5])) (sT (G p 80 4) (.cst (.bl true))) (sE (G p 80 4) (.cmp (.fX (.var 4) (.cst (.int (0)))) (.more .le (.var 5) (.one .le (.fX (.var 4) (.cst (.int (1)))))))) [4,5] [some (.ref a),some (.ref m),some (.int k),some (.ref T),none,none] H2 λx H3=>cu .all [x] H3 Q:=by
      intro B q H2 s2 hq
      have hz:∀(i:Nat)(u v:V)(H3:Hp),([v0,v1,v2,v3]:List V)[i]?=some u->([V.int a1,V.int a2,V.int a3,V.int a4]:List V)[i]?=some v->ah H2 H3->∃(t:Addr)(x:Int×Int)(n:Int),u=V.ref t/\v=V.int n/\aP p.K H3 t [.int x.1,.int x.2]/\(([x0,x1,x2,x3]:List (Int×Int)).zip [a1,a2,a3,a4])[i]?=some (x,n):=by
       intro i u v H3 hu hv s3;have ss:=s2.trans s3
       have hi:i<4:=by
        have:=(dF.mp hu).1;simpa using this
       obtain⟨t0,rfl,q0⟩:=b0;obtain⟨t1,rfl,q1⟩:=b1;obtain⟨t2,rfl,q2⟩:=b2;obtain⟨t3,rfl,q3⟩:=b3;rcases(by lia:i=0\/i=1\/i=2\/i=3) with rfl|rfl|rfl|rfl
       ·cases hu;cases hv;exact⟨t0,x0,a1,rfl,rfl,wo q0 ss,rfl⟩
       ·cases hu;cases hv;exact⟨t1,x1,a2,rfl,rfl,wo q1 ss,rfl⟩
       ·cases hu;cases hv;exact⟨t2,x2,a3,rfl,rfl,wo q2 ss,rfl⟩
       ·cases hu;cases hv;exact⟨t3,x3,a4,rfl,rfl,wo q3 ss,rfl⟩
      refine lcZ (λi=>((([x0,x1,x2,x3]:List (Int×Int)).zip [a1,a2,a3,a4])[i]?).map λx=>V.bl (gT x.1 x.2)) (s2 _ _ hT) hq rfl (by show 4<=sizeLine;decide) (λu v=>rfl) (λi u v H3 hu hv s3 R hR=>?_) λH3 D s3 e=>?_
      ·obtain⟨t,x,n,rfl,rfl,q,ez⟩:=hz i u v H3 hu hv s3
       simp only[wipe]
       tm_at "r"
       have:=hR H3 (ah.refl H3);rw[ez,kH] at this;simp only[rO];refine⟨_,_,.inr q,d8,?_⟩
       tm_at "r"
       unfold gT at this;cases c:decide (x.1<=n) with
       |false=>rw[c] at this;exact this
       |true=>
        rw[c] at this;simp only[if_true,rO];exact⟨_,_,.inr q,iA,this⟩
      ·have e4:flat (λi=>((([x0,x1,x2,x3]:List (Int×Int)).zip [a1,a2,a3,a4])[i]?).map λx=>V.bl (gT x.1 x.2)) [v0,v1,v2,v3].length=((([x0,x1,x2,x3]:List (Int×Int)).zip [a1,a2,a3,a4]).map λx=>gT x.1 x.2).map V.bl:=rfl
       rw[e4] at e;rw[HP e,qv];exact h H3 ((s1.trans s2).trans s3)
     refine o7 ?_;simp only[sI];tm_at "r";have yt:=hm.same s1;rcases yt with yt|yt
     ·simp only[jx,yt]
      intro q hq;rw[QB];refine⟨false,_,_,aP.of (by rw[aI (bV hT hq)];exact hT),aG.of au,?_⟩;have z:=uL false q _ (ah.new hq) (by rw[au];rfl);simp only[sT,sE,sC,lX,G] at z;exact z
     ·simp only[jx,yt]
      refine⟨λz=>by have:=z.1;simp[HT.bu] at this,λq hq=>?_⟩;rw[QB];refine⟨true,_,_,aP.of (by rw[aI (bV hT hq)];exact hT),aP.of au,?_⟩;have z:=uL true q _ (ah.new hq) (by rw[au];rfl);simp only[sT,sE,sC,lX,G] at z;exact z
 ·have:fL b row=false:=by simp[fL,h5]
  rw[this] at h;have e:decide (((row.length:Nat):Int)=5)=false:=by simp;lia
  simp only[e,jP,if_true];exact h H (ah.refl H)
theorem UL(ok:aK p)(ha:a_ p H a b)(hm:jb H m row)(h:∀H',ah H H'->Q (.bl (fM b row)) H'):ak (G p 60 4) Df (fin Q) [some (.ref a),some (.ref m),none,none,none] H:=by
 unfold Df;tm_at "r";rw[Ow hm]
 tm_at "r"
 by_cases h5:row.length=3
 ·match row,h5 with
  |[k,a1,a2],_=>
   simp only[ck,eT];simp only[show decide (((3:Nat):Int)=3)=true from rfl,bH,aL,if_false];have pU:Mini.rd H m=some [V.int k,V.int a1,V.int a2]:=hm.rd;simp only[pU];tm_at "r"
   have hr:fM b [k,a1,a2]=(decide (0<=k)&&(decide (k<=3)&&((decide (0<=a1)&&decide (a1<(cnt b k.toNat:Int)))&&(decide (0<=a2)&&decide (a2<(if k=1 then (b.offices.length:Int) else 1)))))):=by
    unfold fM;simp
   rw[hr] at h
   by_cases c1:k<0
   ·have:decide (0<=k)=false:=by simp;lia
    rw[this] at h;simp only[c1,decide_true,if_true];exact h H (ah.refl H)
   have e1:decide (0<=k)=true:=by simp;lia
   rw[e1] at h;simp only[c1,decide_false,aL,if_false]
   by_cases c2:3<k
   ·have:decide (k<=3)=false:=by simp;omega
    rw[this] at h;simp only[c2,decide_true,if_true];exact h H (ah.refl H)
   have e2:decide (k<=3)=true:=by simp;simp_all
   rw[e2,gu,gu] at h;simp only[c2,decide_false,aL,if_false];obtain⟨dx,l,pe,of,hh,s,pl,w,se,hl,L⟩:=ha;simp only[qx ok hl,zL ok hl,lH ok hl,dN L.persons,dN L.seals,dN L.places,aU];refine⟨by show 4<=sizeLine;decide,λT hT=>?_⟩;have s1:ah H (upd H T (.tup [.int (b.persons.length:Nat),.int (b.persons.length:Nat),.int (b.seals.length:Nat),.int (b.places.length:Nat)])):=ah.new hT;have yu:(upd H T (.tup [.int (b.persons.length:Nat),.int (b.persons.length:Nat),.int (b.seals.length:Nat),.int (b.places.length:Nat)])) T=some (.tup [.int (b.persons.length:Nat),.int (b.persons.length:Nat),.int (b.seals.length:Nat),.int (b.places.length:Nat)]):=au;generalize upd H T (.tup [.int (b.persons.length:Nat),.int (b.persons.length:Nat),.int (b.seals.length:Nat),.int (b.places.length:Nat)])=H1 at s1 yu;have QC:Mini.rd H1 m=some [V.int k,V.int a1,V.int a2]:=(hm.same s1).rd
   have Jq:cF [V.int (b.persons.length:Nat),V.int (b.persons.length:Nat),V.int (b.seals.length:Nat),V.int (b.places.length:Nat)] k=some (.int (cnt b k.toNat:Nat)):=by
    rcases(by lia:k=0\/k=1\/k=2\/k=3) with rfl|rfl|rfl|rfl
    ·exact d8
    ·exact iA
    ·exact at2
    ·exact Jd
   have fin2:∀o:Int,o=(if k=1 then (b.offices.length:Int) else 1)->(if decide (0<=a1)=true then (if decide (a1<(cnt b k.toNat:Int))=true then (if decide (0<=a2)=true then Q (.bl (decide (a2<o))) H1 else Q (.bl false) H1) else Q (.bl false) H1) else Q (.bl false) H1):=by
    intro o ho;have:=h H1 s1;rw[←ho] at this;cases x1:decide (0<=a1)<;>cases x2:decide (a1<(cnt b k.toNat:Int))<;>cases x3:decide (0<=a2)<;>(rw[x1,x2,x3] at this;simpa using this)
   have go:∀o:Int,o=(if k=1 then (b.offices.length:Int) else 1)->ak (G p 60 4) (.cons (.ret (.bQ (.cmp (.cst (.int (0))) (.more .le (.ix (.var 1) (.cst (.int (1)))) (.one .lt (.ix (.var 3) (.var 2))))) (.cmp (.cst (.int (0))) (.more .le (.ix (.var 1) (.cst (.int (2)))) (.one .lt (.var 4)))))) .nil) (fin Q) [some (.ref a),some (.ref m),some (.int k),some (.ref T),some (.int o)] H1:=by
    intro o ho;have z:=fin2 o ho
    tm_at "r"
    simp only[QC];tm_at "r";cases x1:decide (0<=a1) with
    |false=>rw[x1] at z;exact z
    |true=>
     rw[x1] at z;simp only[if_true,aO yu,Jq];tm_at "r";cases x2:decide (a1<(cnt b k.toNat:Int)) with
     |false=>rw[x2] at z;exact z
     |true=>
      rw[x2] at z;simp only[if_true,QC];tm_at "r";cases x3:decide (0<=a2) with
      |false=>rw[x3] at z;exact z
      |true=>rw[x3] at z;exact z
   by_cases c3:k=1
   ·have d3:decide (k=1)=true:=by simp[c3]
    simp only[d3,if_true,qy ok (s1 _ _ hl),dN (L.same s1).offices,aU];have z:=go (b.offices.length:Nat) (by rw[if_pos c3]);simp only[ak,sS,sE,sC,dG,fC] at z;exact z
   ·have d3:decide (k=1)=false:=by simp[c3]
    simp only[d3,aL,if_false];have z:=go 1 (by rw[if_neg c3]);simp only[ak,sS,sE,sC,dG,fC] at z;exact z
 ·have:fM b row=false:=by simp[fM,h5]
  rw[this] at h;have e:decide (((row.length:Nat):Int)=3)=false:=by simp;lia
  simp only[e,jP,if_true];exact h H (ah.refl H)
theorem wX(h:TabAt H r n T)(hk:k<n):∃(a:Addr)(xs:List V),Mini.rd H r=some xs/\cF xs (k:Int)=some (.ref a)/\Mini.rd H a=some (cz (T k) n):=by
 obtain⟨rs,h1,h2,h3⟩:=h;have hl:k<rs.length:=by simp[*]
 exact⟨rs[k],_,bM h1,qO (by simp[hl]),bM (h3 k rs[k] (by simp[hl]))⟩
theorem TabAt.same(h:TabAt H r n T)(s:ah H H'):TabAt H' r n T:=let ⟨rs,h1,h2,h3⟩:=h;⟨rs,s _ _ h1,h2,λi a e=>s _ _ (h3 i a e)⟩
noncomputable def gp(T:Nat->Nat->Int)(k:Nat):Int->List m6->List (Int×Int)×Int
 |di,[]=>([],di)
 |di,s::r=>((di,s.day-T k s.place)::(gp T k (s.day+T s.place k) r).1,(gp T k (s.day+T s.place k) r).2)
theorem GQ(T:Nat->Nat->Int)(k:Nat):∀(di:Int)(l:List m6),Sets.stays T k di l=(gp T k di l).1++[((gp T k di l).2,730499)]
 |di,[]=>rfl
 |di,s::r=>by simp only[Sets.stays,gp,GQ T k _ r];rfl
theorem Ox(T:Nat->Nat->Int)(k:Nat)(s:m6):∀(di:Int)(l:List m6),gp T k di (l++[s])=((gp T k di l).1++[((gp T k di l).2,s.day-T k s.place)],s.day+T s.place k)
 |di,[]=>rfl
 |di,a::r=>by
  rw[qe];simp only[gp,Ox T k s _ r];rfl
theorem HB(T:Nat->Nat->Int)(k:Nat):∀(di:Int)(l:List m6),(gp T k di l).1.length=l.length
 |di,[]=>rfl
 |di,s::r=>by simp only[gp,ck,HB T k _ r]
theorem MO{H0 H H':Hp}{N t:Addr}{acc:List V}{l:List (Int×Int)}{x y:Int}(hN:H0 N=none)(s:ah H0 H)(hA:H N=some (.lst acc))(hr:rows? H acc=some (cR l))(ht:H t=none):
 (upd H t (.tup [.int x,.int y])) N=some (.lst acc)/\ah H0 (upd (upd H t (.tup [.int x,.int y])) N (.lst (acc++[.ref t])))/\rows? (upd (upd H t (.tup [.int x,.int y])) N (.lst (acc++[.ref t]))) (acc++[.ref t])=some (cR (l++[(x,y)])):=by
 have nt:N≠t:=bV hA ht;have JA:(upd H t (.tup [.int x,.int y])) N=some (.lst acc):=by rw[aI nt];exact hA
 have s1:ah H (upd H t (.tup [.int x,.int y])):=ah.new ht;have e1:(upd H t (.tup [.int x,.int y])) t=some (.tup ([x,y].map V.int)):=au;generalize upd H t (.tup [.int x,.int y])=H3 at JA s1 e1
 have nD:∀(a:Addr)(ys:List V),H3 a=some (.tup ys)->a≠N:=λa ys ha e=>by
  rw[e,JA] at ha;cases ha
 refine⟨JA,ah.put (s.trans s1) hN,?_⟩;have e2:cR (l++[(x,y)])=cR l++[[x,y]]:=by unfold cR;simp
 rw[e2];refine wk (oH (H:=H3) (λa ys ha=>by rw[aI (nD a ys ha)];exact ha) (ah.rows s1 hr)) ?_;rw[aI (nD t _ e1)];exact e1
theorem MP:∀{xs:List V}{rs:List (List Int)},rows? H xs=some rs->xs.length=rs.length:=λh=>(wj h).1
theorem Pb(h:H N=some (.lst acc))(hr:rows? H acc=some (cR l))(hl:l.length<=70000):aZ H N (cR l):=by
 refine⟨acc,h,hr,by unfold cR;simpa using hl,λr hr=>?_⟩;unfold cR at hr;obtain⟨x,_,rfl⟩:=gH.mp hr;show 2<=70000;decide
theorem UM{a r:Addr}{k:Int}(ok:aK p)(ha:a_ p H a b)(ho:Sets.Ok b)(hr:TabAt H r b.places.length (Sets.tR b))(hk:0<=k/\k<(b.places.length:Nat))(h:∀H' D,ah H H'->H D=none->aZ H' D (cR (Sets.stays (Sets.tR b) k.toNat 0 b.seens))->Q (.ref D) H'):
 ak (G p 61 4) Dg (fin Q) [some (.ref a),some (.ref r),some (.int k),none,none,none] H:=by
 obtain⟨dx,l,pe,of,hh,sl,pl,w,se,hl,L⟩:=ha;obtain⟨xs,e1,e2,e3,e4⟩:=dO L.seens;have Rm:k.toNat<b.places.length:=by simp[*]
 have ek:((k.toNat:Nat):Int)=k:=by lia
 unfold Dg;tm_at "r";refine⟨by show 0<=sizeLine;decide,λN hN=>?_⟩;have s0:ah H (upd H N (.lst [])):=ah.new hN;have Rn:(upd H N (.lst [])) N=some (.lst []):=au;generalize upd H N (.lst [])=H0 at s0 Rn;unfold gf;simp only[sI];tm_at "r";simp only[tW ok (s0 _ _ hl)];refine .inl ⟨xs,.of (s0 _ _ e1),?_⟩
 refine⟨λi m σ H'=>m=xs.length-i/\i<=xs.length/\ah H H'/\∃acc z,H' N=some (.lst acc)/\rows? H' acc=some (cR (gp (Sets.tR b) k.toNat 0 (b.seens.take i)).1)/\σ=[some (.ref a),some (.ref r),some (.int k),some (.ref N),some (.int (gp (Sets.tR b) k.toNat 0 (b.seens.take i)).2),z],
  ⟨xs.length,by simp,dH _,s0,[],none,Rn,rfl,rfl⟩,?_⟩
 rintro i m σ H1 ⟨rfl,hi,s1,acc,z,hA,fR,rfl⟩
 have sN:acc.length=(b.seens.take i).length:=by
  have:=MP fR;unfold cR at this;rw[aU,HB] at this;exact this
 have JB:=ho.sn
 by_cases aM:i<xs.length
 ·refine .inr ⟨⟨xs,xs[i],aG.of (s1 _ _ e1),by simp[aM]⟩,λaF H'=>ah H H'/\∃acc z,H' N=some (.lst acc)/\rows? H' acc=some (cR (gp (Sets.tR b) k.toNat 0 (b.seens.take (i+1))).1)/\aF=[some (.ref a),some (.ref r),some (.int k),some (.ref N),some (.int (gp (Sets.tR b) k.toNat 0 (b.seens.take (i+1))).2),z],
   λaF H' ⟨q1,q2⟩=>⟨xs.length-(i+1),by grind,rfl,by trivial,q1,q2⟩,λx H' hy=>?_⟩
  obtain⟨rfl,hv⟩:=hy;obtain⟨y,u,g1,rfl,g2⟩:=e4 i x (hv xs (aG.of (s1 _ _ e1)));have JC:=ho.seens y (eO g1);have eys:((y.place:Nat):Int).toNat=y.place:=by simp
  have vp:=s1 _ _ g2;simp only[jv,aV,bB] at vp;obtain⟨a1,BZ,r1,r2,r3⟩:=wX (hr.same s1) Rm;obtain⟨a2,yw,r4,r5,r6⟩:=wX (hr.same s1) JC.2;rw[ek] at r2;have et:b.seens.take (i+1)=b.seens.take i++[y]:=by rw[oq,g1];rfl
  rw[et,Ox];simp only[bJ,fO]
  tm_at "r"
  simp only[hA,true_and,aO vp,r1,r2,r3]
  tm_at "r"
  simp only[m8 _ JC.2,r1,r2,r3]
  tm_at "r"
  refine⟨by show 2<=sizeLine;decide,λt ht=>?_⟩;obtain⟨q1,q2,q3⟩:=MO (H':=H') (x:=(gp (Sets.tR b) k.toNat 0 (b.seens.take i)).2) (y:=y.day-Sets.tR b k.toNat y.place) hN s1 hA fR ht;simp only[kg,q1];refine⟨by rw[sN];unfold sizeLine;simp;lia,?_⟩;have q4:(upd (upd H' t (.tup [.int (gp (Sets.tR b) k.toNat 0 (b.seens.take i)).2,.int (y.day-Sets.tR b k.toNat y.place)])) N (.lst (acc++[.ref t]))) N=some (.lst (acc++[.ref t])):=au;generalize upd (upd H' t (.tup [.int (gp (Sets.tR b) k.toNat 0 (b.seens.take i)).2,.int (y.day-Sets.tR b k.toNat y.place)])) N (.lst (acc++[.ref t]))=H2 at q2 q3 q4;have g3:=q2 _ _ g2;simp only[jv,aV,bB] at g3;obtain⟨a3,xs3,r7,r8,r9⟩:=wX (hr.same q2) JC.2;simp only[aO g3];tm_at "r";simp only[r7,r8,r9];have:=m8 (Sets.tR b y.place) Rm;rw[ek] at this;simp only[this];tm_at "r";exact⟨q2,_,_,q4,q3,rfl⟩
 ·have ei:i=xs.length:=by lia
  refine .inl ⟨⟨xs,aG.of (s1 _ _ e1),by simp[*]⟩,?_⟩;rw[jo (by simp[*])] at fR sN ⊢;simp only[fC,dG,hA,true_and];refine⟨by show 2<=sizeLine;decide,λt ht=>?_⟩;obtain⟨q1,q2,q3⟩:=MO (H':=H1) (x:=(gp (Sets.tR b) k.toNat 0 b.seens).2) (y:=730499) hN s1 hA fR ht;simp only[kg,q1];refine⟨by rw[sN];unfold sizeLine;lia,?_⟩;refine h _ N q2 hN (Pb (acc:=acc++[.ref t]) au ?_ ?_)
  ·rw[GQ];exact q3
  ·rw[GQ,jq,HB];simp;lia
theorem afL{K:aD}{x:Nat}{a:Addr}{xs:List V}{tt:TT}{te:TE}{vs:List Nat}{σ:L2.St}{H1:Hp}{Q:VK}{A:Type}(l:List A)(P:A->Bool)(f:A->Int×Int)(hx:H1 a=some (.lst xs))(hl:xs.length=l.length)(hn:l.length<=70000)(hw:∀v:V,wipe ((wipe σ vs).set x (some v)) vs=wipe σ vs)
 (hs:∀(i:Nat)(y:A)(v:V)(H:Hp),l[i]?=some y->xs[i]?=some v->ah H1 H->∀R:Option V->Hp->Prop,(P y=true->∀H' t,ah H H'->H' t=some (.tup [.int (f y).1,.int (f y).2])->R (some (.ref t)) H')->(P y=false->R none H)->tt ((wipe σ vs).set x (some v)) H λb H3=>if b=true then te ((wipe σ vs).set x (some v)) H3 λy H4=>R (some y) H4 else R none H3)
 (hd:∀H' D,ah H1 H'->H1 D=none->aZ H' D (cR ((l.filter P).map f))->Q (.ref D) H'):eZ (λw w R=>R (kY K a) H1) (bJ K (.name x)) tt te vs σ H1 Q:=by
 intro D hD;refine⟨λi m H=>m=xs.length-i/\i<=xs.length/\ah H1 H/\∃acc,H D=some (.lst acc)/\rows? H acc=some (cR (((l.take i).filter P).map f)),⟨xs.length,by simp,dH _,ah.new hD,[],au,rfl⟩,?_⟩;rintro i m H ⟨rfl,hi,c7,acc,gk,jm⟩
 have sN:acc.length<=70000:=by
  rw[MP jm];unfold cR;rw[aU,aU];have:=sW P (l.take i);simp at this;lia
 by_cases aM:i<xs.length
 ·refine .inr ⟨⟨xs,xs[i],aG.of (c7 _ _ hx),by simp[aM]⟩,λH'=>ah H1 H'/\∃acc,H' D=some (.lst acc)/\rows? H' acc=some (cR (((l.take (i+1)).filter P).map f)),λH' ⟨a,b⟩=>⟨xs.length-(i+1),by grind,rfl,by trivial,a,b⟩,λz H' hy=>?_⟩
  obtain⟨eH,hv⟩:=hy;rw[eH];have hv:=hv xs (aG.of (c7 _ _ hx));have hy:l[i]?=some l[i]:=by simp[show i<l.length by omega]
  refine⟨hw _,?_⟩;have et:l.take (i+1)=l.take i++[l[i]]:=by rw[oq,hy];rfl
  refine hs i l[i] z H hy hv c7 (λo H'=>match o with
   |none=>ah H1 H'/\∃acc,H' D=some (.lst acc)/\rows? H' acc=some (cR (((l.take (i+1)).filter P).map f))
   |some y=>∃acc,H' D=some (.lst acc)/\acc.length<sizeLine/\(ah H1 (upd H' D (.lst (acc++[y])))/\∃l9,(upd H' D (.lst (acc++[y]))) D=some (.lst l9)/\rows? (upd H' D (.lst (acc++[y]))) l9=some (cR (((l.take (i+1)).filter P).map f)))) (λhp H4 t s4 ht=>?_) λhp=>?_
  ·have nV:=s4 _ _ gk
   have nD:∀(a:Addr)(ys:List V),H4 a=some (.tup ys)->a≠D:=λa ys ha e=>by
    rw[e,nV] at ha;cases ha
   refine⟨acc,nV,by unfold sizeLine;lia,ah.put (c7.trans s4) hD,acc++[.ref t],au,?_⟩
   have e2:cR (((l.take (i+1)).filter P).map f)=cR (((l.take i).filter P).map f)++[[(f l[i]).1,(f l[i]).2]]:=by
    rw[et,Kl,ql];unfold cR;simp[hp]
   rw[e2];refine wk (oH (H:=H4) (λa ys ha=>by rw[aI (nD a ys ha)];exact ha) (ah.rows s4 jm)) ?_;rw[aI (nD t _ ht)];exact ht
  ·refine⟨c7,acc,gk,?_⟩
   rw[et,Kl];simp[hp,jm]
 ·have e:i=xs.length:=by lia
  subst e;refine .inl ⟨⟨xs,aG.of (c7 _ _ hx),aY _⟩,hd H D c7 hD (Pb gk (by rw[jo (by simp[*])] at jm;exact jm) ?_)⟩;rw[aU];have:=sW P l;lia
theorem HC(hx:H x=some (.tup (r.map V.int)))(hD:H D=none)(hl:r.length<=70000):aZ (upd H D (.lst [.ref x])) D [r]:=by
 have nx:x≠D:=bV hx hD;refine⟨[.ref x],au,?_,by simp,λq hq=>by simp at hq;subst hq;exact hl⟩;simp only[rows?,aI nx,hx,Mini.ints_map]
theorem UN(ok:aK p)(ha:a_ p H a b)(ho:Sets.Ok b)(hr:TabAt H r b.places.length (Sets.tR b))(hm:jb H m (i7 k))(hk:lC k b=true)(h:∀H' D,ah H H'->H D=none->aZ H' D (cR (Sets.dR b k))->Q (.ref D) H'):
 ak (G p 62 4) Dh (fin Q) [some (.ref a),some (.ref r),some (.ref m),none,none,none] H:=by
 have pU:Mini.rd H m=some [V.int (k.kind:Nat),V.int (k.a:Nat),V.int (k.b:Nat)]:=hm.rd;have iC:=ha;obtain⟨dx,l,pe,of,hh,sl,pl,w,se,hl,L⟩:=ha;unfold Dh;tm_at "r";simp only[pU];tm_at "r";obtain⟨kind,A,B⟩:=k;unfold lC at hk
 match kind,hk,h with
 |0,hk,h=>
  simp only[Vj,decide_true,if_true,GO ok hl];have hA:A<b.persons.length:=by simp at hk;exact hk.1
  obtain⟨x,xs,g1,g2,g3⟩:=jw L.lives (n:=A) (r:=dZ (b.persons[A]).life) (by simp[hA]);simp only[g2,g3];refine⟨by show 1<=sizeLine;decide,λD hD=>h _ D (ah.new hD) hD ?_⟩
  have e:cR (Sets.dR b ⟨0,A,B⟩)=[dZ (b.persons[A]).life]:=by
   unfold Sets.dR cR dZ;simp[hA]
  rw[e];exact HC g1 hD (by show 2<=70000;decide)
 |1,hk,h=>
  simp only[show((1:Nat):Int)=1 from rfl,Lw,decide_true,decide_false,aL,if_true,if_false];obtain⟨xs,e1,e2,e3,e4⟩:=dO L.holds;refine o7 ?_;simp only[sI];tm_at "r";simp only[oG ok hl];refine .inl ⟨xs,.of e1,?_⟩;refine afL b.holds (λg=>decide (g.who=A)&&decide (g.office=B)) (λg=>(g.when_.first,g.when_.last)) e1 e2 e3 (λv=>rfl) (λi y v H' hy hv s R hR yx=>?_) λH' D s hn hD=>h H' D s hn hD;obtain⟨y',x,g1,rfl,g2⟩:=e4 i v hv;rw[hy] at g1;cases g1;have g2:=s _ _ g2;simp only[eW,aV,bB] at g2;have aj2:Mini.rd H' m=some [V.int ((1:Nat):Int),V.int (A:Nat),V.int (B:Nat)]:=(hm.same s).rd;simp only[wipe]
  tm_at "r"
  simp only[aO g2];tm_at "r";have ew:decide (((y.who:Nat):Int)=(A:Nat))=decide (y.who=A):=by rw[aT];simp;(constructor<;>lia)
  have eo:decide (((y.office:Nat):Int)=(B:Nat))=decide (y.office=B):=by rw[aT];simp;(constructor<;>lia)
  rw[ew];cases c1:decide (y.who=A) with
  |false=>
   rw[c1] at yx;exact yx rfl
  |true=>
   simp only[if_true,aO g2,aj2];tm_at "r";rw[eo];rw[c1] at hR yx;cases c2:decide (y.office=B) with
   |false=>rw[c2] at yx;exact yx rfl
   |true=>
    rw[c2] at hR;simp only[if_true,aO g2];tm_at "r";exact⟨by show 2<=sizeLine;decide,λt ht=>hR rfl _ t (ah.new ht) au⟩
 |2,hk,h=>
  simp only[show((2:Nat):Int)=2 from rfl,Lw,decide_true,decide_false,aL,if_true,if_false,zL ok hl];have hA:A<b.seals.length:=by simp at hk;exact hk.1
  obtain⟨x,xs,g1,g2,g3⟩:=jw L.seals (n:=A) (r:=dZ b.seals[A]) (by simp[hA]);simp only[g2,g3];refine⟨by show 1<=sizeLine;decide,λD hD=>h _ D (ah.new hD) hD ?_⟩
  have e:cR (Sets.dR b ⟨2,A,B⟩)=[dZ b.seals[A]]:=by
   unfold Sets.dR cR dZ;simp[hA]
  rw[e];exact HC g1 hD (by show 2<=70000;decide)
 |3,hk,h=>
  simp only[show((3:Nat):Int)=3 from rfl,Lw,decide_true,decide_false,aL,if_true,if_false];have hA:A<b.places.length:=by simp at hk;exact hk.1
  exact⟨a,b,r,_,rfl,iC,ho,hr,⟨by simp,by simp[*]⟩,h⟩
 |n+4,hk,h=>simp at hk
theorem VE(ha:a_ p H a b)(ho:Sets.Ok b)(hr:TabAt H r b.places.length (Sets.tR b))(hm:jb H m (i7 k))(hk:lC k b=true)(h:∀H',ah H H'->Q (.bl ((Sets.dR b k).any (Sets.cJ d))) H'):
 ak (G p 63 4) DA (fin Q) [some (.ref a),some (.ref r),some (.ref m),some (.int d),none] H:=by
 unfold DA;tm_at "r";refine o7 ?_;simp only[sI];tm_at "r";refine⟨a,b,r,m,k,rfl,ha,ho,hr,hm,hk,λH1 D s1 z hD=>?_⟩;obtain⟨xs,e1,e2,e3,e4⟩:=dO hD;refine .inl ⟨xs,.of e1,?_⟩;refine pY (K:=p.K) (x:=4) (a:=D) (H1:=H1) (xs:=xs) (λi=>((Sets.dR b k)[i]?).map λx=>V.bl (Sets.cJ d x)) (λR r=>r) e1 (by rw[e2];unfold sizeLine;lia) (λv=>rfl) (λi v H' hv s R hR=>?_) λH' E s e=>?_
 ·obtain⟨y,x,g1,rfl,g2⟩:=e4 i v hv
  have g2:=s _ _ g2;simp only[aV,bB] at g2;simp only[wipe]
  tm_at "r"
  simp only[aO g2];tm_at "r";have:=hR H' (ah.refl H');rw[g1,kH] at this;unfold Sets.cJ at this;cases c:decide (y.1<=d) with
  |false=>rw[c] at this;exact this
  |true=>
   rw[c] at this;simp only[if_true,aO g2];tm_at "r";exact this
 ·rw[e2,Hz (l:=Sets.dR b k) (g:=Sets.cJ d) (λi x hx=>by rw[hx];rfl)] at e
  rw[Au e,qu];exact h H' (s1.trans s)
theorem mV(ok:aK p)(h:H c=some (.ins (p.cl 3) dx (eK a l r))):dX p.K "daybook" (.ref c) H Q=Q (.ref a) H:=f9 ok h (by decide) (by decide) rfl
theorem oJ(ok:aK p)(h:H c=some (.ins (p.cl 3) dx (eK a l r))):dX p.K "ledger" (.ref c) H Q=Q (.ref l) H:=f9 ok h (by decide) (by decide) rfl
theorem G_(ok:aK p)(h:H c=some (.ins (p.cl 3) dx (eK a l r))):dX p.K "rides" (.ref c) H Q=Q (.ref r) H:=f9 ok h (by decide) (by decide) rfl
theorem abe{α:Type}{l:List α}{R:α->Bool}(h:∀i x,l[i]?=some x->f i=if (!R x)=true then some (V.int (i:Nat)) else none):(flat f l.length=[]/\l.findIdx? (λx=> !R x)=none)\/(∃i rest,flat f l.length=V.int (i:Nat)::rest/\l.findIdx? (λx=> !R x)=some i):=by
 have hh:=iH (l:=l) (P:=λz x=> !R x) (f:=f) h;rw[←y_] at hh
 have hm:∀v∈flat f l.length,∃i:Int,v=V.int i:=λv hv=>by
  unfold flat at hv;obtain⟨i,hi,e⟩:=Kc.mp hv;simp at hi;rw[h i l[i] (by simp[hi])] at e;split at e
  ·cases e;exact⟨_,rfl⟩
  ·cases e
 cases e:flat f l.length with
 |nil=>
  rw[e] at hh;cases e2:l.findIdx? (λx=> !R x) with
  |none=>exact .inl ⟨rfl,rfl⟩
  |some i=>rw[e2] at hh;cases hh
 |cons v rest=>
  rw[e] at hh hm;obtain⟨i,rfl⟩:=hm v (by simp);cases e2:l.findIdx? (λx=> !R x) with
  |none=>rw[e2] at hh;cases hh
  |some j=>
   rw[e2] at hh;have:V.int i=V.int (j:Nat):=hh;cases this;exact .inr ⟨j,rest,rfl,rfl⟩
theorem none_of(s:ah H H')(h:H' D=none):H D=none:=by
 cases z:H D with
 |none=>rfl
 |some o=>rw[s _ _ z] at h;cases h
theorem L1(ht:aZ H t rs)(hj:j<101)(jg:∀(H':Hp)(x:Addr)(r:List Int)(Q':VK),ah H H'->H' x=some (.tup (r.map V.int))->(∀H2,ah H' H2->Q' (.bl (R r)) H2)->spT p j [.ref bk,.ref x] H' Q' E0)(h:∀H' D,ah H H'->H D=none->bh H' D (refuse (rs.map R))->Q (.ref D) H'):ak (G p 101 4) vC (fin Q) [some (.ref t),some (.ref (p.fa j)),some (.ref bk),none,none,none] H:=by
 obtain⟨xs,e1,e2,e3,e4⟩:=dO (g:=id) (l:=rs) (by simpa using ht);unfold vC;simp only[ak,sS,sT,sE,bz,dG,sC,G,fF,fE,fC,Mini.jH];rw[dN ht];simp only[PB,lX]
 by_cases c:8<rs.length
 ·have d:decide ((8:Int)<(rs.length:Nat))=true:=by simp;lia
  simp only[d,if_true];refine⟨by show 1<=sizeLine;decide,λD hD=>h _ D (ah.new hD) hD ?_⟩;unfold bh refuse;rw[au,if_pos (by simpa using c)];rfl
 have d:decide ((8:Int)<(rs.length:Nat))=false:=by simp;lia
 simp only[d,aL,if_false];refine jJ (K:=p.K) (a:=t) (H1:=H) (xs:=xs) (λi=>(rs[i]?).bind λr=>if (!R r)=true then some (V.int (i:Nat)) else none) (λR r=>?_) e1 (by rw[e2];unfold sizeLine;lia) (λu v=>rfl) (λi v H' hv s R' hR=>?_) λH' D s e=>?_
 ·simp only[sI];simp only[sE,dG]
  exact .inl ⟨xs,.of e1,r⟩
 ·obtain⟨r,x,g1,rfl,g2⟩:=e4 i v hv
  simp only[wipe];simp only[fF,fE,fC,dG];refine⟨j,rfl,hj,jg H' x r _ s (s _ _ g2) λH2 s2=>?_⟩;have:=hR H2 s2;simp only[g1,qg] at this;cases c2:R r<;>(rw[c2] at this;exact this)
 ·rw[e2] at e
  have hf:=abe (l:=rs) (R:=R) (f:=λi=>(rs[i]?).bind λr=>if (!R r)=true then some (V.int (i:Nat)) else none) (λi x hx=>by rw[hx];rfl);have hm:(rs.map R).findIdx? (λr=> !r)=rs.findIdx? λr=> !R r:=by rw[C7];rfl
  simp only[bE,bM e];rcases hf with⟨f1,f2⟩|⟨i,rest,f1,f2⟩
  ·rw[f1]
   simp only[qh,bH,aL,if_false];refine⟨by show 0<=sizeLine;decide,λE hE=>h _ E (ah.upd s hE) (none_of s hE) ?_⟩;unfold bh refuse;rw[au,if_neg (by simpa using c),hm,f2];rfl
  ·rw[f1] at e ⊢
   simp only[List.isEmpty_cons,jP,if_true,d8];refine⟨by show 2<=sizeLine;decide,λE hE=>h _ E (ah.upd s hE) (none_of s hE) ?_⟩;unfold bh refuse;rw[au,if_neg (by simpa using c),hm,f2];rfl
theorem Sz(ha:bA p H a b)(ht:aZ H t rs)(h:∀H' D,ah H H'->H D=none->bh H' D (refuse (rs.map (fL b)))->Q (.ref D) H'):ak (G p 101 4) vC (fin Q) [some (.ref t),some (.ref (p.fa 80)),some (.ref a),none,none,none] H:=by
 refine L1 ht (by decide) (λH' x r Q' s hx hQ=>?_) h;rw[show spT p 80=Dk p from rfl];exact⟨a,b,x,r,rfl,ha.same s,.inr hx,hQ⟩
theorem SA(ha:a_ p H a b)(ht:aZ H t rs)(h:∀H' D,ah H H'->H D=none->bh H' D (refuse (rs.map (fM b)))->Q (.ref D) H'):ak (G p 101 4) vC (fin Q) [some (.ref t),some (.ref (p.fa 60)),some (.ref a),none,none,none] H:=by
 refine L1 ht (by decide) (λH' x r Q' s hx hQ=>?_) h;rw[show spT p 60=CY p from rfl];exact⟨a,b,x,r,rfl,ha.same s,.inr hx,hQ⟩
theorem Tw(ok:aK p)(hc:bS p H c s)(hr:bh H r row)(hl:row.length<=65536)(h:∀H' D,ah H H'->H D=none->bh H' D (fS s row)->Q (.ref D) H'):ak (G p 102 4) CO (fin Q) [some (.ref c),some (.ref r)] H:=by
 obtain⟨dx,a,l,rd,h1,h2,h3,h4,h5⟩:=hc;unfold CO;tm_at "r";refine⟨by show 4<=sizeLine;decide,λT hT=>?_⟩;have s0:ah H (upd H T (.tup [.int 0,.int 1,.int 2,.int 3])):=ah.new hT;refine⟨r,T,5,row,[0,1,2,3],rfl,s0 _ _ hr,au,by decide,hl,λH1 s1=>?_⟩;have s1:=s0.trans s1;cases cb:cI 5 [0,1,2,3] row with
 |false=>
  refine⟨by show 1<=sizeLine;decide,λD hD=>h _ D (ah.upd s1 hD) (none_of s1 hD) ?_⟩;unfold bh fS;rw[au,cb];rfl
 |true=>
  simp only[bH,aL,if_false];refine⟨r,5,row,rfl,s1 _ _ hr,by decide,hl,λH2 D s2 z hD=>?_⟩;have s2:=s1.trans s2;simp only[mV ok (s2 _ _ h1)];refine .inl ⟨D,_,a,s.days,rfl,h2.same s2,hD,λH3 E s3 nE hE=>h H3 E (s2.trans s3) (none_of s2 nE) ?_⟩;unfold fS;rw[cb];exact hE
theorem S9(ok:aK p)(hc:bS p H c s)(hr:bh H r row)(hl:row.length<=65536)(h:∀H' D,ah H H'->H D=none->bh H' D (fT s row)->Q (.ref D) H'):ak (G p 103 4) CK (fin Q) [some (.ref c),some (.ref r)] H:=by
 obtain⟨dx,a,l,rd,h1,h2,h3,h4,h5⟩:=hc;unfold CK;tm_at "r";refine⟨by show 3<=sizeLine;decide,λT hT=>?_⟩;have s0:ah H (upd H T (.tup [.int 0,.int 1,.int 2])):=ah.new hT;refine⟨r,T,3,row,[0,1,2],rfl,s0 _ _ hr,au,by decide,hl,λH1 s1=>?_⟩;have s1:=s0.trans s1;cases cb:cI 3 [0,1,2] row with
 |false=>
  refine⟨by show 1<=sizeLine;decide,λD hD=>h _ D (ah.upd s1 hD) (none_of s1 hD) ?_⟩;unfold bh fT;rw[au,cb];rfl
 |true=>
  simp only[bH,aL,if_false];refine⟨r,3,row,rfl,s1 _ _ hr,by decide,hl,λH2 D s2 z hD=>?_⟩;have s2:=s1.trans s2;simp only[oJ ok (s2 _ _ h1)];refine .inr ⟨D,_,l,s.books,rfl,h3.same s2,hD,λH3 E s3 nE hE=>h H3 E (s2.trans s3) (none_of s2 nE) ?_⟩;unfold fT;rw[cb];exact hE
theorem NF(h:aZ H q rs)(hq:q≠D)(hD:H D=some (.lst l))(k:∀b o,b≠D->H b=some o->H' b=some o):aZ H' q rs:=by
 obtain⟨xs,h1,h2,h3⟩:=h;refine⟨xs,k _ _ hq h1,oH (H:=H) (λa ys ha=>k _ _ (λe=>?_) ha) h2,h3⟩;rw[e,hD] at ha;cases ha
theorem afM{K:aD}{x:Nat}{a:Addr}{xs:List V}{tt:TT}{te:TE}{vs:List Nat}{σ:L2.St}{H1:Hp}{Q:VK}(rr:Nat->List (List Int))(hx:H1 a=some (.lst xs))(hn:xs.length<=70000)(hw:∀v:V,wipe ((wipe σ vs).set x (some v)) vs=wipe σ vs)
 (hs:∀(i:Nat)(v:V)(H:Hp),xs[i]?=some v->ah H1 H->∀R:V->Hp->Prop,(∀H' q,ah H H'->H q=none->aZ H' q (rr i)->R (.ref q) H')->tt ((wipe σ vs).set x (some v)) H λb H3=>b=true/\te ((wipe σ vs).set x (some v)) H3 R)
 (hm:∀τ H (A B:Bool->Hp->Prop),(∀b H,A b H->B b H)->tt τ H A->tt τ H B)
 (hd:∀H' D (qs:List Addr),ah H1 H'->H' D=some (.lst (qs.map V.ref))->qs.length=xs.length->(∀(i:Nat)(q:Addr),qs[i]?=some q->aZ H' q (rr i))->Q (.ref D) H'):eZ (λw w R=>R (kY K a) H1) (bJ K (.name x)) tt te vs σ H1 Q:=by
 intro D hD;refine⟨λi m H=>m=xs.length-i/\i<=xs.length/\ah H1 H/\∃qs:List Addr,H D=some (.lst (qs.map V.ref))/\qs.length=i/\∀(j:Nat)(q:Addr),qs[j]?=some q->q≠D/\aZ H q (rr j),⟨xs.length,by simp,dH _,ah.new hD,[],au,rfl,λj q h=>by simp at h⟩,?_⟩;rintro i m H ⟨rfl,hi,c7,qs,gk,ku,jm⟩
 by_cases aM:i<xs.length
 ·refine .inr ⟨⟨xs,xs[i],aG.of (c7 _ _ hx),by simp[aM]⟩,λH'=>ah H1 H'/\∃qs:List Addr,H' D=some (.lst (qs.map V.ref))/\qs.length=i+1/\∀(j:Nat)(q:Addr),qs[j]?=some q->q≠D/\aZ H' q (rr j),λH' ⟨a,b⟩=>⟨xs.length-(i+1),by grind,rfl,by trivial,a,b⟩,λz H' hy=>?_⟩
  obtain⟨eH,hv⟩:=hy;rw[eH];have hv:=hv xs (aG.of (c7 _ _ hx));refine⟨hw _,?_⟩;refine hm _ _ _ _ (λb H3 q=>?_) (hs i z _ hv c7 (λy H4=>∃acc,H4 D=some (.lst acc)/\acc.length<sizeLine/\(ah H1 (upd H4 D (.lst (acc++[y])))/\∃qs:List Addr,(upd H4 D (.lst (acc++[y]))) D=some (.lst (qs.map V.ref))/\qs.length=i+1/\∀(j:Nat)(q:Addr),qs[j]?=some q->q≠D/\aZ (upd H4 D (.lst (acc++[y]))) q (rr j))) λH4 q s4 k8 hq=>?_)
  ·obtain⟨rfl,q⟩:=q
   simp only[if_true];exact q
  ·have nV:=s4 _ _ gk
   have qD:q≠D:=λe=>by rw[e,gk] at k8;cases k8
   have kk:∀b o,b≠D->H4 b=some o->(upd H4 D (.lst (qs.map V.ref++[V.ref q]))) b=some o:=λb o nb hb=>by rw[aI nb];exact hb
   refine⟨_,nV,by simp[ku];unfold sizeLine;lia,ah.put (c7.trans s4) hD,qs++[q],by rw[au];simp,by simp[ku],λj q' hj=>?_⟩;rw[S2] at hj;split at hj
   ·obtain⟨g1,g2⟩:=jm j q' hj
    exact⟨g1,NF (g2.same s4) g1 nV kk⟩
   ·have:j=i:=by
     have:=(dF.mp hj).1;simp at this
     grind
    subst this;rw[ku,E2] at hj;simp at hj;subst hj;exact⟨qD,NF hq qD nV kk⟩
 ·have e:i=xs.length:=by lia
  subst e;exact .inl ⟨⟨xs,aG.of (c7 _ _ hx),aY _⟩,hd H D qs c7 gk ku λj q h=>(jm j q h).2⟩
theorem UO{c r:Addr}{row:List Int}{ms:List Ad}(ok:aK p)(hc:bS p H c s)(hr:bh H r row)(hl:row.length<=65536)(hg:bP 3 row=ms.map i7)(hk:∀k∈ms,lC k s.books=true)(h:∀H' D,ah H H'->H' D=some (.lst (ms.map λk=>V.int (i8 s.days (Sets.dR s.books k):Nat)))->Q (.ref D) H'):ak (G p 111 4) Dj (fin Q) [some (.ref c),some (.ref r),none,none,none,none] H:=by
 obtain⟨dx,a,l,rd,h1,h2,h3,h4,h5⟩:=hc;have aE:=Sets.Ok.mk' h5.b;unfold Dj;tm_at "r";refine⟨r,3,row,rfl,hr,by decide,hl,λH1 L s1 z hL=>?_⟩;rw[hg] at hL;obtain⟨xs,e1,e2,e3,e4⟩:=dO hL;refine o7 ?_;simp only[sI];tm_at "r";refine .inl ⟨xs,.of e1,?_⟩;refine afM (λi=>((ms[i]?).map λk=>cR (Sets.dR s.books k)).getD []) e1 (by rw[e2];exact e3) (λv=>rfl) (λi v H2 hv s2 R hR=>?_) (λτ H2 A B sH q=>sH _ _ q) λH2 D qs s2 hD hq hP=>?_
 ·obtain⟨k,x,g1,rfl,g2⟩:=e4 i v hv
  have ss:=s1.trans s2;simp only[wipe]
  tm_at "r"
  simp only[oJ ok (ss _ _ h1),G_ ok (ss _ _ h1)];refine⟨trivial,l,s.books,rd,x,k,rfl,h3.same ss,aE,h4.same ss,.inr (s2 _ _ g2),hk k (eO g1),λH3 q s3 k8 hq=>hR H3 q s3 k8 ?_⟩;rw[g1];exact hq
 ·refine o7 ?_
  refine .inl ⟨_,.of hD,?_⟩;refine pY (K:=p.K) (x:=5) (a:=D) (H1:=H2) (xs:=qs.map V.ref) (λi=>(ms[i]?).map λk=>V.int (i8 s.days (Sets.dR s.books k):Nat)) (λR r=>r) hD (by simp[hq,e2];unfold sizeLine;lia) (λv=>rfl) (λi v H3 hv s3 R hR=>?_) λH3 E s3 e=>?_
  ·rw[eS,mO] at hv
   obtain⟨q,Ro,rfl⟩:=hv
   have hi:i<ms.length:=by
    have:=(dF.mp Ro).1
    simp_all
   have ek:ms[i]?=some ms[i]:=by simp[hi]
   have Rp:=hP i q Ro;rw[ek] at Rp;have ss:=(s1.trans s2).trans s3;simp only[wipe]
   tm_at "r"
   simp only[mV ok (ss _ _ h1)];refine⟨a,s.days,q,Sets.dR s.books ms[i],rfl,h2.same ss,h5.d,Rp.same s3,?_⟩;have:=hR H3 (ah.refl H3);rw[ek,kH] at this;exact this
  ·refine h H3 E ((s1.trans s2).trans s3) ?_
   rw[e,aU,hq,e2,lM (l:=ms) (g:=λk=>some (V.int (i8 s.days (Sets.dR s.books k):Nat))) (λi x hx=>by rw[hx];rfl),filterMap_some]
structure c_(H0 H:Hp)(D:Addr)(rs:List Addr)(n:Nat)(T:Nat->Nat->Int):Prop where
 d:H D=some (.lst (rs.map V.ref))
 l:rs.length=n
 nd:rs.Nodup
 d0:H0 D=none
 dn:D∉rs
 r0:∀a∈rs,H0 a=none
 row:∀(i:Nat)(a:Addr),rs[i]?=some a->H a=some (.lst (cz (T i) n))
 s:ah H0 H
theorem aef(f:Nat->Int)(n j:Nat)(v:Int)(h:j<n):(cz f n).set j (.int v)=cz (λy=>if y=j then v else f y) n:=by
 unfold cz;refine Kv λi=>?_;rw[List.getElem?_set]
 by_cases e:j=i
 ·subst e
  simp[h]
 ·rw[if_neg e]
  by_cases hi:i<n
  ·simp[hi,i9 e]
  ·simp[hi]
theorem c_.set(t:c_ H0 H D rs n T)(hi:rs[i]?=some a)(hj:j<n)(v:Int):c_ H0 (upd H a (.lst ((cz (T i) n).set j (.int v)))) D rs n (λx y=>if x=i/\y=j then v else T x y):=by
 have Rq:a∈rs:=eO hi;have nD:D≠a:=λe=>t.dn (e▸Rq);refine⟨by rw[aI nD];exact t.d,t.l,t.nd,t.d0,t.dn,t.r0,λx b hx=>?_,ah.put t.s (t.r0 a Rq)⟩
 by_cases e:x=i
 ·subst e
  rw[hi] at hx;cases hx;rw[au,aef _ _ _ _ hj];simp
 ·have nb:b≠a:=λe2=>by
   subst e2;have hxl:=(dF.mp hx);have IV:=(dF.mp hi);obtain⟨x1,x2⟩:=hxl;obtain⟨y1,y2⟩:=IV;exact e ((U4 t.nd).mp (x2.trans y2.symm))
  rw[aI nb,t.row x b hx];simp[e]
theorem c_.congr(t:c_ H0 H D rs n T)(h:∀i j,i<n->j<n->T i j=T' i j):c_ H0 H D rs n T':=by
 refine⟨t.d,t.l,t.nd,t.d0,t.dn,t.r0,λi a hi=>?_,t.s⟩
 have hl:i<n:=by
  have:=(dF.mp hi).1;rw[t.l] at this;exact this
 rw[t.row i a hi];congr 2;unfold cz;refine k9 λj hj=>?_;simp at hj;rw[h i j hl hj]
theorem wI(h:j<n):iS n (j:Int)=some j:=by
 unfold iS;have h1:(0:Int)<=(j:Int):=by simp
 have h2:((j:Int)<(n:Int)):=by simp[*]
 simp[h1,h2]
theorem Aa(f:Nat->Int)(n:Nat):(cz f n).length=n:=by unfold cz;simp
theorem c_.get(t:c_ H0 H D rs n T)(hi:i<n):∃a,rs[i]?=some a/\Mini.rd H D=some (rs.map V.ref)/\cF (rs.map V.ref) (i:Int)=some (.ref a)/\H a=some (.lst (cz (T i) n)):=by
 have hl:i<rs.length:=by rw[t.l];exact hi
 exact⟨rs[i],by simp[hl],bM t.d,qO (by simp[hl]),t.row i rs[i] (by simp[hl])⟩
theorem afN(n:Nat):(iY ((n:Nat):Int).toNat [V.int 1000000]).flatten=cz (λz=>1000000) n:=by
 rw[fG];unfold cz
 induction n with
 |zero=>rfl
 |succ n ih=>rw[List.replicate_succ',List.flatten_append,ih,DR,ql];rfl
theorem aiS{K:aD}{x n:Nat}{tt:TT}{te:TE}{vs:List Nat}{σ:L2.St}{H1:Hp}{Q:VK}(hn:n<=16)(hw:∀v:V,wipe ((wipe σ vs).set x (some v)) vs=wipe σ vs)
 (hs:∀(i:Nat)(H:Hp),i<n->ah H1 H->∀R:V->Hp->Prop,(∀H' q,ah H H'->H q=none->H' q=some (.lst (cz (λw=>1000000) n))->R (.ref q) H')->tt ((wipe σ vs).set x (some (.int (0+(i:Nat))))) H λb H3=>b=true/\te ((wipe σ vs).set x (some (.int (0+(i:Nat))))) H3 R)
 (hm:∀τ H (A B:Bool->Hp->Prop),(∀b H,A b H->B b H)->tt τ H A->tt τ H B)
 (hd:∀H' D rs,c_ H1 H' D rs n (λw w=>1000000)->Q (.ref D) H'):eZ (λw w R=>R (L2.iu 0 n) H1) (bJ K (.name x)) tt te vs σ H1 Q:=by
 intro D hD;refine⟨λi m H=>m=n-i/\i<=n/\ah H1 H/\∃rs:List Addr,H D=some (.lst (rs.map V.ref))/\rs.length=i/\rs.Nodup/\D∉rs/\(∀a∈rs,H1 a=none)/\∀a∈rs,H a=some (.lst (cz (λw=>1000000) n)),⟨n,by simp,dH _,ah.new hD,[],au,rfl,List.nodup_nil,by simp,by simp,by simp⟩,?_⟩;rintro i m H ⟨rfl,hi,c7,rs,gk,hl,Rr,xZ,h0,fR⟩
 by_cases aM:i<n
 ·refine .inr ⟨aM,λH'=>ah H1 H'/\∃rs:List Addr,H' D=some (.lst (rs.map V.ref))/\rs.length=i+1/\rs.Nodup/\D∉rs/\(∀a∈rs,H1 a=none)/\∀a∈rs,H' a=some (.lst (cz (λw=>1000000) n)),λH' ⟨a,b⟩=>⟨n-(i+1),by grind,rfl,by trivial,a,b⟩,λz H' hy=>?_⟩
  obtain⟨ez,eH⟩:=hy;rw[ez,eH];refine⟨hw _,?_⟩;refine hm _ _ _ _ (λb H3 q=>?_) (hs i H aM c7 (λy H4=>∃acc,H4 D=some (.lst acc)/\acc.length<sizeLine/\(ah H1 (upd H4 D (.lst (acc++[y])))/\∃rs:List Addr,(upd H4 D (.lst (acc++[y]))) D=some (.lst (rs.map V.ref))/\rs.length=i+1/\rs.Nodup/\D∉rs/\(∀a∈rs,H1 a=none)/\∀a∈rs,(upd H4 D (.lst (acc++[y]))) a=some (.lst (cz (λw=>1000000) n)))) λH4 q s4 k8 hq=>?_)
  ·obtain⟨rfl,q⟩:=q
   simp only[if_true];exact q
  ·have qD:q≠D:=λe=>by rw[e,gk] at k8;cases k8
   have qn:q∉rs:=λhm=>by rw[fR q hm] at k8;cases k8
   have q1:H1 q=none:=by
    cases e:H1 q with
    |none=>rfl
    |some o=>rw[c7 _ _ e] at k8;cases k8
   refine⟨rs.map V.ref,s4 _ _ gk,by simp[hl];unfold sizeLine;lia,ah.put (c7.trans s4) hD,rs++[q],by rw[au];simp,by simp[hl],?_,?_,?_,?_⟩
   ·exact List.nodup_append.mpr ⟨Rr,by simp,λa ha b hb=>by simp at hb;subst hb;exact λe=>qn (e▸ha)⟩
   ·simp;exact⟨xZ,λe=>qD e.symm⟩
   ·intro a ha
    rcases jO.mp ha with z|z
    ·exact h0 a z
    ·simp at z;subst z;exact q1
   ·intro a ha
    rcases jO.mp ha with z|z
    ·have:a≠D:=λe=>xZ (e▸z)
     rw[aI this];exact s4 _ _ (fR a z)
    ·simp at z;subst z
     rw[aI qD];exact hq
 ·have e:i=n:=by lia
  refine .inl ⟨by show n<=i;simp[*],hd H D rs ⟨gk,by simp[*],Rr,hD,xZ,h0,λj a hj=>fR a (eO hj),c7⟩⟩
theorem Pc(w:m_):∀(l:List m_)(T:Nat->Nat->Int),Sets.wt T (l++[w])=λi j=>if i=w.i/\j=w.j then (w.days:Int) else Sets.wt T l i j
 |[],T=>rfl
 |v::l,T=>by rw[qe];simp only[Sets.wt];exact Pc w l _
theorem ZY(hw:aZ H w (b.ways.map gM))(ok:AK b)(h:∀H' D,ah H H'->(∃rs:List Addr,H' D=some (.lst (rs.map V.ref))/\rs.length=b.places.length/\rs.Nodup/\H D=none/\D∉rs/\(∀a∈rs,H a=none)/\∀(i:Nat)(a:Addr),rs[i]?=some a->H' a=some (.lst (cz (cT.start b i) b.places.length)))->Q (.ref D) H'):
 ak (G p 36 3) Ft (fin Q) [some (.int (b.places.length:Nat)),some (.ref w),none,none,none] H:=by
 obtain⟨xs,e1,e2,e3,e4⟩:=dO hw;have hn:=ok.n;unfold Ft;tm_at "r";refine o7 ?_;simp only[sI];tm_at "r";refine⟨⟨by simp,by lia⟩,?_⟩;rw[fG];refine aiS hn (λv=>rfl) (λi H1 hi s R hR=>?_) (λτ H2 A B sH q=>sH _ _ q) λH1 D rs t=>?_
 ·simp only[wipe]
  tm_at "r"
  refine⟨trivial,by show 1<=sizeLine;decide,λq hq=>?_⟩;simp only[c9,au];refine⟨⟨by simp,by lia,by simp;unfold sizeLine;lia⟩,λq2 sJ=>?_⟩
  have n2:H1 q2=none:=by
   by_cases e:q2=q
   ·rw[e,au] at sJ;cases sJ
   ·rw[aI e] at sJ;exact sJ
  exact hR _ q2 (ah.upd (ah.new hq) sJ) n2 (by rw[au,afN])
 ·unfold gf
  refine⟨⟨by lia,by lia⟩,?_⟩;rw[fG];refine⟨λi m σ H'=>m=b.places.length-i/\i<=b.places.length/\c_ H H' D rs b.places.length (λx y=>if x=y/\x<i then 0 else 1000000)/\∃z,σ=[some (.int (b.places.length:Nat)),some (.ref w),z,some (.ref D),none],⟨b.places.length,by simp,dH _,t.congr λi j r r=>by simp,none,rfl⟩,?_⟩;rintro i m σ H2 ⟨rfl,hi,t2,z,rfl⟩
  by_cases aM:i<b.places.length
  ·refine .inr ⟨aM,λaF H'=>c_ H H' D rs b.places.length (λx y=>if x=y/\x<i+1 then 0 else 1000000)/\∃z,aF=[some (.int (b.places.length:Nat)),some (.ref w),z,some (.ref D),none],λaF H' ⟨q1,q2⟩=>⟨b.places.length-(i+1),by grind,rfl,by trivial,q1,q2⟩,λx H' hy=>?_⟩
   obtain⟨rfl,rfl⟩:=hy;obtain⟨a,g1,g2,g3,g4⟩:=t2.get aM;simp only[bJ,fO,zg]
   tm_at "r"
   simp only[g2,g3,rA,g4,Aa,wI aM];refine⟨(t2.set g1 aM 0).congr λx y hx hy=>?_,_,rfl⟩
   by_cases c:x=i/\y=i
   ·rw[if_pos c,if_pos (by simp[*])]
   ·rw[if_neg c]
    by_cases c2:x=y/\x<i
    ·rw[if_pos c2,if_pos (by lia)]
    ·rw[if_neg c2,if_neg (by grind)]
  ·refine .inl ⟨by show b.places.length<=i;simp_all,?_⟩
   have t3:c_ H H2 D rs b.places.length Sets.vg:=t2.congr λx y hx hy=>by
    unfold Sets.vg cT.NO
    by_cases c:x=y
    ·rw[if_pos (by lia),if_pos c]
    ·rw[if_neg (by simp[*]),if_neg c]
   refine .inl ⟨xs,.of (t3.s _ _ e1),?_⟩;refine⟨λi m σ H'=>m=xs.length-i/\i<=xs.length/\c_ H H' D rs b.places.length (Sets.wt Sets.vg (b.ways.take i))/\∃z z2,σ=[some (.int (b.places.length:Nat)),some (.ref w),z,some (.ref D),z2],⟨xs.length,by simp,dH _,t3,_,_,rfl⟩,?_⟩;rintro i m σ H3 ⟨rfl,hi,t4,z,z2,rfl⟩
   by_cases aM:i<xs.length
   ·refine .inr ⟨⟨xs,xs[i],aG.of (t4.s _ _ e1),by simp[aM]⟩,λaF H'=>c_ H H' D rs b.places.length (Sets.wt Sets.vg (b.ways.take (i+1)))/\∃z z2,aF=[some (.int (b.places.length:Nat)),some (.ref w),z,some (.ref D),z2],λaF H' ⟨q1,q2⟩=>⟨xs.length-(i+1),by grind,rfl,by trivial,q1,q2⟩,λx H' hy=>?_⟩
    obtain⟨rfl,hv⟩:=hy;obtain⟨y,u,g1,rfl,g2⟩:=e4 i x (hv xs (aG.of (t4.s _ _ e1)));have hy:=ok.w y (eO g1);have g2:=t4.s _ _ g2;simp only[gM,aV,bB] at g2;obtain⟨a,k1,k2,k3,k4⟩:=t4.get hy.1;simp only[bJ,fO]
    tm_at "r"
    simp only[aO g2];tm_at "r";simp only[k2,k3,aO g2];tm_at "r";simp only[rA,k4,Aa,wI hy.2.1];refine⟨(t4.set k1 hy.2.1 y.days).congr λi' j' r r=>?_,_,_,rfl⟩;have et:b.ways.take (i+1)=b.ways.take i++[y]:=by rw[oq,g1];rfl
    rw[et,Pc]
   ·refine .inl ⟨⟨xs,aG.of (t4.s _ _ e1),by simp_all⟩,?_⟩
    rw[jo (by simp_all)] at t4;have t5:c_ H H3 D rs b.places.length (cT.start b):=t4.congr λx y r r=>Sets.ad0 (λw hw=>(ok.w w hw).2.2.1) ok.u x y;exact h H3 D t5.s ⟨rs,t5.d,t5.l,t5.nd,t5.d0,t5.dn,t5.r0,t5.row⟩
noncomputable def JD:Ss:=(.cons (.rN (.ix (.var 2) (.var 4)) (.var 5) (.blt .min2 (.cons (.ix (.ix (.var 2) (.var 4)) (.var 5)) (.cons (.ay .add (.ix (.ix (.var 2) (.var 4)) (.var 3)) (.ix (.ix (.var 2) (.var 3)) (.var 5))) .nil)))) .nil)
noncomputable def JE:Ss:=(.cons (.cU (.name 5) (.jd (.var 0)) JD) .nil)
noncomputable def JF:Ss:=(.cons (.cU (.name 4) (.jd (.var 0)) JE) .nil)
theorem aj3:EN=(.cons (.set 2 (.call 36 (.cons (.var 0) (.cons (.var 1) .nil)))) (.cons (.cU (.name 3) (.jd (.var 0)) JF) (.cons (.ret (.var 2)) .nil))):=rfl
section
variable{H0 Hm:Hp}{D w:Addr}{rs:List Addr}{n k a:Nat}{T:Nat->Nat->Int}{E:Ends}{z5 z4 z3:Option V}
theorem afO(t:c_ H0 Hm D rs n (Sets.part T k a c))(hT:T k k=0)(hk:k<n)(ha:a<n)(hc:c<n)(h:∀H',c_ H0 H' D rs n (Sets.part T k a (c+1))->E.nx [some (.int (n:Nat)),some (.ref w),some (.ref D),some (.int (k:Nat)),some (.int (a:Nat)),some (.int (c:Nat))] H'):
 ak (G p 37 3) JD E [some (.int (n:Nat)),some (.ref w),some (.ref D),some (.int (k:Nat)),some (.int (a:Nat)),some (.int (c:Nat))] Hm:=by
 obtain⟨x,g1,g2,g3,g4⟩:=t.get ha;obtain⟨y,k1,k2,k3,k4⟩:=t.get hk;unfold JD;tm_at "r";simp only[g2,g3];simp only[bM g4,m8 _ hc,m8 _ hk];simp only[g2,g3,k3];simp only[bM g4,bM k4,m8 _ hc,m8 _ hk]
 tm_at "r"
 simp only[g2,g3,rA,g4,Aa,wI hc];refine h _ ((t.set g1 hc _).congr λi j z z=>?_);rw[Sets.ab9 T k a c i j hT]
theorem aeg(t:c_ H0 Hm D rs n (Sets.part T k a 0))(hT:T k k=0)(hk:k<n)(ha:a<n)(hn:n<=16)
 (h:∀H' z5,c_ H0 H' D rs n (Sets.part T k (a+1) 0)->E.nx [some (.int (n:Nat)),some (.ref w),some (.ref D),some (.int (k:Nat)),some (.int (a:Nat)),z5] H'):
 ak (G p 37 3) JE E [some (.int (n:Nat)),some (.ref w),some (.ref D),some (.int (k:Nat)),some (.int (a:Nat)),z5] Hm:=by
 unfold JE;simp only[ak];rw[sS];unfold gf;simp only[sI,sE,dG,fC];refine⟨⟨by simp,by lia⟩,?_⟩;rw[fG];refine⟨λi m σ H'=>m=n-i/\i<=n/\c_ H0 H' D rs n (Sets.part T k a i)/\∃z,σ=[some (.int (n:Nat)),some (.ref w),some (.ref D),some (.int (k:Nat)),some (.int (a:Nat)),z],⟨n,by simp,dH _,t,_,rfl⟩,?_⟩;rintro i m σ H1 ⟨rfl,hi,t1,z,rfl⟩
 by_cases aM:i<n
 ·refine .inr ⟨aM,λaF H'=>c_ H0 H' D rs n (Sets.part T k a (i+1))/\∃z,aF=[some (.int (n:Nat)),some (.ref w),some (.ref D),some (.int (k:Nat)),some (.int (a:Nat)),z],λaF H' ⟨q1,q2⟩=>⟨n-(i+1),by grind,rfl,by trivial,q1,q2⟩,λx H' hy=>?_⟩
  obtain⟨rfl,rfl⟩:=hy;simp only[bJ,fO,fF,fE,zg];exact afO t1 hT hk ha aM λH2 t2=>⟨t2,_,rfl⟩
 ·refine .inl ⟨by show n<=i;simp_all,h H1 _ (t1.congr λx y hx hy=>?_)⟩
  unfold Sets.part
  by_cases c:x<a\/(x=a/\y<i)
  ·rw[if_pos c,if_pos (by(constructor<;>lia))]
  ·rw[if_neg c,if_neg (by grind)]
theorem aeh(t:c_ H0 Hm D rs n T)(hT:T k k=0)(hk:k<n)(hn:n<=16)
 (h:∀H' z4 z5,c_ H0 H' D rs n (Sets.nx T k)->E.nx [some (.int (n:Nat)),some (.ref w),some (.ref D),some (.int (k:Nat)),z4,z5] H'):
 ak (G p 37 3) JF E [some (.int (n:Nat)),some (.ref w),some (.ref D),some (.int (k:Nat)),z4,z5] Hm:=by
 unfold JF;simp only[ak];rw[sS];unfold gf;simp only[sI,sE,dG,fC];refine⟨⟨by lia,by lia⟩,?_⟩;rw[fG];refine⟨λi m σ H'=>m=n-i/\i<=n/\c_ H0 H' D rs n (Sets.part T k i 0)/\∃z z',σ=[some (.int (n:Nat)),some (.ref w),some (.ref D),some (.int (k:Nat)),z,z'],⟨n,by simp,dH _,t.congr λx y v v=>(Sets.ab_ T k x y).symm,_,_,rfl⟩,?_⟩;rintro i m σ H1 ⟨rfl,hi,t1,z,z',rfl⟩
 by_cases aM:i<n
 ·refine .inr ⟨aM,λaF H'=>c_ H0 H' D rs n (Sets.part T k (i+1) 0)/\∃z z',aF=[some (.int (n:Nat)),some (.ref w),some (.ref D),some (.int (k:Nat)),z,z'],λaF H' ⟨q1,q2⟩=>⟨n-(i+1),by grind,rfl,by lia,q1,q2⟩,λx H' hy=>?_⟩
  obtain⟨rfl,rfl⟩:=hy;simp only[bJ,fO,fF,fE,zg];exact aeg t1 hT hk aM hn λH2 z5 t2=>⟨t2,_,_,rfl⟩
 ·refine .inl ⟨by show n<=i;lia,h H1 _ _ (t1.congr λx y hx hy=>?_)⟩
  unfold Sets.part;rw[if_pos (by(constructor<;>lia))]
end
theorem YF(hw:aZ H w (b.ways.map gM))(ok:AK b)(h:∀H' D,ah H H'->(∃rs:List Addr,H' D=some (.lst (rs.map V.ref))/\rs.length=b.places.length/\rs.Nodup/\H D=none/\D∉rs/\(∀a∈rs,H a=none)/\∀(i:Nat)(a:Addr),rs[i]?=some a->H' a=some (.lst (cz (Sets.tR b i) b.places.length)))->Q (.ref D) H'):
 ak (G p 37 3) EN (fin Q) [some (.int (b.places.length:Nat)),some (.ref w),none,none,none,none] H:=by
 have hn:=ok.n;rw[aj3];simp only[ak];rw[sS];simp only[sE,bz,G,tG,tH,cond_false,↓spT,↓gS,↓gZ,zY,dG,fC];refine⟨b,w,rfl,hw,ok,λH1 D s1 ⟨rs,r1,r2,r3,r4,r5,r6,r7⟩=>?_⟩;have t:c_ H H1 D rs b.places.length (cT.start b):=⟨r1,r2,r3,r4,r5,r6,r7,s1⟩;have g0:cT.Good b 0 (cT.start b):=cT.Good.start (λw hw=>(ok.w w hw).2.2.2) ok.u;simp only[sS];unfold gf;simp only[sI,sE,fF,fE,dG,fC];refine⟨⟨by simp,by lia⟩,?_⟩;rw[fG];refine⟨λi m σ H'=>m=b.places.length-i/\i<=b.places.length/\∃T,cT.Good b i T/\c_ H H' D rs b.places.length T/\∃z3 z4 z5,σ=[some (.int (b.places.length:Nat)),some (.ref w),some (.ref D),z3,z4,z5],⟨b.places.length,by simp,dH _,_,g0,t,_,_,_,rfl⟩,?_⟩;rintro i m σ H2 ⟨rfl,hi,T,g,t2,z3,z4,z5,rfl⟩
 by_cases aM:i<b.places.length
 ·refine .inr ⟨aM,λaF H'=>∃T,cT.Good b (i+1) T/\c_ H H' D rs b.places.length T/\∃z3 z4 z5,aF=[some (.int (b.places.length:Nat)),some (.ref w),some (.ref D),z3,z4,z5],λaF H' q=>⟨b.places.length-(i+1),by grind,rfl,by trivial,q⟩,λx H' hy=>?_⟩
  obtain⟨rfl,rfl⟩:=hy;simp only[bJ,fO,fF,fE,zg];exact aeh t2 (Sets.acd g aM) aM hn λH3 w4 w5 t3=>⟨_,g.next aM,t3,_,_,_,rfl⟩
 ·have ei:i=b.places.length:=by lia
  subst ei;refine .inl ⟨aY _,?_⟩;have t3:c_ H H2 D rs b.places.length (Sets.tR b):=t2.congr λx y hx hy=>Sets.aft (λw hw=>⟨(ok.w w hw).1,(ok.w w hw).2.1,(ok.w w hw).2.2.2⟩) hn g hx hy;exact h H2 D t3.s ⟨rs,t3.d,t3.l,t3.nd,t3.d0,t3.dn,t3.r0,t3.row⟩
theorem aei(h:aQ 11 b=none)(hn:b.places.length<=16):AK b:=by
 have r:eu b.ways (λ(i:Nat)(w:m_)=>decide (b.places.length<=w.i)||(decide (b.places.length<=w.j)||(w.i==w.j||(w.days==0||(decide (1000<w.days)||(b.ways.take i).any λ(v:m_)=>v.i==w.i&&v.j==w.j)))))=none:=h;refine⟨hn,λw hw=>?_,Sets.Oo λi w hi=>?_⟩
 ·obtain⟨i,hi⟩:=vB hw
  have:=Sets.jR r hi;simp at this;simp[*]
 ·have:=Sets.jR r hi
  simp only[CH] at this;exact this.2.2.2.2.2
noncomputable def uM(b:bW)(i:Nat)(y:m6):Bool:=decide (1<=i)&&match b.seens[i-1]? with
 |some x=> !b.reaches x.place y.place (y.day-x.day)
 |none=>false
theorem Oz(b:bW):aQ 14 b=eu b.seens (uM b):=by
 rw[show aQ 14 b=FL b.seens λx y=> !b.reaches x.place y.place (y.day-x.day) from rfl];unfold FL;congr 1;funext i y;unfold uM;cases b.seens[i-1]?<;>rfl
theorem afP{b:bW}{i:Nat}{x y:m6}(h0:b.seens[i]?=some x)(h1:b.seens[i+1]?=some y)(hd:y.day-x.day<=730499):(b.seens[i+1]?).any (uM b (i+1))=decide (y.day-x.day<Sets.tR b x.place y.place):=by
 rw[h1,iE];unfold uM;rw[TY,h0,decide_eq_true (V8 1 i),gu];show(!b.reaches x.place y.place (y.day-x.day))=_;rw[Sets.Fb hd,aT];simp
theorem VF(ok:aK p)(ha:a_ p H a b)(hp:aQ 11 b=none/\aQ 12 b=none/\b.places.length<=16)(h:∀H',ah H H'->Q (bF (aQ 14 b)) H'):ak (G p 59 4) Dy (fin Q) [some (.ref a),none,none,none,none] H:=by
 obtain⟨dx,l,pe,of,hh,sl,pl,w,se,hl,L⟩:=ha;obtain⟨xs,e1,e2,e3,e4⟩:=dO L.seens;have Jh:eu b.seens (λ(_:Nat)(x:m6)=> !bZ x.day||decide (b.places.length<=x.place))=none:=hp.2.1
 have JB:∀s∈b.seens,(0<=s.day/\s.day<=730499)/\s.place<b.places.length:=λs hs=>by
  have:=Sets.E_ Jh hs;simp only[CH,TU,decide_eq_false_iff_not] at this;rw[bO.zF] at this
  simp_all
 unfold Dy;tm_at "r";simp only[lH ok hl,wm ok hl,dN L.places,aU];refine⟨b,w,rfl,L.ways,aei hp.1 hp.2.2,λH1 D s1 ⟨rs,r1,r2,r3,r4,r5,r6,r7⟩=>?_⟩;have t:TabAt H1 D b.places.length (Sets.tR b):=⟨rs,r1,r2,r7⟩;unfold gf;simp only[sI];tm_at "r";simp only[tW ok (s1 _ _ hl),dN (L.seens.same s1),aU];refine⟨⟨by simp,by simp,by simp,by lia⟩,?_⟩;rw[show(((b.seens.length:Nat):Int)-1).toNat=b.seens.length-1 by simp];refine⟨λi m σ H'=>m=b.seens.length-1-i/\i<=b.seens.length-1/\H'=H1/\(∀j,j<i+1->(b.seens[j]?).any (uM b j)=false)/\∃z2 z3 z4,σ=[some (.ref a),some (.ref D),z2,z3,z4],⟨b.seens.length-1,by simp,dH _,rfl,λj hj=>?_,_,_,_,rfl⟩,?_⟩
 ·have:j=0:=by simp_all
  subst this;cases b.seens[0]?<;>rfl
 rintro i m σ H2 ⟨rfl,hi,rfl,xY,z2,z3,z4,rfl⟩
 by_cases aM:i<b.seens.length-1
 ·refine .inr ⟨aM,λaF H'=>H'=H2/\(∀j,j<i+1+1->(b.seens[j]?).any (uM b j)=false)/\∃z2 z3 z4,aF=[some (.ref a),some (.ref D),z2,z3,z4],λaF H' ⟨q1,q2,q3⟩=>⟨b.seens.length-1-(i+1),by omega,rfl,by trivial,q1,q2,q3⟩,λz H' hy=>?_⟩
  obtain⟨rfl,rfl⟩:=hy;obtain⟨x,h0⟩:∃x,b.seens[i]?=some x:=⟨_,gF (by lia)⟩;obtain⟨y,h1⟩:∃y,b.seens[i+1]?=some y:=⟨_,gF (by lia)⟩;obtain⟨x0,Ra,g1,g2,g3⟩:=jw (L.seens.same s1) (n:=i) (r:=jv x) (by rw[eS,h0];rfl);obtain⟨x1,BZ,k1,k2,k3⟩:=jw (L.seens.same s1) (n:=i+1) (r:=jv y) (by rw[eS,h1];rfl);simp only[jv,aV,bB] at g1 k1;have sA:=JB x (eO h0);have Rt:=JB y (eO h1);obtain⟨ta,txs,t1,t2,t3⟩:=wX t sA.2;simp only[bJ,fO]
  tm_at "r"
  simp only[tW ok (s1 _ _ hl)];rw[show(1:Int)+(i:Nat)-1=((i:Nat):Int) by simp+arith,show(1:Int)+(i:Nat)=((i+1:Nat):Int) by simp+arith];have ex:BZ=Ra:=dM (k2.symm.trans g2);subst ex;simp only[g2,g3,k3];simp only[aO g1,aO k1];tm_at "r";simp only[t1,t2,t3,m8 _ Rt.2,aO g1,aO k1];tm_at "r";simp only[t3,m8 _ Rt.2,aO g1,aO k1];tm_at "r";have eq:=afP h0 h1 (by lia);cases c:decide (y.day-x.day<Sets.tR b x.place y.place) with
  |true=>
   simp only[if_true];rw[c] at eq;have:=h _ s1;rw[Oz,yW (i:=i+1) eq xY] at this;exact this
  |false=>
   simp only[aL,if_false];rw[c] at eq;refine⟨trivial,λj hj=>?_,_,_,_,rfl⟩
   by_cases hj2:j<i+1
   ·exact xY j hj2
   ·have:j=i+1:=by lia
    subst this;exact eq
 ·refine .inl ⟨by show b.seens.length-1<=i;simp_all,?_⟩
  have:=h _ s1;rw[Oz,yX (n:=b.seens.length) rfl λj hj=>xY j (by omega)] at this;exact this
theorem fN(h:dB H ro rows)(k:Nat)(hz:z=(k:Int))(hk:k<rows.length):∃(a:Addr)(xs:List V),Mini.rd H ro=some xs/\cF xs z=some (.ref a)/\H a=some (.lst ((rw rows k).map V.int)):=by
 obtain⟨as,h1,h2,h3⟩:=h;have hl:k<as.length:=by simp[*]
 subst hz;refine⟨as[k],_,bM h1,qO (by simp[hl]),h3 k as[k] _ (by simp[hl]) ?_⟩;unfold rw;simp[hk]
theorem dB.same(h:dB H ro rows)(s:ah H H'):dB H' ro rows:=let ⟨as,h1,h2,h3⟩:=h;⟨as,s _ _ h1,h2,λi a r e1 e2=>s _ _ (h3 i a r e1 e2)⟩
theorem rj(hk:k<rows.length):rw rows k∈rows:=by unfold rw;simp[hk]
theorem qS{Γ:Ge}{σ:L2.St}{ro:Addr}{k c:Nat}{z:Int}{cols:List Int}{es:Es}{rest:E}(hΓ:Γ=G p 84 4)(kD:σ=[some (.ref ro)])(hr:dB H ro rows)(ok:i_ rows)(hz:z=(k:Int))(hk:k<11)(hc:1<=c)(ko:cols.length<=10)(hes:∀H' R,R (cols.map V.int) H'->bz Γ es σ H' R)(h0:∀H',ah H H'->cI c cols (rw rows k)=false->Q (.bl false) H')(h1:∀H',ah H H'->cI c cols (rw rows k)=true->sE Γ rest σ H' Q):
 sE Γ (.bQ (.call 71 (.cons (.ix (.var 0) (.cst (.int z))) (.cons (.cst (.int (c:Nat))) (.cons (.tup es) .nil)))) rest) σ H Q:=by
 subst hΓ kD;obtain⟨a,xs,g1,g2,g3⟩:=fN hr k hz (by rw[ok.n];exact hk);rw[sE,sE];simp only[G,tG,tH,cond_false,bz];simp only[sE,dG,Mini.jH,g1,g2];refine hes H _ ?_;refine⟨by simp;unfold sizeLine;lia,λT hT=>?_⟩;rw[show spT p 71=G6 from rfl];refine⟨a,T,c,rw rows k,cols,rfl,?_,au,hc,ok.l _ (rj (by rw[ok.n];exact hk)),λH2 s2=>?_⟩
 ·show(upd H T _) a=_
  rw[aI (bV g3 hT)];exact g3
 have s:=(ah.new hT).trans s2;cases cb:cI c cols (rw rows k) with
 |false=>exact h0 H2 s cb
 |true=>exact h1 H2 s cb
theorem acG{σ:L2.St}{ro:Addr}{rest:E}(kD:σ=[some (.ref ro)])(hr:dB H ro rows)(ok:i_ rows)(h0:decide ((rw rows 0).length=2)=false->Q (.bl false) H)(h1:decide ((rw rows 0).length=2)=true->sE (G p 84 4) rest σ H Q):
 sE (G p 84 4) (.bQ (.cmp (.blt .len (.cons (.ix (.var 0) (.cst (.int (0)))) .nil)) (.one .eq (.cst (.int (2))))) rest) σ H Q:=by
 subst kD;obtain⟨a,xs,g1,g2,g3⟩:=fN hr 0 (z:=0) rfl (by rw[ok.n];decide);rw[sE];simp only[sE,bz,sC,dG,Mini.jH,g1,g2];rw[lU g3,xr];simp only[aU];have e:decide ((((rw rows 0).length:Nat):Int)=2)=decide ((rw rows 0).length=2):=by rw[aT];simp;(constructor<;>lia)
 rw[e];cases c:decide ((rw rows 0).length=2) with
 |false=>exact h0 c
 |true=>exact h1 c
theorem last_step(kD:σ=[some (.ref ro)])(hr:dB H ro rows)(ok:i_ rows)(h:∀H',ah H H'->Q (.bl (decide ((g_ (rw rows 4)).length=(rw rows 3).length/2))) H'):
 sE (G p 84 4) (.cmp (.blt .len (.cons (.call 30 (.cons (.ix (.var 0) (.cst (.int (4)))) .nil)) .nil)) (.one .eq (.ay .fdiv (.blt .len (.cons (.ix (.var 0) (.cst (.int (3)))) .nil)) (.cst (.int (2)))))) σ H Q:=by
 subst kD;obtain⟨a,xs,g1,g2,g3⟩:=fN hr 4 (z:=4) rfl (by rw[ok.n];decide)
 tm_at "r"
 simp only[g1,g2];refine⟨a,rw rows 4,rfl,g3,ok.l _ (rj (by rw[ok.n];decide)),λH1 D s1 y hD=>?_⟩;rw[dN hD];obtain⟨a',B0,k1,k2,k3⟩:=fN (hr.same s1) 3 (z:=3) rfl (by rw[ok.n];decide);simp only[k1,k2];rw[lU k3]
 tm_at "r"
 refine⟨⟨by decide,by decide⟩,?_⟩;have:=h H1 s1
 have e:decide ((((g_ (rw rows 4)).length:Nat):Int)=(((rw rows 3).map V.int).length:Nat)/2)=decide ((g_ (rw rows 4)).length=(rw rows 3).length/2):=by
  rw[aU,aT];simp;lia
 rw[e];exact this
theorem abf(hr:dB H ro rows)(ok:i_ rows)(h:∀H',ah H H'->Q (.bl (fB rows)) H'):ak (G p 84 4) Gb (fin Q) [some (.ref ro)] H:=by
 unfold Gb;rw[ak,sS];have pP:∀H',ah H H'->fB rows=false->Q (.bl false) H':=λH' s e=>by have:=h H' s;rw[e] at this;exact this
 refine acG rfl hr ok (λe=>pP H (ah.refl H) (by unfold fB;rw[e];rfl)) λe0=>?_;refine qS (k:=1) (cols:=[0,1,2]) rfl rfl hr ok rfl (by decide) (by decide) (by decide) (λH' R r=>by simp only[bz,sE];exact r) (λH1 s1 e=>pP H1 s1 (by unfold fB;rw[e0,e];rfl)) λH1 s1 e1=>?_;refine qS (k:=2) (cols:=[]) rfl rfl (hr.same s1) ok rfl (by decide) (by decide) (by decide) (λH' R r=>by simp only[bz];exact r) (λH2 s2 e=>pP H2 (s1.trans s2) (by unfold fB;rw[e0,e1,e];rfl)) λH2 s2 e2=>?_;have s2:=s1.trans s2;refine qS (k:=3) (cols:=[]) rfl rfl (hr.same s2) ok rfl (by decide) (by decide) (by decide) (λH' R r=>by simp only[bz];exact r) (λH3 s3 e=>pP H3 (s2.trans s3) (by unfold fB nF;rw[e0,e1,e2,e];rfl)) λH3 s3 e3=>?_;have s3:=s2.trans s3;refine qS (k:=6) (cols:=[0,1]) rfl rfl (hr.same s3) ok rfl (by decide) (by decide) (by decide) (λH' R r=>by simp only[bz,sE];exact r) (λH4 s4 e=>pP H4 (s3.trans s4) (by unfold fB nF;rw[e0,e1,e2,e3,e];rfl)) λH4 s4 e4=>?_;have s4:=s3.trans s4;refine qS (k:=7) (cols:=[]) rfl rfl (hr.same s4) ok rfl (by decide) (by decide) (by decide) (λH' R r=>by simp only[bz];exact r) (λH5 s5 e=>pP H5 (s4.trans s5) (by unfold fB nF;rw[e0,e1,e2,e3,e4,e];rfl)) λH5 s5 e5=>?_;have s5:=s4.trans s5;refine qS (k:=9) (cols:=[0,1,2]) rfl rfl (hr.same s5) ok rfl (by decide) (by decide) (by decide) (λH' R r=>by simp only[bz,sE];exact r) (λH6 s6 e=>pP H6 (s5.trans s6) (by unfold fB nF;rw[e0,e1,e2,e3,e4,e5,e];rfl)) λH6 s6 e6=>?_;have s6:=s5.trans s6;refine qS (k:=10) (cols:=[1]) rfl rfl (hr.same s6) ok rfl (by decide) (by decide) (by decide) (λH' R r=>by simp only[bz,sE];exact r) (λH7 s7 e=>pP H7 (s6.trans s7) (by unfold fB nF;rw[e0,e1,e2,e3,e4,e5,e6,e];rfl)) λH7 s7 e7=>?_;have s7:=s6.trans s7;refine last_step rfl (hr.same s7) ok λH8 s8=>?_;have:=h H8 (s7.trans s8);unfold fB nF at this;rw[e0,e1,e2,e3,e4,e5,e6,e7] at this;exact this
theorem Ak(hx:H1 x=none)(nW:H1 dx=none)(ne:dx≠x):ah H1 (upd (upd (upd H1 dx (.own x)) x (.ins C dx [])) x (.ins C dx fs))/\(upd (upd (upd H1 dx (.own x)) x (.ins C dx [])) x (.ins C dx fs)) x=some (.ins C dx fs):=by
 refine⟨λb o hb=>?_,au⟩;rw[qM,aI (bV hb hx),aI (bV hb nW)];exact hb
theorem off_ne(h:b≠N):off H N b=H b:=if_neg h
theorem mY(k:ah H H'):ah (off H N) (off H' N):=λb o hb=>by
 by_cases e:b=N
 ·simp[off,e] at hb
 ·rw[off_ne e] at hb ⊢;exact k _ _ hb
theorem OA(h:H b=some (.ins C dx fs))(hN:H N=some (.lst w)):off H N b=some (.ins C dx fs):=by
 rw[off_ne (λe=>by rw[e,hN] at h;cases h)];exact h
theorem jW(s:ah H H1)(hN:H N=some (.lst w))(hD:H1 D=none):D≠N:=λe=>by rw[e,s _ _ hN] at hD;cases hD
theorem lO(h:aZ H q rs)(hN:H N=some (.lst w))(ne:q≠N):aZ (off H N) q rs:=by
 obtain⟨xs,h1,h2,h3⟩:=h;refine⟨xs,by rw[off_ne ne];exact h1,oH (H:=H) (λa ys ha=>?_) h2,h3⟩;rw[off_ne (λe=>by rw[e,hN] at ha;cases ha)];exact ha
theorem YG(hr:dB H ro rows)(ok:i_ rows)(hd:oA (rw rows 0) (rw rows 1) (rw rows 2)=some d)(ha:fB rows=true)(h:∀H' D,ah H H'->bA p H' D d->(∀N w,H N=some (.lst w)->bA p (off H' N) D d)->Q (.ref D) H'):ak (G p 85 4) ET (fin Q) [some (.ref ro),none] H:=by
 have JG:=ok.n;unfold fB at ha;rw[bx] at ha;rcases Ot (rw rows 0) (rw rows 1) (rw rows 2) with⟨_,d',e1,e2,e3,e4⟩|⟨e,_⟩
 ·rw[hd] at e1
  cases e1;obtain⟨a0,xs,g1,g2,g3⟩:=fN hr 0 (z:=0) rfl (by simp[*]);obtain⟨a1,BZ,k1,k2,k3⟩:=fN hr 1 (z:=1) rfl (by simp[*]);rw[g1] at k1;cases k1;rw[e2] at g3;unfold ET;tm_at "r";simp only[g1,g2,k2];simp only[bM g3,aV,bB,d8,iA];refine⟨a1,4,_,rfl,k3,by decide,ok.l _ (rj (by lia)),λH1 D1 s1 JH sQ=>?_⟩;obtain⟨a2,yw,m1,m2,m3⟩:=fN (hr.same s1) 2 (z:=2) rfl (by simp[*]);simp only[m1,m2];refine⟨a2,2,_,rfl,m3,by decide,ok.l _ (rj (by lia)),λH2 D2 s2 yy yz x dx hx nW ne=>?_⟩;refine⟨x,dx,_,_,_,_,rfl,au,trivial,?_⟩;obtain⟨q1,q2⟩:=Ak (C:=p.cl 1) (fs:=l8 d.from_ d.to_ D1 D2) hx nW ne;rw[e3] at sQ;rw[e4] at yz;have r1:=(sQ.same s2).same q1;have r2:=yz.same q1;refine h _ x ((s1.trans s2).trans q1) ⟨dx,D1,D2,q2,r1,r2⟩ λN w hN=>⟨dx,D1,D2,OA q2 ((s1.trans (s2.trans q1)) _ _ hN),lO r1 ((s1.trans (s2.trans q1)) _ _ hN) (jW (ah.refl H) hN JH),lO r2 ((s1.trans (s2.trans q1)) _ _ hN) (jW s1 hN yy)⟩
 ·rw[e] at ha;cases ha.1
theorem wJ{σ:L2.St}{ro:Addr}{k c:Nat}{z:Int}{es:Es}{R:List V->Hp->Prop}(kD:σ=[some (.ref ro)])(hr:dB H ro rows)(ok:i_ rows)(hz:z=(k:Int))(hk:k<11)(hc:1<=c/\c<=16)(h:∀H1 D,ah H H1->H D=none->aZ H1 D (bP c (rw rows k))->bz (G p 86 4) es σ H1 λxs H2=>R (.ref D::xs) H2):
 bz (G p 86 4) (.cons (.call 70 (.cons (.ix (.var 0) (.cst (.int z))) (.cons (.cst (.int (c:Nat))) .nil))) es) σ H R:=by
 subst kD;have JG:=ok.n;obtain⟨a,xs,g1,g2,g3⟩:=fN hr k hz (by simp[*]);rw[bz,sE];simp only[G,tG,tH,cond_false];simp only[bz,sE,dG,Mini.jH,g1,g2];rw[show spT p 70=EY from rfl];exact⟨a,c,_,rfl,g3,hc,ok.l _ (rj (by lia)),h⟩
theorem HD{σ:L2.St}{ro:Addr}{k:Nat}{z:Int}{es:Es}{R:List V->Hp->Prop}(kD:σ=[some (.ref ro)])(hr:dB H ro rows)(ok:i_ rows)(hz:z=(k:Int))(hk:k<11)(h:∀H1 D,ah H H1->H D=none->aZ H1 D (g_ (rw rows k))->bz (G p 86 4) es σ H1 λxs H2=>R (.ref D::xs) H2):
 bz (G p 86 4) (.cons (.call 30 (.cons (.ix (.var 0) (.cst (.int z))) .nil)) es) σ H R:=by
 subst kD;have JG:=ok.n;obtain⟨a,xs,g1,g2,g3⟩:=fN hr k hz (by lia);rw[bz,sE];simp only[G,tG,tH,cond_false];simp only[bz,sE,dG,Mini.jH,g1,g2];rw[show spT p 30=Eh from rfl];exact⟨a,_,rfl,g3,ok.l _ (rj (by lia)),h⟩
theorem ZZ(hr:dB H ro rows)(ok:i_ rows)(hb:wV rows=some k)(ha:fB rows=true)(h:∀H' D,ah H H'->a_ p H' D k->(∀N w,H N=some (.lst w)->a_ p (off H' N) D k)->Q (.ref D) H'):ak (G p 86 4) Fz (fin Q) [some (.ref ro)] H:=by
 have JG:=ok.n;unfold fB at ha;rw[bx] at ha;rcases Nu (lives:=rw rows 3) (persons:=rw rows 4) (offices:=rw rows 5) (holds:=rw rows 6) (seals:=rw rows 7) (places:=rw rows 8) (ways:=rw rows 9) (seens:=rw rows 10) (ok.b 4 (.inl rfl)) (ok.b 5 (.inr (.inl rfl))) (ok.b 8 (.inr (.inr rfl))) with⟨_,k',e0,e1,e2,e3,e4,e5,e6,e7,e8⟩|⟨e,_⟩
 ·unfold wV at hb
  rw[hb] at e0;cases e0;have L (i:Nat) (hi:i<11):(rw rows i).length<=65536:=ok.l _ (rj (by simp[*]));unfold Fz;rw[ak,sS,sE];simp only[G,tG,tH,cond_false];refine wJ (k:=3) rfl hr ok rfl (by decide) (by decide) λH1 D1 s1 JH sQ=>?_;refine HD (k:=4) rfl (hr.same s1) ok rfl (by decide) λH2 D2 s2 yy yz=>?_;have t2:=s1.trans s2;refine HD (k:=5) rfl (hr.same t2) ok rfl (by decide) λH3 D3 s3 nD3 yp=>?_;have t3:=t2.trans s3;refine wJ (k:=6) rfl (hr.same t3) ok rfl (by decide) (by decide) λH4 D4 s4 nD4 nV=>?_;have t4:=t3.trans s4;refine wJ (k:=7) rfl (hr.same t4) ok rfl (by decide) (by decide) λH5 D5 s5 nD5 Ru=>?_;have t5:=t4.trans s5;refine HD (k:=8) rfl (hr.same t5) ok rfl (by decide) λH6 D6 s6 nD6 Rv=>?_;have t6:=t5.trans s6;refine wJ (k:=9) rfl (hr.same t6) ok rfl (by decide) (by decide) λH7 D7 s7 nD7 Rw=>?_;have t7:=t6.trans s7;refine wJ (k:=10) rfl (hr.same t7) ok rfl (by decide) (by decide) λH8 D8 s8 nD8 Rx=>?_;rw[bz];intro x dx hx nW ne;rw[show A8 p 2=yV p from rfl];refine⟨x,dx,_,_,_,_,_,_,_,_,rfl,au,rfl,?_⟩;obtain⟨q1,q2⟩:=Ak (C:=p.cl 2) (fs:=jF D1 D2 D3 D4 D5 D6 D7 D8) hx nW ne;rw[e1] at sQ;rw[e2] at yz;rw[e3] at yp;rw[e4] at nV;rw[e5] at Ru;rw[e6] at Rv;rw[e7] at Rw;rw[e8] at Rx;have u8:=s8.trans q1;have u7:=s7.trans u8;have u6:=s6.trans u7;have u5:=s5.trans u6;have u4:=s4.trans u5;have u3:=s3.trans u4;have u2:=s2.trans u3;have r1:=sQ.same u2;have r2:=yz.same u3;have r3:=yp.same u4;have r4:=nV.same u5;have r5:=Ru.same u6;have r6:=Rv.same u7;have r7:=Rw.same u8;have r8:=Rx.same q1;refine h _ x (s1.trans u2) ⟨dx,D1,D2,D3,D4,D5,D6,D7,D8,q2,⟨r1,r2,r3,r4,r5,r6,r7,r8⟩⟩ λN w hN=>?_;have hf:=(s1.trans u2) _ _ hN;exact⟨dx,D1,D2,D3,D4,D5,D6,D7,D8,OA q2 hf,⟨lO r1 hf (jW (ah.refl H) hN JH),lO r2 hf (jW s1 hN yy),lO r3 hf (jW t2 hN nD3),lO r4 hf (jW t3 hN nD4),lO r5 hf (jW t4 hN nD5),lO r6 hf (jW t5 hN nD6),lO r7 hf (jW t6 hN nD7),lO r8 hf (jW t7 hN nD8)⟩⟩
 ·rw[e] at ha;cases ha.2
theorem lP(h:H D=some (.lst [])):aZ H D []:=⟨[],h,rfl,by simp,by simp⟩
theorem WE(h:∀H' D,ah H H'->a_ p H' D ⟨[],[],[],[],[],[],[]⟩->Q (.ref D) H'):ak (G p 38 3) DX (fin Q) [] H:=by
 unfold DX;tm_at "r";have z0:([]:List V).length<=sizeLine:=by decide
 refine⟨z0,λD1 h1=>⟨z0,λD2 h2=>⟨z0,λD3 h3=>⟨z0,λD4 h4=>⟨z0,λD5 h5=>⟨z0,λD6 h6=>⟨z0,λD7 h7=>⟨z0,λD8 h8 x dx hx nW ne=>?_⟩⟩⟩⟩⟩⟩⟩⟩;refine⟨x,dx,_,_,_,_,_,_,_,_,rfl,au,trivial,?_⟩;obtain⟨q1,q2⟩:=Ak (C:=p.cl 2) (fs:=jF D1 D2 D3 D4 D5 D6 D7 D8) hx nW ne;have u8:=(ah.new h8).trans q1;have u7:=(ah.new h7).trans u8;have u6:=(ah.new h6).trans u7;have u5:=(ah.new h5).trans u6;have u4:=(ah.new h4).trans u5;have u3:=(ah.new h3).trans u4;have u2:=(ah.new h2).trans u3;refine h _ x ((ah.new h1).trans u2) ⟨dx,D1,D2,D3,D4,D5,D6,D7,D8,q2,⟨lP (u2 _ _ au),lP (u3 _ _ au),lP (u4 _ _ au),lP (u5 _ _ au),lP (u6 _ _ au),lP (u7 _ _ au),lP (u8 _ _ au),lP (q1 _ _ au)⟩⟩
theorem lQ(h:aZ H q rs)(hX:H X=some (.ins C dx fs))(k:∀b o,b≠X->H b=some o->H' b=some o):aZ H' q rs:=by
 obtain⟨xs,h1,h2,h3⟩:=h;refine⟨xs,k _ _ (λe=>?_) h1,oH (H:=H) (λa ys ha=>k _ _ (λe=>?_) ha) h2,h3⟩
 ·rw[e,hX] at h1;cases h1
 ·rw[e,hX] at ha;cases ha
theorem qT(h:bA p H a b)(hX:H X=some (.ins C dx fs))(hl:fs.length≠4)(k:∀b o,b≠X->H b=some o->H' b=some o):bA p H' a b:=by
 obtain⟨d,f,r,h1,h2,h3⟩:=h;refine⟨d,f,r,k _ _ (λe=>?_) h1,lQ h2 hX k,lQ h3 hX k⟩;rw[e,hX] at h1;injection h1 with h1;injection h1 with _ _ e3;rw[e3] at hl;exact hl rfl
theorem uh(h:a_ p H a b)(hX:H X=some (.ins C dx fs))(hl:fs.length≠8)(k:∀b o,b≠X->H b=some o->H' b=some o):a_ p H' a b:=by
 obtain⟨d,l,pe,o,hh,sl,pl,w,se,h1,L⟩:=h;refine⟨d,l,pe,o,hh,sl,pl,w,se,k _ _ (λe=>?_) h1,⟨lQ L.lives hX k,lQ L.persons hX k,lQ L.offices hX k,lQ L.holds hX k,lQ L.seals hX k,lQ L.places hX k,lQ L.ways hX k,lQ L.seens hX k⟩⟩;rw[e,hX] at h1;injection h1 with h1;injection h1 with _ _ e3;rw[e3] at hl;exact hl rfl
theorem OB(h:TabAt H r n T)(hX:H X=some (.ins C dx fs))(k:∀b o,b≠X->H b=some o->H' b=some o):TabAt H' r n T:=by
 obtain⟨rs,h1,h2,h3⟩:=h;refine⟨rs,k _ _ (λe=>?_) h1,h2,λi a ha=>k _ _ (λe=>?_) (h3 i a ha)⟩
 ·rw[e,hX] at h1;cases h1
 ·have:=h3 i a ha
  rw[e,hX] at this;cases this
theorem wK(k:∀b o,b≠X->H b=some o->H' b=some o):∀b o,b≠X->off H N b=some o->off H' N b=some o:=λb o nb hb=>by
 by_cases e:b=N
 ·simp[off,e] at hb
 ·rw[off_ne e] at hb ⊢;exact k _ _ nb hb
theorem fK:∀b o',b≠X->H b=some o'->(upd H X o) b=some o':=λb o' nb hb=>by rw[aI nb];exact hb
theorem VG(ok:aK p)(hx:H x=some (.ins (p.cl 3) dx []))(h:∀H',(∀b o,b≠x->H b=some o->H' b=some o)->bS p H' x FJ->Q .az H'):ak (G p 39 3) Dz (fin Q) [some (.ref x)] H:=by
 have z0:([]:List V).length<=sizeLine:=by decide
 unfold Dz;tm_at "r";refine⟨z0,λD1 h1=>⟨z0,λD2 h2 y dy hy hdy ne=>?_⟩⟩;refine⟨y,dy,_,_,_,_,rfl,au,trivial,?_⟩;obtain⟨q1,q2⟩:=Ak (C:=p.cl 1) (fs:=l8 1 1 D1 D2) hy hdy ne;have u2:=(ah.new h2).trans q1;have u1:=(ah.new h1).trans u2;have r1:=u2 _ _ (au (H:=H) (a:=D1) (o:=.lst []));have r2:=q1 _ _ (au (H:=upd H D1 (.lst [])) (a:=D2) (o:=.lst []));generalize upd (upd (upd (upd (upd H D1 (.lst [])) D2 (.lst [])) dy (.own y)) y (.ins (p.cl 1) dy [])) y (.ins (p.cl 1) dy (l8 1 1 D1 D2))=H1 at q1 q2 u1 u2 r1 r2;have Ry:=u1 _ _ hx;have hd:bA p H1 y ⟨1,1,[],[]⟩:=⟨dy,D1,D2,q2,lP r1,lP r2⟩;simp+decide only[pC,Ry,ok.cls,ok.na,true_and,eT,qw,dU,if_false];have Rz:(upd H1 x (.ins (p.cl 3) dx [("daybook",V.ref y)])) x=some (.ins (p.cl 3) dx [("daybook",V.ref y)]):=au;have hd2:bA p (upd H1 x (.ins (p.cl 3) dx [("daybook",V.ref y)])) y ⟨1,1,[],[]⟩:=qT hd Ry (by decide) fK;have k1:∀b o,b≠x->H b=some o->(upd H1 x (.ins (p.cl 3) dx [("daybook",V.ref y)])) b=some o:=λb o nb hb=>fK b o nb (u1 _ _ hb);generalize upd H1 x (.ins (p.cl 3) dx [("daybook",V.ref y)])=H2 at Rz hd2 k1;intro H3 D s3 hD;have JI:=s3 _ _ Rz;simp+decide only[JI,ok.cls,ok.na,true_and,ck,eT,qw,dU,if_false];intro R hR;have RA:x≠R:=λe=>by rw[←e,au] at hR;cases hR
 simp+decide only[aI RA,au,ok.cls,ok.na,true_and,ck,eT,qw,dU,if_false];have RB:(upd H3 x (.ins (p.cl 3) dx [("daybook",V.ref y),("ledger",V.ref D)])) x=some (.ins (p.cl 3) dx [("daybook",V.ref y),("ledger",V.ref D)]):=au;have RC:bA p (upd H3 x (.ins (p.cl 3) dx [("daybook",V.ref y),("ledger",V.ref D)])) y ⟨1,1,[],[]⟩:=qT (hd2.same s3) JI (by simp) fK;have RD:a_ p (upd H3 x (.ins (p.cl 3) dx [("daybook",V.ref y),("ledger",V.ref D)])) D ⟨[],[],[],[],[],[],[]⟩:=uh hD JI (by simp) fK;have k4:∀b o,b≠x->H b=some o->(upd H3 x (.ins (p.cl 3) dx [("daybook",V.ref y),("ledger",V.ref D)])) b=some o:=λb o nb hb=>fK b o nb (s3 _ _ (k1 b o nb hb));generalize upd H3 x (.ins (p.cl 3) dx [("daybook",V.ref y),("ledger",V.ref D)])=H4 at RB RC RD k4 hR;have s5:ah H4 (upd H4 R (.lst [])):=ah.new hR;have RE:=s5 _ _ RB;have hR5:(upd H4 R (.lst [])) R=some (.lst []):=au;refine h _ (λb o nb hb=>fK b o nb (s5 _ _ (k4 b o nb hb))) ⟨dx,y,D,R,au,qT (RC.same s5) RE (by simp) fK,uh (RD.same s5) RE (by simp) fK,⟨[],by rw[aI RA.symm];exact hR5,rfl,λi a ha=>by simp at ha⟩,aaV⟩
theorem ahu(h:rows.length=11):rows=[rw rows 0,rw rows 1,rw rows 2,rw rows 3,rw rows 4,rw rows 5,rw rows 6,rw rows 7,rw rows 8,rw rows 9,rw rows 10]:=by
 match rows,h with
 |[a,b,c,d,e,f,g,i,j,k,l],_=>rfl
theorem aej(s:gI)(ok:i_ rows):(fB rows=false/\bD s ([5]::rows)=(s,[-2]))\/(fB rows=true/\∃d k,oA (rw rows 0) (rw rows 1) (rw rows 2)=some d/\wV rows=some k/\
 ((∃x,d.fault=some x/\bD s ([5]::rows)=(s,[-7,1,((x.1:Nat):Int),((x.2:Nat):Int)]))\/(∃x,d.fault=none/\k.fault=some x/\bD s ([5]::rows)=(s,[-7,2,((x.1:Nat):Int),((x.2:Nat):Int)]))\/(d.fault=none/\k.fault=none/\bD s ([5]::rows)=(⟨d,k⟩,[0])))):=by
 have e:=ahu ok.n;have hs:=pT s (rw rows 0) (rw rows 1) (rw rows 2) (rw rows 3) (rw rows 4) (rw rows 5) (rw rows 6) (rw rows 7) (rw rows 8) (rw rows 9) (rw rows 10);rw[←e] at hs;rw[show bD s ([5]::rows)=gj s ([5]::rows) from rfl,hs];have hd:=Ot (rw rows 0) (rw rows 1) (rw rows 2);have hb:=Nu (lives:=rw rows 3) (persons:=rw rows 4) (offices:=rw rows 5) (holds:=rw rows 6) (seals:=rw rows 7) (places:=rw rows 8) (ways:=rw rows 9) (seens:=rw rows 10) (ok.b 4 (.inl rfl)) (ok.b 5 (.inr (.inl rfl))) (ok.b 8 (.inr (.inr rfl)));unfold fB wV Mj;dsimp only;rcases hd with⟨d1,d,d2,_⟩|⟨d1,d2⟩
 ·rw[d1,d2,gu]
  rcases hb with⟨b1,k,b2,_⟩|⟨b1,b2⟩
  ·rw[b1,b2]
   refine .inr ⟨rfl,d,k,rfl,rfl,?_⟩;dsimp only;cases f1:d.fault with
   |some x=>exact .inl ⟨x,rfl,rfl⟩
   |none=>
    cases f2:k.fault with
    |some x=>exact .inr (.inl ⟨x,rfl,rfl,rfl⟩)
    |none=>exact .inr (.inr ⟨rfl,rfl,rfl⟩)
  ·rw[b1,b2]
   exact .inl ⟨rfl,rfl⟩
 ·rw[d1,d2,mP]
  exact .inl ⟨rfl,rfl⟩
theorem bS.same(h:bS p H c s)(k:ah H H'):bS p H' c s:=let ⟨dx,a,l,r,h1,h2,h3,h4,h5⟩:=h;⟨dx,a,l,r,k _ _ h1,h2.same k,h3.same k,h4.same k,h5⟩
theorem dP.keep(h:dP p c H s r Q)(hc:bS p H c s)(e:r=(s,dj))(hl:dj.length<=3000)(k:ah H H')(hD:H' D=none):Q (.ref D) (upd H' D (.lst (dj.map V.int))):=by
 subst e
 have hn:H D=none:=by
  cases z:H D with
  |none=>rfl
  |some o=>rw[k _ _ z] at hD;cases hD
 have k2:ah H (upd H' D (.lst (dj.map V.int))):=ah.upd k hD;refine h _ D (λb o y hb=>k2 _ _ hb) (hc.same k2) (λN w y q=>q.same (mY k2)) au hl (λz=>?_) hn;obtain⟨_,_,_,_,h1,_⟩:=hc;rw[z,h1] at hn;cases hn
noncomputable def JJ:Ss:=(.cons (.dI (.var 0) "daybook" (.var 2)) (.cons (.dI (.var 0) "ledger" (.var 4)) (.cons (.dI (.var 0) "rides" (.call 37 (.cons (.blt .len (.cons (.fld (.var 4) "places") .nil)) (.cons (.fld (.var 4) "ways") .nil)))) (.cons (.ret (.lst (.cons (.cst (.int (0))) .nil))) .nil))))
noncomputable def JK:Ss:=(.cons (.set 4 (.call 86 (.cons (.var 1) .nil))) (.cons (.set 3 (.call 89 (.cons (.var 4) .nil))) (.cons (.ifs (.cmp (.var 3) (.one .pL (.cst .az))) (.cons (.ret (.lst (.cons (.neg (.cst (.int (7)))) (.cons (.cst (.int (2))) (.cons (.ix (.var 3) (.cst (.int (0)))) (.cons (.ix (.var 3) (.cst (.int (1)))) .nil)))))) .nil) .nil) JJ)))
noncomputable def RG:Ss:=(.cons (.set 2 (.call 85 (.cons (.var 1) .nil))) (.cons (.set 3 (.call 88 (.cons (.var 2) .nil))) (.cons (.ifs (.cmp (.var 3) (.one .pL (.cst .az))) (.cons (.ret (.lst (.cons (.neg (.cst (.int (7)))) (.cons (.cst (.int (1))) (.cons (.ix (.var 3) (.cst (.int (0)))) (.cons (.ix (.var 3) (.cst (.int (1)))) .nil)))))) .nil) .nil) JK)))
theorem aj4:G5=(.cons (.ifs (.bR (.call 84 (.cons (.var 1) .nil))) (.cons (.ret (.lst (.cons (.neg (.cst (.int (2)))) .nil))) .nil) .nil) RG):=rfl
theorem abg(ok:aK p)(hc:bS p H c s)(t:ah H Hm)(hA:bA p Hm A d)(hB:a_ p Hm B k)(f1:d.fault=none)(f2:k.fault=none)(JL:∀N w,H N=some (.lst w)->bA p (off Hm N) A d)(JM:∀N w,H N=some (.lst w)->a_ p (off Hm N) B k)(h:dP p c H s (⟨d,k⟩,[0]) Q):
 ak (G p 90 4) JJ (fin Q) [some (.ref c),some (.ref ro),some (.ref A),z,some (.ref B)] Hm:=by
 obtain⟨dx,a,l,r,h1,h2,h3,h4,h5⟩:=hc;have aE:=Sets.Ok.mk' f2;have yC:=t _ _ h1;unfold JJ;tm_at "r";simp+decide only[pC,yC,ok.cls,ok.na,true_and,ck,eT,qw,dU,eK,if_false,if_true,au,qM];have vo:(upd Hm c (.ins (p.cl 3) dx (eK A B r))) c=some (.ins (p.cl 3) dx (eK A B r)):=au;have JN:bA p (upd Hm c (.ins (p.cl 3) dx (eK A B r))) A d:=qT hA yC (by unfold eK;simp) fK;have B8:a_ p (upd Hm c (.ins (p.cl 3) dx (eK A B r))) B k:=uh hB yC (by unfold eK;simp) fK;have kb:∀b o,b≠c->H b=some o->(upd Hm c (.ins (p.cl 3) dx (eK A B r))) b=some o:=λb o nb hb=>fK b o nb (t _ _ hb);have cN:∀N w,H N=some (.lst w)->c≠N:=λN w hN e=>by rw[e,hN] at h1;cases h1
 have Iq:∀N w,H N=some (.lst w)->bA p (off (upd Hm c (.ins (p.cl 3) dx (eK A B r))) N) A d:=λN w hN=>qT (JL N w hN) (by rw[off_ne (cN N w hN)];exact yC) (by unfold eK;simp) (wK fK);have Ir:∀N w,H N=some (.lst w)->a_ p (off (upd Hm c (.ins (p.cl 3) dx (eK A B r))) N) B k:=λN w hN=>uh (JM N w hN) (by rw[off_ne (cN N w hN)];exact yC) (by unfold eK;simp) (wK fK);unfold eK at vo JN B8 kb Iq Ir;generalize upd Hm c (.ins (p.cl 3) dx [("daybook",V.ref A),("ledger",V.ref B),("rides",V.ref r)])=H2 at vo JN B8 kb Iq Ir;have aj5:=B8;obtain⟨d2,l2,pe,o,hh,sl,pl,w,se,RH,L⟩:=B8;simp only[lH ok RH,wm ok RH,dN L.places,aU];refine⟨k,w,rfl,L.ways,⟨aE.pl,λw hw=>⟨(aE.ways w hw).1,(aE.ways w hw).2.1,(aE.ways w hw).2.2.1,(aE.ways w hw).2.2.2.2⟩,aE.uniq⟩,λH3 D s3 ⟨rs,r1,r2,r3,r4,r5,r6,r7⟩=>?_⟩;have yD:=s3 _ _ vo;simp+decide only[yD,ok.cls,ok.na,true_and,ck,eT,qw,dU,if_false,if_true];intro E hE;have tb:TabAt H3 D k.places.length (Sets.tR k):=⟨rs,r1,r2,r7⟩;have yE:(upd H3 c (.ins (p.cl 3) dx (eK A B D))) c=some (.ins (p.cl 3) dx (eK A B D)):=au;have JO:bS p (upd H3 c (.ins (p.cl 3) dx (eK A B D))) c ⟨d,k⟩:=⟨dx,A,B,D,yE,qT (JN.same s3) yD (by simp) fK,uh (aj5.same s3) yD (by simp) fK,OB tb yD fK,⟨f1,f2⟩⟩;have B9:∀b o,b≠c->H b=some o->(upd H3 c (.ins (p.cl 3) dx (eK A B D))) b=some o:=λb o nb hb=>fK b o nb (s3 _ _ (kb b o nb hb))
 have Iu:∀N w,H N=some (.lst w)->bS p (off (upd H3 c (.ins (p.cl 3) dx (eK A B D))) N) c ⟨d,k⟩:=λN w hN=>by
  have RI:=kb N _ (i9 (cN N w hN)) hN;have x3:off H3 N c=some (.ins (p.cl 3) dx [("daybook",V.ref A),("ledger",V.ref B),("rides",V.ref r)]):=by rw[off_ne (cN N w hN)];exact yD
  have nD:D≠N:=jW (ah.refl H2) RI r4
  have tb0:TabAt (off H3 N) D k.places.length (Sets.tR k):=⟨rs,by rw[off_ne nD];exact r1,r2,λi a ha=>by
   rw[off_ne (jW (ah.refl H2) RI (r6 a (eO ha)))];exact r7 i a ha⟩
  exact⟨dx,A,B,D,by rw[off_ne (cN N w hN)];exact yE,qT ((Iq N w hN).same (mY s3)) x3 (by simp) (wK fK),uh ((Ir N w hN).same (mY s3)) x3 (by simp) (wK fK),OB tb0 x3 (wK fK),⟨f1,f2⟩⟩
 unfold eK at yE JO B9 Iu;generalize upd H3 c (.ins (p.cl 3) dx [("daybook",V.ref A),("ledger",V.ref B),("rides",V.ref D)])=H4 at yE JO B9 hE Iu;have s5:ah H4 (upd H4 E (.lst [V.int 0])):=ah.new hE;have nE:E≠c:=λe=>by rw[e,yE] at hE;cases hE
 refine h _ E (λb o nb hb=>s5 _ _ (B9 b o nb hb)) (JO.same s5) (λN w hN y=>(Iu N w hN).same (mY s5)) au (by show 1<=3000;decide) nE ?_;cases z:H E with
 |none=>rfl
 |some o=>rw[B9 E o nE z] at hE;cases hE
theorem aek(ok:aK p)(hc:bS p H c s)(hr:dB H ro rows)(sF:i_ rows)(h:dP p c H s (bD s ([5]::rows)) Q):ak (G p 90 4) G5 (fin Q) [some (.ref c),some (.ref ro),none,none,none] H:=by
 rw[aj4];tm_at "r";refine⟨ro,rows,rfl,hr,sF,λH1 s1=>?_⟩;rcases aej s sF with⟨a0,e⟩|⟨a0,d,k,e1,e2,hh⟩
 ·rw[a0]
  simp only[jP,if_true];exact⟨by show 1<=sizeLine;decide,λD hD=>h.keep hc e (by show 1<=3000;decide) s1 hD⟩
 rw[a0];simp only[bH,aL,if_false];unfold RG;tm_at "r";refine⟨ro,rows,d,rfl,hr.same s1,sF,e1,a0,λH2 A s2 hA JL=>?_⟩;have t2:=s1.trans s2;refine⟨A,d,rfl,hA,λH3 v s3 hv=>?_⟩;have t3:=t2.trans s3
 have led:d.fault=none->(∃x,k.fault=some x/\bD s ([5]::rows)=(s,[-7,2,((x.1:Nat):Int),((x.2:Nat):Int)]))\/(k.fault=none/\bD s ([5]::rows)=(⟨d,k⟩,[0]))->∀z,ak (G p 90 4) JK (fin Q) [some (.ref c),some (.ref ro),some (.ref A),z,none] H3:=by
  intro f1 hh z;unfold JK;tm_at "r";refine⟨ro,rows,k,rfl,hr.same t3,sF,e2,a0,λH4 B s4 hB JM=>?_⟩;have t4:=t3.trans s4;refine⟨B,k,rfl,hB,λH5 v s5 hv=>?_⟩;have t5:=t4.trans s5;rcases hh with⟨x,f2,e⟩|⟨f2,e⟩
  ·rw[f2] at hv
   obtain⟨t,rfl,ht⟩:=hv;simp only[reduceCtorEq,decide_false,jP,if_true,aO ht]
   tm_at "r"
   exact⟨by show 4<=sizeLine;decide,λD hD=>h.keep hc e (by show 4<=3000;decide) t5 hD⟩
  ·rw[f2] at hv
   have hv:v=.az:=hv;subst hv;simp only[decide_true,bH,aL,if_false];rw[e] at h;exact abg ok hc t5 (((hA.same s3).same s4).same s5) (hB.same s5) f1 f2 (λN w hN=>(JL N w (s1 _ _ hN)).same (mY ((s3.trans s4).trans s5))) (λN w hN=>(JM N w (t3 _ _ hN)).same (mY s5)) h
 rcases hh with⟨x,f1,e⟩|⟨x,f1,f2,e⟩|⟨f1,f2,e⟩
 ·rw[f1] at hv
  obtain⟨t,rfl,ht⟩:=hv;simp only[reduceCtorEq,decide_false,jP,if_true,aO ht]
  tm_at "r"
  exact⟨by show 4<=sizeLine;decide,λD hD=>h.keep hc e (by show 4<=3000;decide) t3 hD⟩
 ·rw[f1] at hv
  have hv:v=.az:=hv;subst hv;simp only[decide_true,bH,aL,if_false];exact led f1 (.inl ⟨x,f2,e⟩) _
 ·rw[f1] at hv
  have hv:v=.az:=hv;subst hv;simp only[decide_true,bH,aL,if_false];exact led f1 (.inr ⟨f2,e⟩) _
end
theorem oV{n:Nat}{lo hi:Int}(h:gU l n lo hi=true):l.length<=n/\∀z∈l,lo<=z/\z<=hi:=by
 unfold gU at h;simp only[bx,decide_eq_true_iff,fc] at h;exact h
theorem um(h:Ask i ns rows)(e:iZ i=some (n,k)):ns.length=n/\rows.length=k:=by
 cases h.s.symm.trans e;exact⟨rfl,rfl⟩
theorem as1(h:Ask 1 ns rows):∃y m d,ns=[y,m,d]/\rows=[]:=by
 obtain⟨a,b⟩:=um h rfl;obtain⟨_,_,rfl,a1⟩:=fY a;obtain⟨_,_,rfl,a2⟩:=fY a1;obtain⟨_,_,rfl,a3⟩:=fY a2;cases jK a3;exact⟨_,_,_,rfl,jK b⟩
theorem JP(hn:n=2\/n=3\/n=4)(h:Ask n ns rows):∃d,ns=[d]/\rows=[]:=by
 obtain⟨a,b⟩:=um h (n:=1) (k:=0) (by rcases hn with rfl|rfl|rfl<;>rfl);obtain⟨_,_,rfl,a1⟩:=fY a;cases jK a1;exact⟨_,rfl,jK b⟩
theorem as5(h:Ask 5 ns rows):ns=[]/\rows.length=11/\(∀r∈rows,r.length<=65536)/\∀i,i=4\/i=5\/i=8->∀z∈rows.getD i [],0<=z/\z<=255:=by
 obtain⟨a,b⟩:=um h rfl;cases jK a;obtain⟨_,_,rfl,b1⟩:=fY b;obtain⟨_,_,rfl,b2⟩:=fY b1;obtain⟨_,_,rfl,b3⟩:=fY b2;obtain⟨_,_,rfl,b4⟩:=fY b3;obtain⟨_,_,rfl,b5⟩:=fY b4;obtain⟨_,_,rfl,b6⟩:=fY b5;obtain⟨_,_,rfl,b7⟩:=fY b6;obtain⟨_,_,rfl,b8⟩:=fY b7;obtain⟨_,_,rfl,b9⟩:=fY b8;obtain⟨_,_,rfl,b10⟩:=fY b9;obtain⟨_,_,rfl,b11⟩:=fY b10;cases jK b11;have h:(gU _ 65536 _ _&&gU _ 65536 _ _&&gU _ 65536 _ _&&gU _ 65536 _ _&&gU _ 65536 0 255&&gU _ 65536 0 255&&gU _ 65536 _ _&&gU _ 65536 _ _&&gU _ 65536 0 255&&gU _ 65536 _ _&&gU _ 65536 _ _)=true:=h.h;simp only[bx] at h;obtain⟨⟨⟨⟨⟨⟨⟨⟨⟨⟨h0,h1⟩,h2⟩,h3⟩,h4⟩,h5⟩,h6⟩,h7⟩,h8⟩,h9⟩,h10⟩:=h;refine⟨rfl,rfl,λr hr=>?_,λi hi=>?_⟩
 ·simp only[cH,yR,or_false] at hr
  rcases hr with rfl|rfl|rfl|rfl|rfl|rfl|rfl|rfl|rfl|rfl|rfl
  all_goals (refine(oV (by assumption)).1)
 ·rcases hi with rfl|rfl|rfl
  ·exact(oV h4).2
  ·exact(oV h5).2
  ·exact(oV h8).2
theorem vq(hn:n=6\/n=7\/n=8\/n=13\/n=14\/n=15)(h:Ask n ns rows):∃x y,ns=[x,y]/\rows=[]:=by
 obtain⟨a,b⟩:=um h (n:=2) (k:=0) (by rcases hn with rfl|rfl|rfl|rfl|rfl|rfl<;>rfl);obtain⟨_,_,rfl,a1⟩:=fY a;obtain⟨_,_,rfl,a2⟩:=fY a1;cases jK a2;exact⟨_,_,rfl,jK b⟩
theorem B_(hn:n=10\/n=11\/n=17\/n=18)(h:Ask n ns rows):∃m,ns=[]/\rows=[m]/\m.length<=65536:=by
 obtain⟨a,b⟩:=um h (n:=0) (k:=1) (by rcases hn with rfl|rfl|rfl|rfl<;>rfl);cases jK a;obtain⟨m,_,rfl,b1⟩:=fY b;cases jK b1;have q:=h.h;refine⟨m,rfl,rfl,?_⟩;rcases hn with rfl|rfl|rfl|rfl<;>exact(oV (show gU m 65536 _ _=true from q)).1
theorem JQ(hn:n=9\/n=12\/n=16)(h:Ask n ns rows):∃d m,ns=[d]/\rows=[m]/\m.length<=65536/\(n=12->∀z∈m,0<=z/\z<=255):=by
 obtain⟨a,b⟩:=um h (n:=1) (k:=1) (by rcases hn with rfl|rfl|rfl<;>rfl);obtain⟨d,_,rfl,a1⟩:=fY a;cases jK a1;obtain⟨m,_,rfl,b1⟩:=fY b;cases jK b1;rcases hn with rfl|rfl|rfl
 ·exact⟨d,m,rfl,rfl,(oV (nY.mp (show(J_ d&&gU m 65536 _ _)=true from h.h)).2).1,λz=>absurd z (by decide)⟩
 ·have q:=oV (nY.mp (show(J_ d&&gU m 65536 0 255)=true from h.h)).2
  exact⟨d,m,rfl,rfl,q.1,λy=>q.2⟩
 ·exact⟨d,m,rfl,rfl,(oV (nY.mp (show(J_ d&&gU m 65536 _ _)=true from h.h)).2).1,λz=>absurd z (by decide)⟩
section
variable{p:Pa}{H:Hp}{Q:VK}{c nu ro:Addr}{s:gI}{ns:List Int}{rows:List (List Int)}
theorem Pd(h1:H a=some (.lst xs))(h2:H b=some (.lst zs)):c9 .add (.ref a) (.ref b) H Q=(xs.length+zs.length<=sizeLine/\∀p,H p=none->Q (.ref p) (upd H p (.lst (xs++zs)))):=by simp only[c9,h1,h2]
theorem sz(h:n<=100000):n<=sizeLine:=by unfold sizeLine;lia
theorem YH(hc:bS p H c s)(hn:bh H nu ns)(ha:Ask 1 ns rows)(h:dP p c H s (bD s ((1::ns)::rows)) Q):ak (G p 92 4) EU (fin Q) [some (.ref c),some (.ref nu),some (.ref ro),none,none,none] H:=by
 obtain⟨y,m,d,rfl,rfl⟩:=as1 ha;unfold EU;tm_at "r";simp only[bM hn,aV,bB,d8,iA,at2];have e:=uZ s y m d;cases cd:(decide (0<=m)&&(decide (0<=d)&&qI y m.toNat d.toNat)) with
 |false=>
  refine⟨sz (by simp),λD hD=>h.keep (dj:=[-3]) hc (e.trans ?_) (by simp[T1,cA,bY,cO,cC]) (ah.refl H) hD⟩;show(s,T1 (if _ then _ else _))=_;rw[if_neg (λz=>by simp[z.1,z.2.1,z.2.2] at cd)];rfl
 |true=>
  simp only[bH,aL,if_false];simp only[bx,decide_eq_true_iff] at cd
  have cm:1<=m.toNat/\m.toNat<=12:=by
   have:=cd.2.2;simp only[qI,bx,decide_eq_true_iff] at this;exact⟨this.2.1,this.2.2.1⟩
  refine⟨⟨by simp_all,by simp_all⟩,sz (by simp),λD hD=>h.keep (dj:=[bU y m.toNat d.toNat]) hc (e.trans ?_) (by simp[T1,cA,bY,cO,cC]) (ah.refl H) hD |> λz=>by simpa[bU,Tp cd.2.1] using z⟩;show(s,T1 (if _ then _ else _))=_;rw[if_pos cd];rfl
theorem XF(ok:aK p)(hc:bS p H c s)(hn:bh H nu ns)(ha:Ask 2 ns rows)(h:dP p c H s (bD s ((2::ns)::rows)) Q):ak (G p 93 4) Ew (fin Q) [some (.ref c),some (.ref nu),some (.ref ro),none,none] H:=by
 obtain⟨d,rfl,rfl⟩:=JP (.inl rfl) ha;unfold Ew;tm_at "r";simp only[bM hn,aV,bB,d8];have e:=uQ s d;cases cd:bZ d with
 |false=>
  refine⟨sz (by simp),λD hD=>h.keep (dj:=[-3]) hc (e.trans ?_) (by simp[T1,cA,bY,cO,cC]) (ah.refl H) hD⟩;show(s,T1 (if _ then _ else _))=_;rw[cd];rfl
 |true=>
  simp only[bH,aL,if_false];intro H1 a s1 ⟨dx,hd⟩;simp only[lN ok hd,kM ok hd,lT ok hd];refine⟨sz (by simp),λD hD=>h.keep (dj:=[0,dw d,((cg d).1:Int),((cg d).2:Int),(ju d:Int)]) hc (e.trans ?_) (by simp[T1,cA,bY,cO,cC]) s1 hD⟩;show(s,T1 (if _ then _ else _))=_;rw[cd];rfl
theorem VH(hc:bS p H c s)(hn:bh H nu ns)(ha:Ask 3 ns rows)(h:dP p c H s (bD s ((3::ns)::rows)) Q):ak (G p 94 4) DC (fin Q) [some (.ref c),some (.ref nu),some (.ref ro),none] H:=by
 obtain⟨d,rfl,rfl⟩:=JP (.inr (.inl rfl)) ha;unfold DC;tm_at "r";simp only[bM hn,aV,bB,d8];have e:=uR s d;cases cd:dS 1 eE d with
 |false=>
  refine⟨sz (by simp),λD hD=>h.keep (dj:=[-3]) hc (e.trans ?_) (by simp[T1,cA,bY,cO,cC]) (ah.refl H) hD⟩;show(s,T1 (if _ then _ else _))=_;rw[cd];rfl
 |true=>
  simp only[bH,aL,if_false];refine⟨sz (by simp),λD hD=>h.keep (dj:=[M1 d]) hc (e.trans ?_) (by simp[T1,cA,bY,cO,cC]) (ah.refl H) hD⟩;show(s,T1 (if _ then _ else _))=_;rw[cd];rfl
theorem WG(hc:bS p H c s)(hn:bh H nu ns)(ha:Ask 4 ns rows)(h:dP p c H s (bD s ((4::ns)::rows)) Q):ak (G p 95 4) Ea (fin Q) [some (.ref c),some (.ref nu),some (.ref ro),none] H:=by
 obtain⟨d,rfl,rfl⟩:=JP (.inr (.inr rfl)) ha;unfold Ea;tm_at "r";simp only[bM hn,aV,bB,d8];have e:=By s d;cases cd:bZ d with
 |false=>
  refine⟨sz (by simp),λD hD=>h.keep (dj:=[-3]) hc (e.trans ?_) (by simp[T1,cA,bY,cO,cC]) (ah.refl H) hD⟩;show(s,T1 (if _ then _ else _))=_;rw[cd];rfl
 |true=>
  simp only[bH,aL,if_false];refine⟨sz (by simp),λD1 sQ H1 a s1 hd=>⟨a,d,rfl,hd,λH2 t s2 ht=>?_⟩⟩;have t1:=(ah.new sQ).trans (s1.trans s2);have d2:=(s1.trans s2) _ _ (au (H:=H) (a:=D1) (o:=.lst [V.int 0]));simp only[cu,aO ht];intro L hL;have nL:D1≠L:=λz=>by rw[z] at d2;rw[d2] at hL;cases hL
  rw[Pd (by rw[aI nL];exact d2) au];refine⟨sz (by simp),λD hD=>h.keep (dj:=[0,((g6 d).1:Int),((g6 d).2.1:Int),((g6 d).2.2:Int)]) hc (e.trans ?_) (by simp[T1,cA,bY,cO,cC]) (ah.upd t1 hL) hD⟩;show(s,T1 (if _ then _ else _))=_;rw[cd];rfl
theorem YI(hc:bS p H c s)(hr:dB H ro rows)(ha:Ask 5 ns rows)(h:dP p c H s (bD s ((5::ns)::rows)) Q):ak (G p 96 4) EV (fin Q) [some (.ref c),some (.ref nu),some (.ref ro)] H:=by
 obtain⟨rfl,a1,a2,a3⟩:=as5 ha;unfold EV;tm_at "r";exact⟨c,s,ro,rows,rfl,hc,hr,⟨a1,a2,a3⟩,h⟩
theorem WH(ok:aK p)(hc:bS p H c s)(hn:bh H nu ns)(ha:Ask 6 ns rows)(h:dP p c H s (bD s ((6::ns)::rows)) Q):ak (G p 97 4) Eb (fin Q) [some (.ref c),some (.ref nu),some (.ref ro),none,none,none,none] H:=by
 obtain⟨f,y,rfl,rfl⟩:=vq (by decide) ha;have cV:=hc;obtain⟨dx,a,l,r,h1,⟨dx2,fe,re,a1,a2,a3⟩,h3,h4,h5⟩:=cV;obtain⟨xs,x1,x2,x3,_⟩:=qK a2;have e:=st6 s f y;have gP:(fZ f s.days.feasts.length&&dS 1 eE y)=false->bD s [[6,f,y]]=(s,[-3]):=λz=>e.trans (by show(s,T1 (if _ then _ else _))=_;rw[z];rfl);unfold Eb;tm_at "r";simp only[bM hn,aV,bB,d8,iA,mV ok h1,tS ok a1];cases cy:dS 1 eE y with
 |false=>exact⟨sz (by simp),λD hD=>h.keep hc (gP (by rw[cy,oj])) (by simp[T1,cA,bY,cO,cC]) (ah.refl H) hD⟩
 |true=>
  simp only[bH,aL,if_false];refine⟨f,fe,xs,rfl,bM x1,?_⟩;rw[x2,aU];cases cb:(decide (0<=f)&&decide (f<(s.days.feasts.length:Nat))) with
  |false=>exact⟨sz (by simp),λD hD=>h.keep hc (gP (by unfold fZ;rw[cb,mP])) (by simp[T1,cA,bY,cO,cC]) (ah.refl H) hD⟩
  |true=>
   have e2:bD s [[6,f,y]]=(s,T1 (match (lK s.days f.toNat).dayIn y with|some d=>bY d|none=>bY (-4))):=e.trans (by show(s,T1 (if _ then _ else _))=_;unfold fZ;rw[cb,cy];rfl);simp only[bx,decide_eq_true_iff] at cb;obtain⟨n,rfl⟩:=p9 cb.1;obtain⟨f1,f2⟩:=G7 h5.d (n:=n) (by simp_all);obtain⟨x,ys,g1,g2,g3⟩:=jw a2 f1;simp only[bH,aL,if_false,g2,g3];refine⟨x,_,y,rfl,g1,f2,?_⟩;rw[fG] at e2;have e3:(lK s.days n).dayIn y=if bZ (bO.fd (lK s.days n) y)=true then some (bO.fd (lK s.days n) y) else none:=rfl
   cases cd:bZ (bO.fd (lK s.days n) y) with
   |false=>
    rw[e3,cd] at e2;exact⟨sz (by simp),λD hD=>h.keep hc e2 (by simp[T1,cA,bY,cO,cC]) (ah.refl H) hD⟩
   |true=>
    rw[e3,cd] at e2;simp only[bH,aL,if_false];exact⟨sz (by simp),λD hD=>h.keep hc e2 (by simp[T1,cA,bY]) (ah.refl H) hD⟩
theorem XG(ok:aK p)(hc:bS p H c s)(hn:bh H nu ns)(ha:Ask 7 ns rows)(h:dP p c H s (bD s ((7::ns)::rows)) Q):ak (G p 98 4) Ex (fin Q) [some (.ref c),some (.ref nu),some (.ref ro),none,none,none] H:=by
 obtain⟨f,d,rfl,rfl⟩:=vq (by decide) ha;have cV:=hc;obtain⟨dx,a,l,r,h1,⟨dx2,fe,re,a1,a2,a3⟩,h3,h4,h5⟩:=cV;obtain⟨xs,x1,x2,x3,_⟩:=qK a3;have e:=x_ s f d;have gP:(fZ f s.days.reigns.length&&bZ d)=false->bD s [[7,f,d]]=(s,[-3]):=λz=>e.trans (by show(s,T1 (if _ then _ else _))=_;rw[z];rfl);unfold Ex;tm_at "r";simp only[bM hn,aV,bB,d8,iA,mV ok h1,tT ok a1];refine⟨f,re,xs,rfl,bM x1,?_⟩;rw[x2,aU];cases cb:(decide (0<=f)&&decide (f<(s.days.reigns.length:Nat))) with
 |false=>exact⟨sz (by simp),λD hD=>h.keep hc (gP (by unfold fZ;rw[cb,mP])) (by simp[T1,cA,bY,cO,cC]) (ah.refl H) hD⟩
 |true=>
  simp only[bH,aL,if_false];cases cy:bZ d with
  |false=>exact⟨sz (by simp),λD hD=>h.keep hc (gP (by rw[cy,oj])) (by simp[T1,cA,bY,cO,cC]) (ah.refl H) hD⟩
  |true=>
   have e2:bD s [[7,f,d]]=(s,[tX (tV s.days f.toNat) d]):=e.trans (by show(s,T1 (if _ then _ else _))=_;unfold fZ;rw[cb,cy];rfl);simp only[bx,decide_eq_true_iff] at cb;obtain⟨n,rfl⟩:=p9 cb.1;obtain⟨f1,f2⟩:=NB h5.d (n:=n) (by simp_all);obtain⟨x,ys,g1,g2,g3⟩:=jw a3 f1;simp only[bH,aL,if_false,g2,g3];intro H1 z s1 hd;refine⟨x,_,z,d,rfl,s1 _ _ g1,hd,λH2 s2=>?_⟩;rw[fG] at e2;exact⟨sz (by simp),λD hD=>h.keep hc e2 (by simp) (s1.trans s2) hD⟩
theorem WI(hc:bS p H c s)(hn:bh H nu ns)(ha:Ask 8 ns rows)(h:dP p c H s (bD s ((8::ns)::rows)) Q):ak (G p 99 4) Ec (fin Q) [some (.ref c),some (.ref nu),some (.ref ro),none,none] H:=by
 obtain⟨d,k,rfl,rfl⟩:=vq (by decide) ha;have e:=st8 s d k;have gP:(bZ d&&fZ k 6)=false->bD s [[8,d,k]]=(s,[-3]):=λz=>e.trans (by show(s,T1 (if _ then _ else _))=_;rw[z];rfl);unfold Ec;tm_at "r";simp only[bM hn,aV,bB,d8,iA]
 have eb:fZ k 6=(decide (0<=k)&&decide (k<=5)):=by
  unfold fZ;congr 1;exact decide_eq_decide.2 (by simp+arith)
 cases cd:bZ d with
 |false=>exact⟨sz (by simp),λD hD=>h.keep hc (gP (by rw[cd,mP])) (by simp[T1,cA,bY,cO,cC]) (ah.refl H) hD⟩
 |true=>
  cases cb:(decide (0<=k)&&decide (k<=5)) with
  |false=>exact⟨sz (by simp),λD hD=>h.keep hc (gP (by rw[eb,cb,oj])) (by simp[T1,cA,bY,cO,cC]) (ah.refl H) hD⟩
  |true=>
   have e2:bD s [[8,d,k]]=(s,[tL k.toNat d]):=e.trans (by show(s,T1 (if _ then _ else _))=_;rw[eb,cb,cd];rfl);simp only[bx,decide_eq_true_iff] at cb;simp only[bH,ou,aL,if_false];intro H1 z s1 hd;exact⟨z,d,k,rfl,hd,cb,sz (by simp),λD hD=>h.keep hc e2 (by simp[T1,cA,bY,cO,cC]) s1 hD⟩
end
theorem ael(h:fL b l=true):∃k,ow l=some [k]/\k.right b=true/\l=iL k:=by
 have hl:l.length=5:=by
  unfold fL at h;simp only[bx,decide_eq_true_iff] at h;exact h.1
 rw[LU] at h
 match l,hl with
 |[k,a,c,d,x],_=>
  rw[G2 (l:=[k,a,c,d,x]) (ps:=[(k,a,c,d,x)]) rfl] at h ⊢;cases e:jL (k,a,c,d,x) with
  |true=>
   simp only[kJ,E3,tF,aV,bB,e,if_true] at h ⊢;exact⟨_,rfl,h,(Hu e).symm⟩
  |false=>simp[e] at h
theorem acH(h:fM b l=true):∃k,om l=some [k]/\k.right b=true/\l=i7 k:=by
 have hl:l.length=3:=by
  unfold fM at h;simp only[bx,decide_eq_true_iff] at h;exact h.1
 rw[LV] at h
 match l,hl with
 |[k,a,c],_=>
  rw[zJ (l:=[k,a,c]) (ps:=[(k,a,c)]) rfl] at h ⊢;cases e:iV (k,a,c) with
  |true=>
   simp only[kJ,E3,tF,aV,bB,e,if_true] at h ⊢;exact⟨_,rfl,h,(Hv e).symm⟩
  |false=>simp[e] at h
theorem L3(l:List Bool):(refuse l).length<=2:=by
 rcases EI l with⟨_,e⟩|⟨_,i,_,e⟩|⟨_,_,e⟩<;>rw[e]<;>simp
theorem L4(s:gI)(l:List Int)(f:List oW->Zb):(fS s l≠[]/\T1 (vI s l f)=fS s l/\(fS s l).length<=2)\/(fS s l=[]/\∃ms,bP 5 l=ms.map iL/\ms.length<=8/\(∀k∈ms,mS k s.days=true)/\vI s l f=f ms):=by
 rcases aaW s l f with⟨h,e⟩|⟨h,ms,hg,⟨h1,h2⟩|⟨h1,h2,h3,h4⟩⟩
 ·have:fS s l=[-2]:=by unfold fS;rw[h];rfl
  exact .inl ⟨by rw[this];simp,by rw[this,e],by rw[this];simp⟩
 ·have:fS s l=refuse (ms.map λk=>k.right s.days):=by unfold fS;rw[h,hg,ff,if_pos rfl];congr 1;exact k9 λk z=>F4 s.days k
  exact .inl ⟨by rw[this];exact h1,by rw[this,h2],by rw[this];exact L3 _⟩
 ·have:fS s l=refuse (ms.map λk=>k.right s.days):=by unfold fS;rw[h,hg,ff,if_pos rfl];congr 1;exact k9 λk z=>F4 s.days k
  exact .inr ⟨by rw[this,h1],ms,hg,h2,h3,h4⟩
theorem L5(s:gI)(l:List Int)(f:List Ad->Zb):(fT s l≠[]/\T1 (vF s l f)=fT s l/\(fT s l).length<=2)\/(fT s l=[]/\∃ms,bP 3 l=ms.map i7/\ms.length<=8/\(∀k∈ms,lC k s.books=true)/\vF s l f=f ms):=by
 rcases Zp s l f with⟨h,e⟩|⟨h,ms,hg,⟨h1,h2⟩|⟨h1,h2,h3,h4⟩⟩
 ·have:fT s l=[-2]:=by unfold fT;rw[h];rfl
  exact .inl ⟨by rw[this];simp,by rw[this,e],by rw[this];simp⟩
 ·have:fT s l=refuse (ms.map λk=>k.right s.books):=by unfold fT;rw[h,hg,ff,if_pos rfl];congr 1;exact k9 λk z=>F5 s.books k
  exact .inl ⟨by rw[this];exact h1,by rw[this,h2],by rw[this];exact L3 _⟩
 ·have:fT s l=refuse (ms.map λk=>k.right s.books):=by unfold fT;rw[h,hg,ff,if_pos rfl];congr 1;exact k9 λk z=>F5 s.books k
  exact .inr ⟨by rw[this,h1],ms,hg,h2,h3,h4⟩
theorem acI(hi:i<N)(hq:∀k,k<n->q k i=true):gb n N q=[]:=by
 unfold gb
 have:Sets.gQ n (λc=>decide (Sets.bits N (λi=>c.all λk=>q k i)=0))=none:=by
  unfold Sets.gQ;rw[yG];intro k _;rw[qb];intro c hc;have hx:=(Sets.oN n k 0 c hc).2;simp only[decide_eq_true_iff,Sets.v9];intro z;have z:=z i hi
  have:(c.all λk=>q k i)=true:=by
   rw[fc];intro x hm;exact hq x (by have:=hx x hm;simp_all)
  rw[this] at z;cases z
 rw[this]
theorem Z0(h:∀k i,i<N->q k i=r k i):gb n N q=gb n N r:=by
 unfold gb
 have:(λc:List Nat=>decide (Sets.bits N (λi=>c.all λk=>q k i)=0))=λc=>decide (Sets.bits N (λi=>c.all λk=>r k i)=0):=by
  funext c;rw[Sets.zu λi hi=>?_];congr 1;funext k;exact h k i hi
 rw[this]
theorem MQ(n N:Nat)(q:Nat->Nat->Bool):(gb n N q).length<=n:=by
 unfold gb;cases e:Sets.gQ n _ with
 |none=>simp
 |some l=>
  unfold Sets.gQ at e;obtain⟨k,hk,e2⟩:=List.exists_of_findSome?_eq_some e;have:=(Sets.oN n k 0 l (sR e2)).1;simp only[yY] at hk;simp[Dates.ints];lia
theorem acJ(h:∀z∈m,0<=z/\z<=255):(aX n==m)=(n==cG m):=by
 have e:∀m:List Int,(∀z∈m,0<=z/\z<=255)->aX (cG m)=m:=by
  intro m h;unfold aX cG;rw[ff]
  conv=>rhs;rw[←aas m]
  refine k9 λz hz=>?_;have:=h z hz;simp only[tE,id];rw[TX];lia
 rw[aT,beq_iff_eq,beq_iff_eq];refine⟨λz=>?_,λz=>by rw[z,e m h]⟩;have:=e m h;rw[←z] at this
 have inj:∀a b:j3,aX a=aX b->a=b:=by
  intro a b RJ;unfold aX at RJ;refine TZ (f:=λc:UInt8=>((c.toNat:Nat):Int)) (λx y hxy=>?_) |>.1 RJ;exact KR.1 (by lia)
 rw[←z];exact(inj _ _ this).symm
theorem acK(o:Sets.Ok b):∀(p:List m_),(∀w∈p,w∈b.ways)->cT.sum p<=1000*p.length:=by
 intro p
 induction p with
 |nil=>intro _;simp[cT.sum]
 |cons w p ih=>
  intro h;have:=ih λv hv=>h v (by simp[hv]);have:=(o.ways w (h w (by simp))).2.2.2.2;simp only[cT.sum,ck];lia
theorem abh(o:Sets.Ok b)(hj:j<b.places.length)(e:b.ride i j=some s):s<=16000:=by
 have hL:=cT.zH (λw h=>(o.ways w h).1) (i:=i) b.places.length j hj;rw[show(b.far i b.places.length).getD j none=some s from e] at hL;obtain⟨⟨p,h1,h2,h3,h4,h5⟩,_⟩:=hL;have:=acK o p h1;have:=o.pl;lia
section
variable{p:Pa}{H:Hp}{Q:VK}{c nu ro:Addr}{s:gI}{ns:List Int}{rows:List (List Int)}
theorem dP.given(h:dP p c H s r Q)(hc:bS p H c s)(e:r=(s,dj))(hl:dj.length<=3000)(k:ah H H')(n:H D=none)(hD:bh H' D dj):Q (.ref D) H':=by
 subst e;refine h _ D (λb o y hb=>k _ _ hb) (hc.same k) (λN w y q=>q.same (mY k)) hD hl (λz=>?_) n;obtain⟨_,_,_,_,h1,_⟩:=hc;rw[z,h1] at n;cases n
set_option tactic.hygienic true in
theorem YJ(ok:aK p)(hc:bS p H c s)(hn:bh H nu ns)(hr:dB H ro rows)(ha:Ask 9 ns rows)(h:dP p c H s (bD s ((9::ns)::rows)) Q):ak (G p 100 4) EW (fin Q) [some (.ref c),some (.ref nu),some (.ref ro),none,none] H:=by
 obtain⟨d,m,rfl,rfl,hl,_⟩:=JQ (by decide) ha;have cV:=hc;obtain⟨dx,a,l,r,h1,h2,h3,h4,h5⟩:=cV;obtain⟨m',xs,g1,g2,g3⟩:=fN hr 0 (z:=0) rfl (by simp);have g3:H m'=some (.lst (m.map V.int)):=g3;have e:=st9 s d m;unfold EW;tm_at "r";simp only[bM hn,aV,bB,d8,g1,g2,mV ok h1];refine⟨a,s.days,m',m,rfl,h2,.inl g3,λH1 s1=>?_⟩;cases cr:fL s.days m with
 |false=>
  refine⟨sz (by simp),λD hD=>h.keep (dj:=[-4]) hc (e.trans ?_) (by simp[T1,cA,bY,cO,cC]) s1 hD⟩;rw[LU] at cr;show(s,T1 (match ow m with|some [k]=>_|_=>_))=_;split at cr
  ·rename_i k ek
   try rw[ek]
   show(s,T1 (if k.right s.days=false then _ else _))=_;rw[cr];rfl
  ·rename_i nk
   first
   |rfl
   |split
    ·rename_i k ek
     exact absurd ek (nk k)
    ·rfl
 |true=>
  obtain⟨k,ek,kr,rfl⟩:=ael cr;simp only[bH,aL,if_false];cases cd:bZ d with
  |false=>
   refine⟨sz (by simp),λD hD=>h.keep (dj:=[-3]) hc (e.trans ?_) (by simp[T1,cA,bY,cO,cC]) s1 hD⟩;delta zo;simp only[ek];show(s,T1 (if k.right s.days=false then _ else if bZ d=false then _ else _))=_;rw[kr,cd];rfl
  |true=>
   simp only[bH,aL,if_false,mV ok (s1 _ _ h1)];intro H2 x s2 hx;refine⟨a,s.days,x,d,m',k,rfl,(h2.same s1).same s2,h5.d,hx,cd,bM ((s1.trans s2) _ _ g3),kr,λH3 s3=>⟨sz (by simp),λD hD=>h.keep (dj:=[if cD s.days d k=true then 1 else 0]) hc (e.trans ?_) (by simp) ((s1.trans s2).trans s3) hD⟩⟩;delta zo;simp only[ek];show(s,T1 (if k.right s.days=false then _ else if bZ d=false then _ else _))=_;rw[kr,cd];rfl
set_option tactic.hygienic true in
theorem YK(ok:aK p)(hc:bS p H c s)(hn:bh H nu ns)(hr:dB H ro rows)(ha:Ask 16 ns rows)(h:dP p c H s (bD s ((16::ns)::rows)) Q):ak (G p 110 4) EX (fin Q) [some (.ref c),some (.ref nu),some (.ref ro),none,none] H:=by
 obtain⟨d,m,rfl,rfl,hl,_⟩:=JQ (by decide) ha;have cV:=hc;obtain⟨dx,a,l,r,h1,h2,h3,h4,h5⟩:=cV;obtain⟨m',xs,g1,g2,g3⟩:=fN hr 0 (z:=0) rfl (by simp);have g3:H m'=some (.lst (m.map V.int)):=g3;have aE:=Sets.Ok.mk' h5.b;have e:=ajW s d m;unfold EX;tm_at "r";simp only[bM hn,aV,bB,d8,g1,g2,oJ ok h1];refine⟨l,s.books,m',m,rfl,h3,.inl g3,λH1 s1=>?_⟩;cases cr:fM s.books m with
 |false=>
  refine⟨sz (by simp),λD hD=>h.keep (dj:=[-4]) hc (e.trans ?_) (by simp[T1,cA,bY,cO,cC]) s1 hD⟩;rw[LV] at cr;show(s,T1 (match om m with|some [k]=>_|_=>_))=_;split at cr
  ·rename_i k ek
   try rw[ek]
   show(s,T1 (if k.right s.books=false then _ else _))=_;rw[cr];rfl
  ·rename_i nk
   first
   |rfl
   |split
    ·rename_i k ek
     exact absurd ek (nk k)
    ·rfl
 |true=>
  obtain⟨k,ek,kr,rfl⟩:=acH cr;simp only[bH,aL,if_false];cases cd:bZ d with
  |false=>
   refine⟨sz (by simp),λD hD=>h.keep (dj:=[-3]) hc (e.trans ?_) (by simp[T1,cA,bY,cO,cC]) s1 hD⟩;delta zo;simp only[ek];show(s,T1 (if k.right s.books=false then _ else if bZ d=false then _ else _))=_;rw[kr,cd];rfl
  |true=>
   simp only[bH,aL,if_false,oJ ok (s1 _ _ h1),G_ ok (s1 _ _ h1)];refine⟨l,s.books,r,m',k,d,rfl,h3.same s1,aE,h4.same s1,.inl (s1 _ _ g3),kr,λH2 s2=>⟨sz (by simp),λD hD=>h.keep (dj:=[if (Sets.dR s.books k).any (Sets.cJ d)=true then 1 else 0]) hc (e.trans ?_) (by simp) (s1.trans s2) hD⟩⟩;delta zo;simp only[ek];show(s,T1 (if k.right s.books=false then _ else if bZ d=false then _ else bY (if s.books.can d k=true then 1 else 0)))=_
   have dd:0<=d/\d<=730499:=by
    simp only[bZ,dS,bx,decide_eq_true_iff] at cd;exact cd
   rw[kr,cd,Sets.Gx aE kr dd];rfl
theorem XH(ok:aK p)(hc:bS p H c s)(hn:bh H nu ns)(hr:dB H ro rows)(ha:Ask 12 ns rows)(h:dP p c H s (bD s ((12::ns)::rows)) Q):ak (G p 106 4) Ey (fin Q) [some (.ref c),some (.ref nu),some (.ref ro),none,none,none,none] H:=by
 obtain⟨d,m,rfl,rfl,hl,hb⟩:=JQ (by decide) ha;have hb:=hb rfl;have cV:=hc;obtain⟨dx,a,l,r,h1,h2,⟨d2,l2,pe,o,hh,sl,pl,w,se,b1,L⟩,h4,h5⟩:=cV;obtain⟨m',xs,g1,g2,g3⟩:=fN hr 0 (z:=0) rfl (by simp);have g3:H m'=some (.lst (m.map V.int)):=g3;have e:=ajS s d m;unfold Ey;tm_at "r";simp only[bM hn,aV,bB,d8,oJ ok h1,qx ok b1,qy ok b1,lH ok b1];refine⟨sz (by simp),λT hT=>⟨d,T,_,rfl,aO au,?_⟩⟩;have s1:ah H (upd H T (.tup [.ref pe,.ref o,.ref pl])):=ah.new hT;have yu:(upd H T (.tup [.ref pe,.ref o,.ref pl])) T=some (.tup [.ref pe,.ref o,.ref pl]):=au;generalize upd H T (.tup [.ref pe,.ref o,.ref pl])=H1 at s1 yu
 have r1:Mini.rd H1 ro=some xs:=by
  obtain⟨as,q1,_⟩:=hr;rw[bM q1] at g1;cases g1;exact bM (s1 _ _ q1)
 cases cd:(decide (0<=d)&&decide (d<(([.ref pe,.ref o,.ref pl]:List V).length:Nat))) with
 |false=>
  refine⟨sz (by simp),λD hD=>h.keep (dj:=[-3]) hc (e.trans ?_) (by simp[T1,cA,bY,cO,cC]) s1 hD⟩;simp only[ck,eT,SK,decide_eq_false_iff_not] at cd;delta zo;dsimp only;rw[if_neg (by lia),if_neg (by lia),if_neg (by lia)];rfl
 |true=>
  simp only[bH,aL,if_false,aO yu,r1,g2];simp only[ck,eT,bx,decide_eq_true_iff] at cd
  have uL:∀(o:Option Nat),bD s [[12,d],m]=(s,T1 (match o with|some i=>bY (i:Nat)|none=>cO))->∀H2,ah H H2->(if decide (bF o=V.az)=true then [V.int (-3)].length<=sizeLine/\∀q,H2 q=none->Q (.ref q) (upd H2 q (.lst [V.int (-3)])) else [bF o].length<=sizeLine/\∀q,H2 q=none->Q (.ref q) (upd H2 q (.lst [bF o]))):=by
   intro o he H2 s2;cases o with
   |none=>exact⟨sz (by simp),λD hD=>h.keep hc he (by simp[T1,cA,bY,cO,cC]) s2 hD⟩
   |some i=>exact⟨sz (by simp),λD hD=>h.keep hc he (by simp[T1,cA,bY]) s2 hD⟩
  have e':bD s [[12,d],m]=(s,T1 (match (if d=0 then s.books.persons.findIdx? λ(p:we)=>p.name==cG m else if d=1 then s.books.offices.findIdx? λ(n:j3)=>n==cG m else if d=2 then s.books.places.findIdx? λ(n:j3)=>n==cG m else none) with|some i=>bY (i:Nat)|none=>cO)):=e
  have ft:∀(α:Type)(l:List α)(g:α->j3),((l.map λx=>aX (g x)).findIdx? λr=>r==m)=l.findIdx? λx=>g x==cG m:=by
   intro α l g;rw[C7];congr 1;funext x;exact acJ hb
  rcases(by lia:d=0\/d=1\/d=2) with rfl|rfl|rfl
  ·simp only[d8,cu,s1 _ _ g3]
   intro t ht;refine⟨pe,t,_,m,rfl,(L.persons.same s1).same (ah.new ht),au,λH3 s3=>?_⟩;exact uL _ (by rw[ft];exact e') H3 (s1.trans ((ah.new ht).trans s3))
  ·simp only[iA,cu,s1 _ _ g3]
   intro t ht;refine⟨o,t,_,m,rfl,(L.offices.same s1).same (ah.new ht),au,λH3 s3=>?_⟩;exact uL _ (by rw[show s.books.offices.map aX=s.books.offices.map λx=>aX (id x) from rfl,ft];exact e') H3 (s1.trans ((ah.new ht).trans s3))
  ·simp only[at2,cu,s1 _ _ g3]
   intro t ht;refine⟨pl,t,_,m,rfl,(L.places.same s1).same (ah.new ht),au,λH3 s3=>?_⟩;exact uL _ (by rw[show s.books.places.map aX=s.books.places.map λx=>aX (id x) from rfl,ft];exact e') H3 (s1.trans ((ah.new ht).trans s3))
theorem VI(ok:aK p)(hc:bS p H c s)(hn:bh H nu ns)(ha:Ask 13 ns rows)(h:dP p c H s (bD s ((13::ns)::rows)) Q):ak (G p 107 4) DE (fin Q) [some (.ref c),some (.ref nu),some (.ref ro),none,none,none] H:=by
 obtain⟨f,d,rfl,rfl⟩:=vq (by decide) ha;have cV:=hc;obtain⟨dx,a,l,r,h1,h2,hl,h4,h5⟩:=cV;have hl':=hl;obtain⟨d2,l2,pe,o,hh,sl,pl,w,se,b1,L⟩:=hl';obtain⟨xs,x1,x2,x3,_⟩:=qK L.offices;have e:=ajT s f d;have gP:(fZ f s.books.offices.length&&bZ d)=false->bD s [[13,f,d]]=(s,[-3]):=λz=>e.trans (by show(s,T1 (if _ then _ else _))=_;rw[z];rfl);unfold DE;tm_at "r";simp only[bM hn,aV,bB,d8,iA,oJ ok h1,qy ok b1];refine⟨f,o,xs,rfl,bM x1,?_⟩;rw[x2,aU];cases cb:(decide (0<=f)&&decide (f<(s.books.offices.length:Nat))) with
 |false=>exact⟨sz (by simp),λD hD=>h.keep hc (gP (by unfold fZ;rw[cb,mP])) (by simp[T1,cA,bY,cO,cC]) (ah.refl H) hD⟩
 |true=>
  simp only[bH,aL,if_false];cases cy:bZ d with
  |false=>exact⟨sz (by simp),λD hD=>h.keep hc (gP (by rw[cy,oj])) (by simp[T1,cA,bY,cO,cC]) (ah.refl H) hD⟩
  |true=>
   have e2:bD s [[13,f,d]]=(s,T1 (cC (s.books.holder f.toNat d))):=e.trans (by show(s,T1 (if _ then _ else _))=_;unfold fZ;rw[cb,cy];rfl);simp only[bx,decide_eq_true_iff] at cb;simp only[bH,aL,if_false];refine⟨l,s.books,f,d,rfl,hl,cb.1,λH1 s1=>?_⟩;cases eo:s.books.holder f.toNat d with
   |none=>rw[eo] at e2;exact⟨sz (by simp),λD hD=>h.keep hc e2 (by simp[T1,cA,bY,cO,cC]) s1 hD⟩
   |some i=>rw[eo] at e2;exact⟨sz (by simp),λD hD=>h.keep hc e2 (by simp[T1,cA,cC,bY]) s1 hD⟩
theorem UP(ok:aK p)(hc:bS p H c s)(hn:bh H nu ns)(ha:Ask 14 ns rows)(h:dP p c H s (bD s ((14::ns)::rows)) Q):ak (G p 108 4) Di (fin Q) [some (.ref c),some (.ref nu),some (.ref ro),none,none,none] H:=by
 obtain⟨f,d,rfl,rfl⟩:=vq (by decide) ha;have cV:=hc;obtain⟨dx,a,l,r,h1,h2,hl,h4,h5⟩:=cV;have hl':=hl;obtain⟨d2,l2,pe,o,hh,sl,pl,w,se,b1,L⟩:=hl';obtain⟨xs,x1,x2,x3,_⟩:=qK L.persons;have e:=ajU s f d;have gP:(fZ f s.books.persons.length&&bZ d)=false->bD s [[14,f,d]]=(s,[-3]):=λz=>e.trans (by show(s,T1 (if _ then _ else _))=_;rw[z];rfl);unfold Di;tm_at "r";simp only[bM hn,aV,bB,d8,iA,oJ ok h1,qx ok b1];refine⟨f,pe,xs,rfl,bM x1,?_⟩;rw[x2,aU];cases cb:(decide (0<=f)&&decide (f<(s.books.persons.length:Nat))) with
 |false=>exact⟨sz (by simp),λD hD=>h.keep hc (gP (by unfold fZ;rw[cb,mP])) (by simp[T1,cA,bY,cO,cC]) (ah.refl H) hD⟩
 |true=>
  simp only[bH,aL,if_false];cases cy:bZ d with
  |false=>exact⟨sz (by simp),λD hD=>h.keep hc (gP (by rw[cy,oj])) (by simp[T1,cA,bY,cO,cC]) (ah.refl H) hD⟩
  |true=>
   have e2:bD s [[14,f,d]]=(s,T1 (cC (s.books.highest f.toNat d))):=e.trans (by show(s,T1 (if _ then _ else _))=_;unfold fZ;rw[cb,cy];rfl);simp only[bx,decide_eq_true_iff] at cb;simp only[bH,aL,if_false];refine⟨l,s.books,f,d,rfl,hl,Sets.Ok.mk' h5.b,cb.1,λH1 s1=>?_⟩;cases eo:s.books.highest f.toNat d with
   |none=>rw[eo] at e2;exact⟨sz (by simp),λD hD=>h.keep hc e2 (by simp[T1,cA,bY,cO,cC]) s1 hD⟩
   |some i=>rw[eo] at e2;exact⟨sz (by simp),λD hD=>h.keep hc e2 (by simp[T1,cA,cC,bY]) s1 hD⟩
theorem afQ(h:j<n):cF (cz f n) (j:Int)=some (.int (f j)):=by
 unfold cF;rw[Aa,wI h];unfold cz;simp[h]
theorem XI(ok:aK p)(hc:bS p H c s)(hn:bh H nu ns)(ha:Ask 15 ns rows)(h:dP p c H s (bD s ((15::ns)::rows)) Q):ak (G p 109 4) Ez (fin Q) [some (.ref c),some (.ref nu),some (.ref ro),none,none,none,none] H:=by
 obtain⟨f,g,rfl,rfl⟩:=vq (by decide) ha;have cV:=hc;obtain⟨dx,a,l,r,h1,h2,⟨d2,l2,pe,o,hh,sl,pl,w,se,b1,L⟩,h4,h5⟩:=cV;obtain⟨xs,x1,x2,x3,_⟩:=qK L.places;have e:=ajV s f g;have gP:(fZ f s.books.places.length&&fZ g s.books.places.length)=false->bD s [[15,f,g]]=(s,[-3]):=λz=>e.trans (by show(s,T1 (if _ then _ else _))=_;rw[z];rfl);unfold Ez;tm_at "r";simp only[bM hn,aV,bB,d8,iA,oJ ok h1,lH ok b1];refine⟨f,pl,xs,rfl,bM x1,?_⟩;rw[x2,aU];cases cb:(decide (0<=f)&&decide (f<(s.books.places.length:Nat))) with
 |false=>exact⟨sz (by simp),λD hD=>h.keep hc (gP (by unfold fZ;rw[cb,mP])) (by simp[T1,cA,bY,cO,cC]) (ah.refl H) hD⟩
 |true=>
  simp only[bH,aL,if_false];refine⟨g,pl,xs,rfl,bM x1,?_⟩;rw[x2,aU];cases cy:(decide (0<=g)&&decide (g<(s.books.places.length:Nat))) with
  |false=>exact⟨sz (by simp),λD hD=>h.keep hc (gP (by unfold fZ;rw[cy,oj])) (by simp[T1,cA,bY,cO,cC]) (ah.refl H) hD⟩
  |true=>
   have e2:bD s [[15,f,g]]=(s,T1 (cC (s.books.ride f.toNat g.toNat))):=e.trans (by show(s,T1 (if _ then _ else _))=_;unfold fZ;rw[cb,cy];rfl);simp only[bx,decide_eq_true_iff] at cb cy;obtain⟨i,rfl⟩:=p9 cb.1;obtain⟨j,rfl⟩:=p9 cy.1;obtain⟨v,ys,k1,k2,k3⟩:=wX h4 (k:=i) (by simp_all);simp only[bH,aL,if_false,G_ ok h1,k1,k2,k3,afQ (show j<s.books.places.length by lia),xr,lX];rw[fG,fG] at e2;cases eo:s.books.ride i j with
   |none=>
    rw[eo] at e2;have:Sets.tR s.books i j=1000000:=by unfold Sets.tR;rw[eo];rfl
    rw[this];exact⟨sz (by simp),λD hD=>h.keep hc e2 (by simp[T1,cA,bY,cO,cC]) (ah.refl H) hD⟩
   |some n=>
    rw[eo] at e2;have:Sets.tR s.books i j=(n:Int):=by unfold Sets.tR;rw[eo]
    have:=abh (Sets.Ok.mk' h5.b) (i:=i) (j:=j) (by lia) eo;have q:decide (Sets.tR s.books i j=1000000)=false:=by simp;lia
    rw[q];simp only[aL,if_false];rename_i t;rw[t];exact⟨sz (by simp),λD hD=>h.keep hc e2 (by simp[T1,cA,cC,bY]) (ah.refl H) hD⟩
theorem wu(h:bh H D l):bE (.ref D) H R=R (!l.isEmpty) H:=by
 simp only[bE,bM h,List.isEmpty_map]
theorem Av(hl:l.length<=3000)(ha:bh H a l)(n1:H D1=none)(h:∀D H',ah H H'->H' D=none->R (.ref D) (upd H' D (.lst ((z::l).map V.int)))):c9 .add (.ref D1) (.ref a) (upd H D1 (.lst [V.int z])) R:=by
 rw[Pd au ((ah.new n1) _ _ ha)];refine⟨sz (by simp;lia),λD hD=>?_⟩;exact h D _ (ah.new n1) hD
theorem wY(hb:b.fault=none)(hd:d∈Sets.cE (D0 b) (DN b)):bZ d=true/\∃i:Nat,i<DN b/\d=D0 b+(i:Int):=by
 have:=lY hb;simp only[Sets.cE,gH,yY] at hd;obtain⟨i,hi,rfl⟩:=hd;refine⟨?_,i,hi,rfl⟩;simp only[bZ,dS,bx,decide_eq_true_iff,show Se.DAYS-1=730499 from by decide]
 omega
theorem WJ(ok:aK p)(hc:bS p H c s)(hr:dB H ro rows)(ha:Ask 10 ns rows)(h:dP p c H s (bD s ((10::ns)::rows)) Q):ak (G p 104 4) Ed (fin Q) [some (.ref c),some (.ref nu),some (.ref ro),none,none,none] H:=by
 obtain⟨m,rfl,rfl,hl⟩:=B_ (by decide) ha;have cV:=hc;obtain⟨dx,a,l,r,h1,h2,h3,h4,h5⟩:=cV;obtain⟨m',xs,g1,g2,g3⟩:=fN hr 0 (z:=0) rfl (by simp);have g3:H m'=some (.lst (m.map V.int)):=g3;have e:=ajQ s m;unfold Ed;tm_at "r";simp only[g1,g2];refine⟨c,s,m',m,rfl,hc,g3,hl,λH1 D s1 nD hD=>?_⟩;rw[wu hD];rcases L4 s m (λm=>abA ((uc s.days m).length:Nat) (uc s.days m)) with⟨c1,c2,c3⟩|⟨c1,ms,c2,c3,c4,c5⟩
 ·have:(fS s m).isEmpty=false:=by cases z:fS s m with|nil=>exact absurd z c1|cons _ _=>rfl
  rw[this];exact h.given (dj:=fS s m) hc (e.trans (by rw[←c2];rfl)) (by lia) s1 nD hD
 ·rw[c1]
  simp only[qh,bH,aL,if_false,mV ok (s1 _ _ h1)];refine⟨a,s.days,rfl,h2.same s1,h5.d,λH2 E s2 hE=>?_⟩;have t2:=s1.trans s2;obtain⟨m2,yw,k1,k2,k3⟩:=fN (hr.same t2) 0 (z:=0) rfl (by simp);have k3:H2 m2=some (.lst (m.map V.int)):=k3;simp only[k1,k2];refine⟨m2,5,m,rfl,k3,by decide,hl,λH3 M s3 y hM=>?_⟩;have t3:=t2.trans s3;rw[c2] at hM;have dn:=lY h5.d;have uT:mZ p H3 E (Sets.cE (D0 s.days) (DN s.days)):=let ⟨as,q1,q2,q3⟩:=hE;⟨as,s3 _ _ q1,q2,λi a d e1 e2=>let ⟨dx,q⟩:=q3 i a d e1 e2;⟨dx,s3 _ _ q⟩⟩;refine⟨a,s.days,E,_,M,ms,rfl,h2.same t3,h5.d,uT,by rw[lV];simp[*],λd hd=>(wY h5.d hd).1,hM,c4,λH4 F s4 hF=>?_⟩;have t4:=t3.trans s4
  have lm:(uc s.days ms).length<=1096:=by
   have:=sW (λd=>ms.all (cD s.days d)) (Sets.cE (D0 s.days) (DN s.days));rw[lV] at this;exact eU this dn.2.1
  have hF:bh H4 F (uc s.days ms):=hF;simp only[lU hF,aU];refine⟨sz (by simp),λD1 n1=>Av (by lia) hF n1 λD2 H5 s5 n5=>h.keep (dj:=((uc s.days ms).length:Nat)::uc s.days ms) hc (e.trans ?_) (by simp;lia) (t4.trans s5) n5⟩;show(s,T1 (vI s m _))=_;rw[show(vI s m λm=>let x:=uc s.days m;abA (x.length:Nat) x)=_ from c5];rfl
theorem WK(ok:aK p)(hc:bS p H c s)(hr:dB H ro rows)(ha:Ask 17 ns rows)(h:dP p c H s (bD s ((17::ns)::rows)) Q):ak (G p 112 4) Eg (fin Q) [some (.ref c),some (.ref nu),some (.ref ro),none,none] H:=by
 obtain⟨m,rfl,rfl,hl⟩:=B_ (by decide) ha;have cV:=hc;obtain⟨dx,a,l,r,h1,h2,h3,h4,h5⟩:=cV;obtain⟨m',xs,g1,g2,g3⟩:=fN hr 0 (z:=0) rfl (by simp);have g3:H m'=some (.lst (m.map V.int)):=g3;have e:=ajX s m;unfold Eg;tm_at "r";simp only[g1,g2];refine⟨c,s,m',m,rfl,hc,g3,hl,λH1 D s1 nD hD=>?_⟩;rw[wu hD];rcases L5 s m (λm=>Wd (s.days.all.filter λ(d:Int)=>m.all (s.books.canBy s.books.rides d))) with⟨c1,c2,c3⟩|⟨c1,ms,c2,c3,c4,c5⟩
 ·have:(fT s m).isEmpty=false:=by cases z:fT s m with|nil=>exact absurd z c1|cons _ _=>rfl
  rw[this];exact h.given (dj:=fT s m) hc (e.trans (by rw[←c2];rfl)) (by lia) s1 nD hD
 ·rw[c1]
  obtain⟨m2,yw,k1,k2,k3⟩:=fN (hr.same s1) 0 (z:=0) rfl (by simp);have k3:H1 m2=some (.lst (m.map V.int)):=k3;simp only[qh,bH,aL,if_false,mV ok (s1 _ _ h1),k1,k2];refine⟨c,s,m2,m,ms,rfl,hc.same s1,k3,hl,c2,c4,λH2 S s2 hS=>?_⟩;have t2:=s1.trans s2;have dn:=lY h5.d;refine⟨a,s.days,S,ms.map (λk i=>(Sets.dR s.books k).any (Sets.cJ (D0 s.days+(i:Int)))),rfl,h2.same t2,h5.d,by rw[hS,ff];rfl,λH3 E s3 hE=>?_⟩;have t3:=t2.trans s3
  have ef:((Sets.cE (D0 s.days) (DN s.days)).filter λd=>(ms.map (λk (i:Nat)=>(Sets.dR s.books k).any (Sets.cJ (D0 s.days+(i:Int))))).all λq=>q (d-D0 s.days).toNat)=s.days.all.filter λ(d:Int)=>ms.all (s.books.canBy s.books.rides d):=by
   rw[zX];refine Up λd hd=>?_;obtain⟨j1,i,j2,rfl⟩:=wY h5.d hd;rw[qv];rw[aT,fc,fc];have ei:(D0 s.days+(i:Int)-D0 s.days).toNat=i:=by simp+arith
   have aE:=Sets.Ok.mk' h5.b
   have each:∀k∈ms,(Sets.dR s.books k).any (Sets.cJ (D0 s.days+(i:Int)))=s.books.canBy s.books.rides (D0 s.days+(i:Int)) k:=λk hk=>by
    rw[Sets.Nl aE (c4 k hk),Sets.Gx aE (c4 k hk) (by lia)]
   refine⟨λz k hk=>?_,λz k hk=>?_⟩
   ·rw[←each k hk]
    have:=z k hk;simp only[tE,ei] at this;exact this
   ·simp only[tE,ei]
    rw[each k hk];exact z k hk
  rw[ef] at hE
  have le:(s.days.all.filter λ(d:Int)=>ms.all (s.books.canBy s.books.rides d)).length<=1096:=by
   have:=sW (λ(d:Int)=>ms.all (s.books.canBy s.books.rides d)) s.days.all;rw[zX,lV] at this;rw[zX];lia
  refine⟨E,_,rfl,hE,le,λH4 F s4 hF=>?_⟩;have t4:=t3.trans s4;generalize hL:(s.days.all.filter λ(d:Int)=>ms.all (s.books.canBy s.books.rides d))=L at hE le hF;have le2:=Sets.MH L;have le3:=Sets.Nk (iG L);simp only[lU hF,aU,Om];have ed:(((Sets.ends (iG L)).length:Nat):Int)/2=((iG L).length:Nat):=by rw[le3];simp
  rw[ed];refine⟨by unfold AR;simp,sz (by simp),λD1 n1=>Av (by lia) hF n1 λD2 H5 s5 n5=>h.keep (dj:=((iG L).length:Nat)::Sets.ends (iG L)) hc (e.trans ?_) (by simp;lia) (t4.trans s5) n5⟩;show(s,T1 (vF s m _))=_;rw[show(vF s m λm=>let t:=s.books.rides;Wd (s.days.all.filter λ(d:Int)=>m.all (s.books.canBy t d)))=_ from c5,hL];rfl
theorem VJ(ok:aK p)(hc:bS p H c s)(hr:dB H ro rows)(ha:Ask 18 ns rows)(h:dP p c H s (bD s ((18::ns)::rows)) Q):ak (G p 113 4) DF (fin Q) [some (.ref c),some (.ref nu),some (.ref ro),none,none] H:=by
 obtain⟨m,rfl,rfl,hl⟩:=B_ (by decide) ha;have cV:=hc;obtain⟨dx,a,l,r,h1,h2,h3,h4,h5⟩:=cV;obtain⟨m',xs,g1,g2,g3⟩:=fN hr 0 (z:=0) rfl (by simp);have g3:H m'=some (.lst (m.map V.int)):=g3;have e:=ajY s m;unfold DF;tm_at "r";simp only[g1,g2];refine⟨c,s,m',m,rfl,hc,g3,hl,λH1 D s1 nD hD=>?_⟩;rw[wu hD];rcases L5 s m (λm=>EF (zm m.length (s.days.all.map λ(d:Int)=>Se.maskOf (m.map (s.books.canBy s.books.rides d))))) with⟨c1,c2,c3⟩|⟨c1,ms,c2,c3,c4,c5⟩
 ·have:(fT s m).isEmpty=false:=by cases z:fT s m with|nil=>exact absurd z c1|cons _ _=>rfl
  rw[this];exact h.given (dj:=fT s m) hc (e.trans (by rw[←c2];rfl)) (by lia) s1 nD hD
 ·rw[c1]
  obtain⟨m2,yw,k1,k2,k3⟩:=fN (hr.same s1) 0 (z:=0) rfl (by simp);have k3:H1 m2=some (.lst (m.map V.int)):=k3;simp only[qh,bH,aL,if_false,k1,k2];refine⟨c,s,m2,m,ms,rfl,hc.same s1,k3,hl,c2,c4,λH2 S s2 hS=>?_⟩;have t2:=s1.trans s2;have dn:=lY h5.d;have aE:=Sets.Ok.mk' h5.b
  have p6:H2 S=some (.lst (cz (λk=>((Sets.bits (DN s.days) (λi=>((ms[k]?).map λk=>(Sets.dR s.books k).any (Sets.cJ (D0 s.days+(i:Int)))).getD false):Nat):Int)) ms.length)):=by
   rw[hS];congr 2;unfold cz;refine Kv λi=>?_
   by_cases hi:i<ms.length
   ·simp[hi,i8]
   ·simp[hi]
  refine⟨S,ms.length,DN s.days,_,rfl,p6,c3,by lia,λH3 F s3 hF=>?_⟩;have t3:=t2.trans s3
  have ec:gb ms.length (DN s.days) (λk i=>((ms[k]?).map λk=>(Sets.dR s.books k).any (Sets.cJ (D0 s.days+(i:Int)))).getD false)=gb ms.length (DN s.days) (λk i=>((ms[k]?).map (s.books.canBy s.books.rides (D0 s.days+(i:Int)))).getD false):=Z0 λk i hi=>by
   cases ek:ms[k]? with
   |none=>rfl
   |some y=>
    have hy:y∈ms:=eO ek;show(Sets.dR s.books y).any _=s.books.canBy s.books.rides _ y;rw[Sets.Nl aE (c4 y hy),Sets.Gx aE (c4 y hy) (by lia)]
  rw[ec] at hF;have tl:=LX ms (λd k=>s.books.canBy s.books.rides d k) (D0 s.days) (DN s.days);have ll:=MQ ms.length (DN s.days) (λk i=>((ms[k]?).map (s.books.canBy s.books.rides (D0 s.days+(i:Int)))).getD false);simp only[lU hF,aU];refine⟨sz (by simp),λD1 n1=>Av (by lia) hF n1 λD2 H5 s5 n5=>h.keep (dj:=_::gb ms.length (DN s.days) (λk i=>((ms[k]?).map (s.books.canBy s.books.rides (D0 s.days+(i:Int)))).getD false)) hc (e.trans ?_) (by simp;lia) (t3.trans s5) n5⟩;show(s,T1 (vF s m _))=_;rw[show(vF s m λm=>let t:=s.books.rides;EF (zm m.length (s.days.all.map λ(d:Int)=>Se.maskOf (m.map (s.books.canBy t d)))))=_ from c5,zX];exact congrArg (Prod.mk s) tl
theorem mZ.same{H H':Hp}{E:Addr}(h:mZ p H E ds)(k:ah H H'):mZ p H' E ds:=let ⟨as,q1,q2,q3⟩:=h;⟨as,k _ _ q1,q2,λi a d e1 e2=>let ⟨dx,q⟩:=q3 i a d e1 e2;⟨dx,k _ _ q⟩⟩
set_option maxHeartbeats 1000000 in
theorem WL(ok:aK p)(hc:bS p H c s)(hr:dB H ro rows)(ha:Ask 11 ns rows)(h:dP p c H s (bD s ((11::ns)::rows)) Q):ak (G p 105 4) Ef (fin Q) [some (.ref c),some (.ref nu),some (.ref ro),none,none,none,none,none,none] H:=by
 obtain⟨m,rfl,rfl,hl⟩:=B_ (by decide) ha;have cV:=hc;obtain⟨dx,a,l,r,h1,h2,h3,h4,h5⟩:=cV;obtain⟨m',xs,g1,g2,g3⟩:=fN hr 0 (z:=0) rfl (by simp);have g3:H m'=some (.lst (m.map V.int)):=g3;have e:=ajR s m;unfold Ef;tm_at "r";simp only[g1,g2];refine⟨c,s,m',m,rfl,hc,g3,hl,λH1 D s1 nD hD=>?_⟩;rw[wu hD];rcases L4 s m (λm=>EF (Se.clash s.days m)) with⟨c1,c2,c3⟩|⟨c1,ms,c2,c3,c4,c5⟩
 ·have:(fS s m).isEmpty=false:=by cases z:fS s m with|nil=>exact absurd z c1|cons _ _=>rfl
  rw[this];exact h.given (dj:=fS s m) hc (e.trans (by rw[←c2];rfl)) (by lia) s1 nD hD
 rw[c1];simp only[qh,bH,aL,if_false,mV ok (s1 _ _ h1)];refine⟨a,s.days,rfl,h2.same s1,h5.d,λH2 E s2 hE=>?_⟩;have t2:=s1.trans s2;obtain⟨m2,yw,k1,k2,k3⟩:=fN (hr.same t2) 0 (z:=0) rfl (by simp);have k3:H2 m2=some (.lst (m.map V.int)):=k3;simp only[k1,k2];refine⟨m2,5,m,rfl,k3,by decide,hl,λH3 M s3 y hM=>?_⟩;have t3:=t2.trans s3;rw[c2] at hM;have dn:=lY h5.d;have RK:∀d∈Sets.cE (D0 s.days) (DN s.days),bZ d=true:=λd hd=>(wY h5.d hd).1;refine⟨a,s.days,E,_,M,ms,rfl,h2.same t3,h5.d,hE.same s3,by rw[lV];simp[*],RK,hM,c4,λH4 F s4 hF=>?_⟩;have t4:=t3.trans s4;rw[wu hF];have tl:=LX ms (λd k=>cD s.days d k) (D0 s.days) (DN s.days)
 have es:bD s [[11],m]=(s,(((gb ms.length (DN s.days) λk i=>((ms[k]?).map (cD s.days (D0 s.days+(i:Int)))).getD false).length:Nat):Int)::gb ms.length (DN s.days) λk i=>((ms[k]?).map (cD s.days (D0 s.days+(i:Int)))).getD false):=by
  refine e.trans ?_;show(s,T1 (vI s m _))=_;rw[show(vI s m λm=>EF (Se.clash s.days m))=_ from c5];exact congrArg (Prod.mk s) tl
 cases em:((Sets.cE (D0 s.days) (DN s.days)).filter λd=>ms.all (cD s.days d)) with
 |cons d rest=>
  have hd:d∈(Sets.cE (D0 s.days) (DN s.days)).filter λd=>ms.all (cD s.days d):=by rw[em];simp
  rw[ly] at hd;obtain⟨_,i,hi,rfl⟩:=wY h5.d hd.1;have ha:=fc.1 hd.2
  rw[acI hi λk hk=>by
   have:ms[k]?=some ms[k]:=by simp[hk]
   rw[this];exact ha _ (Kz hk)] at es
  exact⟨sz (by simp),λD2 n2=>h.keep (dj:=[0]) hc es (by simp) t4 n2⟩
 |nil=>
  simp only[qh,bH,aL,if_false];obtain⟨ys,e1,e2,e3,e4⟩:=dO hM;refine o7 ?_;simp only[sI];tm_at "r";refine .inl ⟨ys,.of (s4 _ _ e1),?_⟩;refine pY (K:=p.K) (x:=8) (a:=M) (H1:=H4) (xs:=ys) (λi=>(ms[i]?).map λk=>V.int (Sets.bits (DN s.days) (λj=>cD s.days (D0 s.days+(j:Int)) k):Nat)) (λR r=>r) (s4 _ _ e1) (by rw[e2];unfold sizeLine;lia) (λv=>rfl) (λi v H5 hv s5 R hR=>?_) λH5 S s5 hS=>?_
  ·obtain⟨k,x,j1,rfl,j2⟩:=e4 i v hv
   have ss:=t4.trans s5;have RL:=s4.trans s5;simp only[wipe]
   tm_at "r"
   refine⟨sz (by simp),λL hL=>?_⟩;have sL:ah H5 (upd H5 L (.lst [.ref x])):=ah.new hL;have km:k∈ms:=eO j1;have oR:aZ (upd H5 L (.lst [.ref x])) L ([k].map iL):=HC (RL _ _ j2) hL (by simp[iL]);refine⟨a,s.days,E,_,L,[k],rfl,(h2.same ss).same sL,h5.d,((hE.same s3).same RL).same sL,by rw[lV];lia,RK,oR,λk' uV=>by rw[Kf] at uV;rw[uV];exact c4 k km,λH6 F2 s6 Ca=>?_⟩;have sf:=ss.trans (sL.trans s6);have lf:=sW (λd=>[k].all (cD s.days d)) (Sets.cE (D0 s.days) (DN s.days));rw[lV] at lf;refine⟨a,s.days,F2,_,rfl,h2.same sf,Ca,by lia,λd hd=>?_,λH7 s7=>?_⟩
   ·obtain⟨_,i,hi,rfl⟩:=wY h5.d (ly.1 hd).1
    lia
   ·have:=hR H7 ((sL.trans s6).trans s7)
    rw[j1,kH] at this;rw[Sets.G1];simpa using this
  ·have p6:H5 S=some (.lst (cz (λk=>((Sets.bits (DN s.days) (λi=>((ms[k]?).map (cD s.days (D0 s.days+(i:Int)))).getD false):Nat):Int)) ms.length)):=by
    rw[hS,e2,lM (l:=ms) (g:=λk=>some (V.int (Sets.bits (DN s.days) (λj=>cD s.days (D0 s.days+(j:Int)) k):Nat))) (λi x hx=>by rw[hx];rfl),filterMap_some];congr 2;unfold cz;refine Kv λi=>?_
    by_cases hi:i<ms.length
    ·simp[hi]
    ·simp[hi]
   have t5:=t4.trans s5;refine⟨S,ms.length,DN s.days,_,rfl,p6,c3,by lia,λH6 F2 s6 Ca=>?_⟩;have ll:=MQ ms.length (DN s.days) (λk i=>((ms[k]?).map (cD s.days (D0 s.days+(i:Int)))).getD false);simp only[lU Ca,aU];exact⟨sz (by simp),λD1 n1=>Av (by lia) Ca n1 λD2 H7 s7 n7=>h.keep hc es (by simp;lia) ((t5.trans s6).trans s7) n7⟩
end
section
variable{p:Pa}{H:Hp}{Q:VK}
noncomputable def RM:Ss:=(.cons (.set 5 (.ay .add (.var 1) (.cst (.int (1))))) (.cons (.set 1 (.ay .add (.var 5) (.fX (.var 0) (.var 1)))) (.cons (.ex (.app (.var 3) (.qY (.var 0) (.some (.var 5)) (.some (.var 1))))) .nil)))
theorem aj6:FD=(.cons (.set 3 (.lst .nil)) (.cons (.cU (.name 4) (.jd (.var 2)) RM) (.cons (.ret (.tup (.cons (.var 3) (.cons (.var 1) .nil)))) .nil))):=rfl
structure RN(H0 H:Hp)(N:Addr)(xs:List (List Int))(i:Nat):Prop where
 s:ah H0 H
 n0:H0 N=none
 w:∃as:List Addr,H N=some (.lst (as.map V.ref))/\as.length=i/\N∉as/\∀(j:Nat)(a:Addr)(row:List Int),as[j]?=some a->xs[j]?=some row->H a=some (.lst (row.map V.int))
theorem OC{l:List Int}{q:Nat}{m:Int}(h:l.drop q=m::r):cF (l.map V.int) (q:Int)=some (.int m)/\r=l.drop (q+1)/\q<l.length:=by
 have hq:q<l.length:=by
  refine Sd λc=>?_;rw[J0 (by simp_all)] at h;cases h
 rw[yH hq] at h;injection h with h1 h2;refine⟨?_,h2.symm,hq⟩;unfold cF;rw[aU,wI hq];simp[hq,h1]
theorem NG(l:List Int)(i j:Nat):fz (l.map V.int) (some (i:Int)) (some (j:Int))=((l.drop i).take (j-i)).map V.int:=by
 rw[HA,←zc,←qm]
theorem Z1{a:Addr}{l:List Int}{q k:Nat}{t:List Int}(hs:∀H',ah H H'->aG p.K H' a (l.map V.int))(hl:l.length<=16000)(hk:k<=11)(hr:jV k (l.drop q)=some (xs,t))(hq:q<=l.length)(h:∀H' T ro,ah H H'->H' T=some (.tup [.ref ro,.int ((l.length-t.length:Nat):Int)])->dB H' ro xs->H T=none->H ro=none->Q (.ref T) H'):ak (G p 114 4) FD (fin Q) [some (.ref a),some (.int (q:Nat)),some (.int (k:Nat)),none,none,none] H:=by
 have lx:=zK hr;rw[aj6];simp only[ak];rw[sS,sE,bz];refine⟨by decide,λN hN=>?_⟩;simp only[fE,fF,sS];unfold gf;simp only[sI,sE,dG,fC];refine⟨⟨by simp,by lia⟩,?_⟩;rw[fG];refine⟨λi m σ H'=>m=k-i/\i<=k/\RN H H' N xs i/\∃(q':Nat)(z4 z5:Option V),σ=[some (.ref a),some (.int (q':Nat)),some (.int (k:Nat)),some (.ref N),z4,z5]/\q'<=l.length/\jV (k-i) (l.drop q')=some (xs.drop i,t),⟨k,by simp,dH _,⟨ah.new hN,hN,[],au,rfl,by simp,λj a row h v=>by simp at h⟩,q,_,_,rfl,hq,by simpa using hr⟩,?_⟩;rintro i m σ H1 ⟨rfl,hi,w,q',z4,z5,rfl,nH,sM⟩
 by_cases aM:i<k
 ·refine .inr ⟨aM,λaF H'=>RN H H' N xs (i+1)/\∃(q':Nat)(z4 z5:Option V),aF=[some (.ref a),some (.int (q':Nat)),some (.int (k:Nat)),some (.ref N),z4,z5]/\q'<=l.length/\jV (k-(i+1)) (l.drop q')=some (xs.drop (i+1),t),λaF H' ⟨q1,q2⟩=>⟨k-(i+1),by grind,rfl,by trivial,q1,q2⟩,λx H' hy=>?_⟩
  obtain⟨rfl,rfl⟩:=hy;rw[show k-i=(k-(i+1))+1 by grind] at sM;obtain⟨y,ys,u,r1,r2,r3⟩:=GB sM;obtain⟨m,r,d1,d2,d3,rfl,rfl⟩:=Nv r1;obtain⟨a1,rfl,a3⟩:=OC d1;obtain⟨n,rfl⟩:=p9 d2;rw[fG] at r2 r3 d3;rw[lu] at d3;rw[vM] at r2;simp only[bJ,fO,fF,fE,zg];unfold RM;obtain⟨ws,n0,as,w1,w2,w3,w4⟩:=w
  tm_at "r"
  refine⟨_,_,.inl (hs _ ws),a1,?_⟩;simp only[wR,w1,true_and];refine⟨_,hs _ ws,λP hP=>?_⟩;have e1:((q':Nat):Int)+1=((q'+1:Nat):Int):=by simp
  have e2:((q'+1:Nat):Int)+((n:Nat):Int)=((q'+1+n:Nat):Int):=by simp
  rw[e1,e2,NG,show q'+1+n-(q'+1)=n by simp];have nP:N≠P:=λz=>by rw[z] at w1;rw[w1] at hP;cases hP
  have hNP:(upd H' P (.lst (((l.drop (q'+1)).take n).map V.int))) N=some (.lst (as.map V.ref)):=by rw[aI nP];exact w1
  simp only[kg,hNP]
  have hxi:xs[i]?=some ((l.drop (q'+1)).take n):=by
   have:=congrArg (λz=>z[0]?) r3;simpa using this
  refine⟨by rw[aU];unfold sizeLine;lia,⟨ah.put (ah.upd ws hP) n0,n0,as++[P],?_,by simp[w2],?_,?_⟩,q'+1+n,_,_,rfl,by omega,?_⟩
  ·rw[au];simp
  ·rw[jO,Kf]
   exact λz=>z.elim w3 nP
  ·intro j b row hj fR
   by_cases c:j<as.length
   ·rw[Cm c] at hj
    have nb:b≠N:=λz=>w3 (z▸eO hj);have hb:=w4 j b row hj fR;have nb2:b≠P:=λz=>by rw[z] at hb;rw[hb] at hP;cases hP
    rw[aI nb,aI nb2];exact hb
   ·rw[Ci (by simp_all)] at hj
    have j0:j-as.length=0:=by
     have:=(dF.1 hj).1;simp at this;omega
    have ji:j=i:=by grind
    rw[j0] at hj;simp at hj;subst hj;rw[ji,hxi] at fR;cases fR;rw[aI (i9 nP),au]
  ·rw[r2]
   have:=congrArg (List.drop 1) r3;simp only[vM,To,Xf] at this;rw[this]
 ·have ei:i=k:=by lia
  subst ei;refine .inl ⟨aY _,?_⟩;obtain⟨ws,n0,as,w1,w2,w3,w4⟩:=w;rw[E2] at sM;simp only[jV,Option.some.injEq,Yc] at sM;obtain⟨_,rfl⟩:=sM
  tm_at "r"
  refine⟨by simp[sizeLine],λT hT=>?_⟩;have sT:=ah.upd (o:=.tup [.ref N,.int (q':Nat)]) ws hT;refine h _ T N sT (by rw[au,lu,show l.length-(l.length-q')=q' by lia]) ⟨as,(ah.new hT) _ _ w1,by simp[*],λj b row hj fR=>(ah.new hT) _ _ (w4 j b row hj fR)⟩ (none_of ws hT) n0
theorem NH{K:aD}{H H':Hp}{a:Addr}(h:aG K H a xs)(s:ah H H'):aG K H' a xs:=by
 rcases h with(h|⟨o,h⟩)|h
 ·exact .inl (.inl (s _ _ h))
 ·exact .inl (.inr ⟨o,s _ _ h⟩)
 ·exact .inr h
theorem ahv(H:Hp)(N:Addr):ah (off H N) H:=λb o hb=>by
 by_cases e:b=N
 ·simp[off,e] at hb
 ·rw[off_ne e] at hb;exact hb
theorem OD:off (upd H N o) N=off H N:=by
 funext b
 by_cases e:b=N
 ·simp[off,e]
 ·rw[off_ne e,off_ne e,aI e]
structure Iv(p:Pa):Prop where
 cd:∀(i:Int)(n k:Nat),iZ i=some (n,k)->∃(t:Addr)(j:Nat),p.gd 1 i=some (.ref t)/\(∀H,aP p.K H t [.ref (p.fa j),.int (n:Nat),.int (k:Nat)])/\j<115/\spT p j=f6 p i
theorem afR(h:iZ i=some (n,k)):k<=11/\n<=3:=by
 have hi:=zw h;rcases(by lia:i=1\/i=2\/i=3\/i=4\/i=5\/i=6\/i=7\/i=8\/i=9\/i=10\/i=11\/i=12\/i=13\/i=14\/i=15\/i=16\/i=17\/i=18) with rfl|rfl|rfl|rfl|rfl|rfl|rfl|rfl|rfl|rfl|rfl|rfl|rfl|rfl|rfl|rfl|rfl|rfl
 all_goals (rw[show iZ _=_ from rfl] at h;cases h;decide)
noncomputable def JR:Ss:=(.cons (.set 4 (.sy 1 (.fX (.var 0) (.var 3)))) (.cons (.set 5 (.fX (.var 4) (.cst (.int (0))))) (.cons (.set 6 (.ay .add (.ay .add (.var 3) (.cst (.int (1)))) (.fX (.var 4) (.cst (.int (1)))))) (.cons (.set 7 (.qY (.var 0) (.some (.ay .add (.var 3) (.cst (.int (1))))) (.some (.var 6)))) (.cons (.set 8 (.call 114 (.cons (.var 0) (.cons (.var 6) (.cons (.fX (.var 4) (.cst (.int (2)))) .nil))))) (.cons (.set 3 (.ix (.var 8) (.cst (.int (1))))) (.cons (.set 9 (.pA (.var 5) (.cons (.var 1) (.cons (.var 7) (.cons (.ix (.var 8) (.cst (.int (0)))) .nil))))) (.cons (.ex (.app (.var 2) (.blt .len (.cons (.var 9) .nil)))) (.cons (.ex (.ext (.var 2) (.var 9))) .nil)))))))))
theorem aj7:GN=(.cons (.set 1 (.make 3 .nil)) (.cons (.set 2 (.lst .nil)) (.cons (.set 3 (.cst (.int (0)))) (.cons (.yk (.cmp (.var 3) (.one .lt (.xN (.var 0)))) JR) (.cons (.ret (.var 2)) .nil))))):=rfl
theorem afS{E:Ends}{H0:Hp}{a c N:Addr}{l acc:List Int}{s:gI}{q n k:Nat}{i:Int}{xs:List (List Int)}{t:List Int}(cd:Iv p)(s0:ah H0 H)(c0:H0 c=none)(N0:H0 N=none)(hs:aG p.K H0 a (l.map V.int))(hl:l.length<=16000)(RO:bS p (off H N) c s)(hN:H N=some (.lst (acc.map V.int)))(avp:acc.length<=1300000)(hi:cF (l.map V.int) (q:Int)=some (.int i))(JS:iZ i=some (n,k))(hq:q+1+n<=l.length)(hr:jV k (l.drop (q+1+n))=some (xs,t))(ha:CM ((i::(l.drop (q+1)).take n)::xs)=true)(h:∀H' z4 z5 z6 z7 z8 z9,ah H0 H'->bS p (off H' N) c (bD s ((i::(l.drop (q+1)).take n)::xs)).1->(bD s ((i::(l.drop (q+1)).take n)::xs)).2.length<=3000->H' N=some (.lst ((acc++(((bD s ((i::(l.drop (q+1)).take n)::xs)).2.length:Nat):Int)::(bD s ((i::(l.drop (q+1)).take n)::xs)).2).map V.int))->
 E.nx [some (.ref a),some (.ref c),some (.ref N),some (.int ((l.length-t.length:Nat):Int)),z4,z5,z6,z7,z8,z9] H'):
 ak (G p 115 4) JR E [some (.ref a),some (.ref c),some (.ref N),some (.int (q:Nat)),z4,z5,z6,z7,z8,z9] H:=by
 have hc:bS p H c s:=RO.same (ahv H N);obtain⟨T,j,d1,d2,d3,d4⟩:=cd.cd i n k JS;have ss:∀H',ah H0 H'->aG p.K H' a (l.map V.int):=λH' z=>NH hs z;have e1:((q:Nat):Int)+1=((q+1:Nat):Int):=by simp
 have e2:((q+1:Nat):Int)+((n:Nat):Int)=((q+1+n:Nat):Int):=by simp
 unfold JR;simp only[ak,sS,sE,dG,fC,G,fF,fE,sO,tG,tH,bz,Mini.jH,cond_false,wR];refine⟨_,_,.inl (ss _ s0),hi,?_⟩;simp only[d1];refine⟨_,_,.inr (d2 _),d8,_,_,.inr (d2 _),iA,?_⟩;simp only[wR,e1,e2];refine⟨_,ss _ s0,λnu hnu=>?_⟩;rw[NG,show q+1+n-(q+1)=n by simp];have s1:ah H (upd H nu (.lst (((l.drop (q+1)).take n).map V.int))):=ah.new hnu;have QD:(upd H nu (.lst (((l.drop (q+1)).take n).map V.int))) nu=some (.lst (((l.drop (q+1)).take n).map V.int)):=au;generalize upd H nu (.lst (((l.drop (q+1)).take n).map V.int))=H1 at s1 QD;have t1:=s0.trans s1;refine⟨_,_,.inr (d2 _),at2,?_⟩;rw[show spT p 114=Lj p from rfl];refine⟨a,l,q+1+n,k,xs,t,rfl,ss _ t1,λH' z=>ss _ (t1.trans z),hl,(afR JS).1,hr,hq,λH2 R ro s2 hR hro y y=>?_⟩;have t2:=t1.trans s2;simp only[aO hR,d8,iA];refine⟨j,rfl,d3,?_⟩;rw[d4];refine⟨c,s,nu,(l.drop (q+1)).take n,ro,xs,rfl,(hc.same s1).same s2,s2 _ _ QD,hro,⟨ha,by rw[JS,zK hr,vD,lu,vH (by omega)]⟩,λH3 D b3 c3 o3 hD lD nD n2=>?_⟩
 have nN:N≠c:=λz=>by
  obtain⟨_,_,_,_,w,_⟩:=hc;rw[z,w] at hN;cases hN
 have hN3:H3 N=some (.lst (acc.map V.int)):=b3 _ _ nN ((s1.trans s2) _ _ hN);have t3:ah H0 H3:=λb o hb=>b3 _ _ (λz=>by rw[z,c0] at hb;cases hb) (t2 _ _ hb)
 have yy:D≠N:=λz=>by
  rw[z] at n2;rw[(s1.trans s2) _ _ hN] at n2;cases n2
 simp only[hN3,true_and,lU hD,kg,aU];refine⟨by unfold sizeLine;lia,?_⟩;simp only[au,true_and,pN,aI yy,(show H3 D=some (.lst ((bD s ((i::(l.drop (q+1)).take n)::xs)).2.map V.int)) from hD),qM,jq,aU,ck,eT];refine⟨by unfold sizeLine;lia,?_⟩;refine h _ _ _ _ _ _ _ (ah.put t3 N0) ?_ lD ?_
 ·rw[OD]
  exact o3 N _ ((s1.trans s2) _ _ hN) ((RO.same (mY s1)).same (mY s2))
 ·rw[au];simp
theorem LG:∀{k:Nat}{s:List Int}{xs:List (List Int)}{t:List Int},jV k s=some (xs,t)->∃m,t=s.drop m
 |0,s,xs,t,h=>by cases h;exact⟨0,rfl⟩
 |k+1,s,xs,t,h=>by
  obtain⟨x,ys,u,h1,h2,_⟩:=GB h;obtain⟨m,r,rfl,_,_,_,rfl⟩:=Nv h1;obtain⟨m',rfl⟩:=LG h2;exact⟨(m.toNat+m')+1,by simp[vM]⟩
theorem aem{l t:List Int}(h:t=l.drop m):t=l.drop (l.length-t.length):=by
 subst h
 by_cases c:m<=l.length
 ·rw[lu,show l.length-(l.length-m)=m by omega]
 ·rw[J0 (by lia)];simp
theorem aen(h:Ct l=true):∃cs,lG iZ l.length l=some cs/\cs.length<=400/\(∀c∈cs,CM c=true)/\yS l=FN (EG bD aoz cs):=by
 unfold Ct yS at*;rw[ad6] at*;cases e:lG iZ l.length l with
 |none=>rw[e] at h;cases h
 |some cs=>
  rw[e] at h;simp only[bx,PyFlat.atMost,aoA,decide_eq_true_iff,fc] at h;exact⟨cs,rfl,h.1,h.2.1,rfl⟩
def RP(p:Pa)(H0:Hp)(a c N:Addr)(l:List Int)(m:Nat)(σ:L2.St)(H:Hp):Prop:=∃(q f:Nat)(cs:List (List (List Int)))(s:gI)(acc:List Int)(z4 z5 z6 z7 z8 z9:Option V),
 m=cs.length/\σ=[some (.ref a),some (.ref c),some (.ref N),some (.int (q:Nat)),z4,z5,z6,z7,z8,z9]/\ah H0 H/\bS p (off H N) c s/\H N=some (.lst (acc.map V.int))/\acc.length+3001*cs.length<=1200400/\q<=l.length/\lG iZ f (l.drop q)=some cs/\(∀c∈cs,CM c=true)/\acc++FN (EG bD s cs)=yS l
theorem acL(cd:Iv p)(hs:aG p.K H a (l.map V.int))(hl:l.length<=16000)(ha:Ct l=true)(h:∀H' D,bh H' D (yS l)->Q (.ref D) H'):ak (G p 115 4) GN (fin Q) [some (.ref a),none,none,none,none,none,none,none,none,none] H:=by
 obtain⟨cs,a1,a2,a3,a4⟩:=aen ha;rw[aj7];tm_at "r";intro c dx hc nW ne;refine⟨c,dx,rfl,au,λH1 k1 ki=>?_⟩;have s1:ah H H1:=λb o hb=>k1 b o (bV hb hc) (by rw[aI (bV hb hc),aI (bV hb nW)];exact hb);refine⟨trivial,sz (by simp),λN hN=>?_⟩;have s2:ah H1 (upd H1 N (.lst [])):=ah.new hN;have N0:=none_of s1 hN;refine⟨RP p H a c N l,⟨cs.length,0,l.length,cs,FJ,[],none,none,none,none,none,none,rfl,rfl,s1.trans s2,?_,au,by simp;lia,dH _,a1,a3,a4.symm⟩,?_⟩
 ·rw[OD]
  refine ki.same λb o hb=>?_;rw[off_ne (bV hb hN)];exact hb
 rintro m σ H2 ⟨q,f,cs,s,acc,z4,z5,z6,z7,z8,z9,rfl,rfl,w1,w2,w3,w4,w5,w6,w7,w8⟩;simp only[dG,fC];refine⟨_,.inl (NH hs w1),?_⟩;simp only[Pz,lX,aU]
 by_cases c1:q<l.length
 ·have d1:decide (((q:Nat):Int)<((l.length:Nat):Int))=true:=by simp;exact c1
  simp only[d1,if_true];obtain⟨e1,_,_⟩:=OC (yH c1);rw[yH c1] at w6;obtain⟨g,n,k,xs,t,nU,rfl,x1,x2,x3,rfl,x5⟩:=LW w6;rw[lu] at x2;rw[vM] at x3
  have aj8:∃m,t=l.drop m:=by
   obtain⟨m,rfl⟩:=LG x3;exact⟨q+1+n+m,by rw[vM]⟩
  obtain⟨m,hm⟩:=aj8;refine⟨λaF H'=>RP p H a c N l nU.length aF H',λaF H' z=>⟨nU.length,by simp,z⟩,?_⟩;refine afS cd w1 hc N0 hs hl w2 w3 (by lia) e1 x1 (by omega) x3 (w7 _ (by simp)) λH3 y4 y5 y6 y7 y8 y9 v1 v2 v3 v4=>?_;refine⟨l.length-t.length,g,nU,_,_,y4,y5,y6,y7,y8,y9,rfl,rfl,v1,v2,v4,?_,by simp,by rw[←aem hm];exact x5,λc hc=>w7 c (by simp[hc]),?_⟩
  ·simp only[jq,ck] at w4 ⊢
   lia
  ·rw[←w8]
   simp only[EG,FN,C6,C2,qe]
 ·have d1:decide (((q:Nat):Int)<((l.length:Nat):Int))=false:=by simp;simp_all
  simp only[d1,aL,if_false];rw[J0 (by lia)] at w6;have:=MK w6;subst this;refine h H2 N ?_;rw[←w8];simpa[EG,FN,bh] using w3
end
end Cd
namespace Cd
open PySem PySem.W PyProof.Rows L2 Mini
noncomputable def vt:List Addr:=44::51::58::65::72::79::86::93::100::107::114::121::128::135::142::149::184::191::198::203::210::217::393::224::229::234::249::256::263::270::277::282::289::294::301::308::313::320::348::353::360::367::374::381::388::393::400::407::412::419::424::429::434::439::444::451::456::461::466::473::509::516::521::526::531::538::545::550::557::564::569::574::581::586::591::605::612::619::626::638::643::648::655::660::667::674::681::156::242::481::688::695::702::709::716::723::730::737::744::751::758::763::770::777::784::789::796::803::810::817::824::829::836::843::870::877::[]
noncomputable def gE:List Addr:=[33,173,337,498]
noncomputable def Cb:List Addr:=[15,16,235,474,592,593,627,628,629,630,631,844]
noncomputable def Iw:List (Addr×List V):=[(15,[.int 3,.int 5,.int 7,.int 10]),(16,[.int 0,.int 31,.int 59,.int 90,.int 120,.int 151,.int 181,.int 212,.int 243,.int 273,.int 304,.int 334,.int 365]),(235,[.ref 224,.ref 229,.ref 234]),(474,[.ref 393,.ref 400,.ref 407,.ref 412,.ref 419,.ref 424,.ref 429,.ref 434,.ref 439,.ref 444,.ref 451,.ref 456,.ref 461,.ref 466,.ref 473]),(592,[.int 2,.int 3,.int 5]),(594,[.int 1,.int 1]),(595,[.int 3,.int 25]),(596,[.int 3,.int 25]),(597,[.int 12,.int 25]),(598,[.int 9,.int 1]),(627,[.int 0,.int 0]),(628,[.int 1,.int 12]),(629,[.int 0,.int 6]),(630,[.int 1,.int 2000]),(631,[.int 1,.int 19]),(845,[.ref 702,.int 3,.int 0]),(846,[.ref 709,.int 1,.int 0]),(847,[.ref 716,.int 1,.int 0]),(848,[.ref 723,.int 1,.int 0]),(849,[.ref 730,.int 0,.int 11]),(850,[.ref 737,.int 2,.int 0]),(851,[.ref 744,.int 2,.int 0]),(852,[.ref 751,.int 2,.int 0]),(853,[.ref 758,.int 1,.int 1]),(854,[.ref 784,.int 0,.int 1]),(855,[.ref 789,.int 0,.int 1]),(856,[.ref 796,.int 1,.int 1]),(857,[.ref 803,.int 2,.int 0]),(858,[.ref 810,.int 2,.int 0]),(859,[.ref 817,.int 2,.int 0]),(860,[.ref 824,.int 1,.int 1]),(861,[.ref 836,.int 0,.int 1]),(863,[.ref 843,.int 0,.int 1])]
noncomputable def QE:List (Int×Addr):=[(0,594),(1,595),(2,596),(3,597),(5,598)]
noncomputable def PR:List (Int×Addr):=[(1,845),(2,846),(3,847),(4,848),(5,849),(6,850),(7,851),(8,852),(9,853),(10,854),(11,855),(12,856),(13,857),(14,858),(15,859),(16,860),(17,861),(18,863)]
noncomputable def A_:List V->List Value->Bool
 |[],[]=>true
 | .int i::xs,.int j _::us=>decide (i=j)&&A_ xs us
 | .ref a::xs,.ref b::us=>OP a b&&A_ xs us
 |_,_=>false
theorem HE:∀{xs:List V}{us:List Value},A_ xs us=true->Vals xs us
 |[],[],_=>.nil
 | .int i::xs,.int j _::us,h=>by
   have h:=nY.1 h;exact .cons ⟨_,by rw[of_decide_eq_true h.1]⟩ (HE h.2)
 | .ref a::xs,.ref b::us,h=>by
   have h:=nY.1 h;have e:a=b:=J3 h.1;exact .cons (by rw[e];rfl) (HE h.2)
noncomputable def Ba(K:aD)(a:Addr)(xs:List V):Bool:=match K.lookup a with
 |some ⟨.type n,_,.seq its _,_⟩=>decide (n="tuple")&&(Nat.ble its.size 1000&&A_ xs its.toList)
 |_=>false
set_option tactic.hygienic true in
theorem OE{K:aD}{a:Addr}(h:Ba K a xs=true)(H:Hp):aP K H a xs:=by
 unfold Ba at h;split at h
 ·rename_i n dd its z sl e
  simp only[bx,decide_eq_true_iff] at h;obtain⟨h1,h2,h3⟩:=h;subst h1;have h2:=Nat.le_of_ble_eq_true h2;exact .inr ⟨_,its,z,e,rfl,rfl,by unfold sizeLine;lia,HE h3⟩
 ·cases h
noncomputable def Bb:List zN->List (Int×Addr)->Bool
 |[],[]=>true
 |e::es,k::ks=>tN k.1 e.key&&(decide (e.hash=hashInt k.1)&&((match e.val with| .ref b=>OP b k.2|_=>false)&&Bb es ks))
 |_,_=>false
noncomputable def Bc(K:aD)(a:Addr)(kv:List (Int×Addr)):Bool:=match K.lookup a with
 |some ⟨.type n,none,.dict es _,sl⟩=>decide (n="dict")&&(OP sl.size 0&&Bb es.toList kv)
 |_=>false
theorem MR:∀{es:List zN}{kv:List (Int×Addr)},Bb es kv=true->∀e∈es,∃k,tN k e.key=true/\e.hash=hashInt k
 |[],_,_,e,h=>by cases h
 |x::es,k::ks,h,e,he=>by
  change (_&&(_&&(_&&_)))=true at h;simp only[bx,decide_eq_true_iff] at h;cases he with
  |head=>exact⟨k.1,h.1,h.2.1⟩
  |tail _ he=>exact MR h.2.2.2 e he
set_option tactic.hygienic true in
theorem MS:∀{es:List zN}{kv:List (Int×Addr)},Bb es kv=true->∀(i:Int)(b:Addr),kv.lookup i=some b->∃e,es.find? (λe=>tN i e.key)=some e/\e.val=.ref b
 |[],[],_,i,b,h=>by cases h
 |x::es,k::ks,h,i,b,hb=>by
  change (_&&(_&&(_&&_)))=true at h;simp only[bx,decide_eq_true_iff] at h;rw[lq] at hb
  by_cases c:i=k.1
  ·subst c
   simp only[beq_self_eq_true] at hb;refine⟨x,by rw[iD,h.1],?_⟩;have h3:=h.2.2.1;split at h3
   ·rename_i b' e
    have:=J3 h3;cases hb;rw[e,this]
   ·cases h3
  ·have c2:(i==k.1)=false:=by simpa using c
   rw[c2] at hb
   have nx:tN i x.key=false:=by
    cases z:tN i x.key with
    |false=>rfl
    |true=>exact absurd (Value.isInt_inj _ _ _ z h.1) c
   obtain⟨e,e1,e2⟩:=MS h.2.2.2 i b hb;exact⟨e,by rw[iD,nx];exact e1,e2⟩
set_option tactic.hygienic true in
theorem OG{P:bL}{w:aR}{K:aD}{a:Addr}(h:Bc K a kv=true):AH P w K a λi=>(kv.lookup i).map V.ref:=by
 unfold Bc at h;split at h
 ·rename_i n es z sl e
  simp only[bx,decide_eq_true_iff] at h;obtain⟨h1,h2,h3⟩:=h;subst h1;have h2:sl=#[]:=Array.eq_empty_of_size_eq_zero (J3 h2);subst h2;refine⟨_,es,z,e,⟨rfl,rfl,rfl⟩,rfl,λx hx=>MR h3 x (SX.2 hx),λi v hv=>?_⟩;rw[mO] at hv;obtain⟨b,hb,rfl⟩:=hv;obtain⟨x,x1,x2⟩:=MS h3 i b hb;refine⟨.ref b,?_,rfl⟩;unfold findBy;rw[←TL];show lJ _ (es.toList.find? λe=>tN i e.key)=_;rw[x1,←x2];rfl
 ·cases h
noncomputable def QF(K:aD)(x:Str×V):Bool:=match rS K dm x.1 with
 |some (some (.int i _))=>(match x.2 with| .int j=>decide (i=j)|_=>false)
 |_=>false
theorem ahw{K:aD}{x qual:Str}{st:dQ}{f:Addr}{oc:Value}{od an:Option Addr}{kV doc pm cM ct:Value}(l:K.lookup f=some ⟨oc,od,.func (qt x qual (ud st) (lR st) (iI st) .none kV doc pm an cM ct),nI⟩)(c:Ei K cM qual=true)(k:lA K (.ref f)=true):∃fd,L2.jh K x qual st f fd:=⟨_,L2.agN l c k⟩
theorem filled(P:aq):RR=RR/\KA P=KA P:=by k_fillS;exact⟨rfl,rfl⟩
theorem Pe(P:aq):fns.map (rS (KA P) dm)=vt.map λa=>some (some (.ref a)):=by kernel_rfl
theorem afT(P:aq):rP.map (rS (KA P) dm)=gE.map λa=>some (some (.ref a)):=by kernel_rfl
theorem Ab(P:aq):rB.map (rS (KA P) dm)=Cb.map λa=>some (some (.ref a)):=by kernel_rfl
theorem ahx(P:aq):zS.map (rS (KA P) dm)=zS.map λz=>some none:=by kernel_rfl
theorem ahy(P:aq):consts.all (QF (KA P))=true:=by kernel_rfl
theorem aiT(P:aq):Iw.all (λx=>Ba (KA P) x.1 x.2)=true:=by kernel_rfl
theorem aiU(P:aq):Bc (KA P) 593 QE=true:=by kernel_rfl
theorem afU(P:aq):Bc (KA P) 844 PR=true:=by kernel_rfl
theorem k_cls(P:aq):gE.all (λC=>Dm (KA P) C Str.empty&&(C0 (KA P) C&&(Ko (KA P) C&&(DI (KA P) C&&lA (KA P) (.ref C)))))=true:=by kernel_rfl
theorem aj9(P:aq):gE.map (λC=>jr (KA P) (.ref C) "__setattr__")=gE.map λz=>some (some (.builtin "object.__setattr__")):=by kernel_rfl
theorem AL(P:aq):gE.map (λC=>jr (KA P) (.ref C) "__init__")=[30,170,334,495].map λa=>some (some (.ref a)):=by kernel_rfl
theorem Aw(P:aq):[30,170,334,495].all (λf=>isFn (KA P) (.ref f))=true:=by kernel_rfl
theorem aj_(P:aq):gE.map (λC=>fieldNames.map (jr (KA P) (.ref C)))=gE.map λz=>fieldNames.map λz=>some none:=by kernel_rfl
abbrev FU(P:aq)(x:Str)(i a:Nat):Prop:=∃fd,L2.jh (KA P) x x (top i) a fd
set_option hygiene false in
local macro_rules|`(tactic|tm_at "F")=>`(tactic|(apply ahw;k_is;k_is;k_is))
theorem acM(P:aq):FU P "is_year" 12 44:=by tm_at "F"
theorem aeo(P:aq):FU P "is_day" 13 51:=by tm_at "F"
theorem acN(P:aq):FU P "is_span" 14 58:=by tm_at "F"
theorem acO(P:aq):FU P "is_leap" 15 65:=by tm_at "F"
theorem S_(P:aq):FU P "days_before_month" 16 72:=by tm_at "F"
theorem WM(P:aq):FU P "month_length" 17 79:=by tm_at "F"
theorem YL(P:aq):FU P "year_start" 18 86:=by tm_at "F"
theorem YM(P:aq):FU P "day_number" 19 93:=by tm_at "F"
theorem acP(P:aq):FU P "is_date" 20 100:=by tm_at "F"
theorem acQ(P:aq):FU P "date_of" 21 107:=by tm_at "F"
theorem YN(P:aq):FU P "weekday_of" 22 114:=by tm_at "F"
theorem Z2(P:aq):FU P "easter_of" 23 121:=by tm_at "F"
theorem Z3(P:aq):FU P "is_easter" 24 128:=by tm_at "F"
theorem Ud(P:aq):FU P "first_sunday_of" 25 135:=by tm_at "F"
theorem abi(P:aq):FU P "roman_of" 26 142:=by tm_at "F"
theorem abj(P:aq):FU P "first_of" 28 149:=by tm_at "F"
theorem WN(P:aq):FU P "first_day_of" 36 184:=by tm_at "F"
theorem XJ(P:aq):FU P "last_day_of" 37 191:=by tm_at "F"
theorem acR(P:aq):FU P "days_of" 38 198:=by tm_at "F"
theorem abk(P:aq):FU P "dates_of" 39 203:=by tm_at "F"
theorem Z4(P:aq):FU P "are_years" 40 210:=by tm_at "F"
theorem abl(P:aq):FU P "is_feast" 41 217:=by tm_at "F"
theorem UQ(P:aq):FU P "rule_of_counts" 86 393:=by tm_at "F"
theorem Sf(P:aq):FU P "rule_of_counts" 42 224:=by tm_at "F"
theorem UR(P:aq):FU P "rule_of_feasts" 44 229:=by tm_at "F"
theorem US(P:aq):FU P "rule_of_reigns" 45 234:=by tm_at "F"
theorem Z5(P:aq):FU P "feast_day" 48 249:=by tm_at "F"
theorem WO(P:aq):FU P "is_feast_day" 49 256:=by tm_at "F"
theorem Z6(P:aq):FU P "return_of" 50 263:=by tm_at "F"
theorem YO(P:aq):FU P "reign_year" 51 270:=by tm_at "F"
theorem XM(P:aq):FU P "split_names" 59 277:=by tm_at "F"
theorem Z7(P:aq):FU P "number_of" 60 282:=by tm_at "F"
theorem Tc(P:aq):FU P "is_length_of_name" 61 289:=by tm_at "F"
theorem Z8(P:aq):FU P "are_small" 62 294:=by tm_at "F"
theorem VL(P:aq):FU P "is_small_name" 63 301:=by tm_at "F"
theorem Ue(P:aq):FU P "is_capital_name" 64 308:=by tm_at "F"
theorem Z9(P:aq):FU P "way_table" 67 313:=by tm_at "F"
theorem YQ(P:aq):FU P "ride_table" 68 320:=by tm_at "F"
theorem WQ(P:aq):FU P "empty_ledger" 79 348:=by tm_at "F"
theorem acS(P:aq):FU P "repeats" 80 353:=by tm_at "F"
theorem acT(P:aq):FU P "is_hold" 81 360:=by tm_at "F"
theorem UT(P:aq):FU P "is_within_life" 82 367:=by tm_at "F"
theorem UU(P:aq):FU P "holds_together" 83 374:=by tm_at "F"
theorem aep(P:aq):FU P "is_way" 84 381:=by tm_at "F"
theorem XN(P:aq):FU P "leads_alike" 85 388:=by tm_at "F"
theorem Sk(P:aq):FU P "rule_of_counts" 86 393:=by tm_at "F"
theorem Ug(P:aq):FU P "rule_of_persons" 88 400:=by tm_at "F"
theorem R3(P:aq):FU P "rule_of_repeated_persons" 89 407:=by tm_at "F"
theorem Uh(P:aq):FU P "rule_of_offices" 90 412:=by tm_at "F"
theorem R4(P:aq):FU P "rule_of_repeated_offices" 91 419:=by tm_at "F"
theorem VM(P:aq):FU P "rule_of_holds" 92 424:=by tm_at "F"
theorem VN(P:aq):FU P "rule_of_lives" 93 429:=by tm_at "F"
theorem SR(P:aq):FU P "rule_of_one_holder" 94 434:=by tm_at "F"
theorem VO(P:aq):FU P "rule_of_seals" 95 439:=by tm_at "F"
theorem UW(P:aq):FU P "rule_of_places" 96 444:=by tm_at "F"
theorem Sb(P:aq):FU P "rule_of_repeated_places" 97 451:=by tm_at "F"
theorem WR(P:aq):FU P "rule_of_ways" 98 456:=by tm_at "F"
theorem VP(P:aq):FU P "rule_of_seens" 99 461:=by tm_at "F"
theorem VQ(P:aq):FU P "rule_of_order" 100 466:=by tm_at "F"
theorem VR(P:aq):FU P "rule_of_rides" 101 473:=by tm_at "F"
theorem UX(P:aq):FU P "is_right_claim" 112 509:=by tm_at "F"
theorem UY(P:aq):FU P "stays_of_court" 113 516:=by tm_at "F"
theorem UZ(P:aq):FU P "spans_of_claim" 114 521:=by tm_at "F"
theorem VS(P:aq):FU P "can_have_been" 115 526:=by tm_at "F"
theorem XO(P:aq):FU P "set_of_days" 117 531:=by tm_at "F"
theorem XQ(P:aq):FU P "set_of_span" 118 538:=by tm_at "F"
theorem WS(P:aq):FU P "set_of_spans" 119 545:=by tm_at "F"
theorem XR(P:aq):FU P "common_days" 120 550:=by tm_at "F"
theorem abm(P:aq):FU P "spans_of" 121 557:=by tm_at "F"
theorem Z_(P:aq):FU P "least_set" 122 564:=by tm_at "F"
theorem aac(P:aq):FU P "in_groups" 124 569:=by tm_at "F"
theorem afV(P:aq):FU P "is_by" 125 574:=by tm_at "F"
theorem YR(P:aq):FU P "is_held_on" 127 581:=by tm_at "F"
theorem aad(P:aq):FU P "holder_on" 128 586:=by tm_at "F"
theorem YS(P:aq):FU P "highest_on" 129 591:=by tm_at "F"
theorem abn(P:aq):FU P "is_style" 137 605:=by tm_at "F"
theorem acU(P:aq):FU P "turn_of" 138 612:=by tm_at "F"
theorem YT(P:aq):FU P "style_year" 139 619:=by tm_at "F"
theorem WT(P:aq):FU P "indiction_of" 140 626:=by tm_at "F"
theorem aae(P:aq):FU P "bounds_of" 149 638:=by tm_at "F"
theorem VT(P:aq):FU P "is_right_mark" 150 643:=by tm_at "F"
theorem Ui(P:aq):FU P "is_beside_feast" 151 648:=by tm_at "F"
theorem abo(P:aq):FU P "has_mark" 152 655:=by tm_at "F"
theorem aaf(P:aq):FU P "days_with" 153 660:=by tm_at "F"
theorem abp(P:aq):FU P "are_rows" 166 667:=by tm_at "F"
theorem YU(P:aq):FU P "daybook_of" 167 674:=by tm_at "F"
theorem aag(P:aq):FU P "ledger_of" 168 681:=by tm_at "F"
theorem WU(P:aq):FU P "first_broken" 29 156:=by tm_at "F"
theorem SD(P:aq):FU P "broken_daybook_rule" 47 242:=by tm_at "F"
theorem SS(P:aq):FU P "broken_ledger_rule" 103 481:=by tm_at "F"
theorem aeq(P:aq):FU P "settle" 169 688:=by tm_at "F"
theorem WV(P:aq):FU P "is_number_in" 172 695:=by tm_at "F"
theorem YV(P:aq):FU P "answer_day" 173 702:=by tm_at "F"
theorem XS(P:aq):FU P "answer_tell" 174 709:=by tm_at "F"
theorem VU(P:aq):FU P "answer_easter" 175 716:=by tm_at "F"
theorem WW(P:aq):FU P "answer_roman" 176 723:=by tm_at "F"
theorem YW(P:aq):FU P "answer_set" 177 730:=by tm_at "F"
theorem WX(P:aq):FU P "answer_feast" 178 737:=by tm_at "F"
theorem XT(P:aq):FU P "answer_year" 179 744:=by tm_at "F"
theorem WY(P:aq):FU P "answer_style" 180 751:=by tm_at "F"
theorem YX(P:aq):FU P "answer_has" 181 758:=by tm_at "F"
theorem Td(P:aq):FU P "refusal_of_things" 182 763:=by tm_at "F"
theorem Tz(P:aq):FU P "refusal_of_marks" 183 770:=by tm_at "F"
theorem Te(P:aq):FU P "refusal_of_claims" 184 777:=by tm_at "F"
theorem WZ(P:aq):FU P "answer_means" 185 784:=by tm_at "F"
theorem W0(P:aq):FU P "answer_clash" 186 789:=by tm_at "F"
theorem XU(P:aq):FU P "answer_find" 187 796:=by tm_at "F"
theorem VV(P:aq):FU P "answer_holder" 188 803:=by tm_at "F"
theorem U0(P:aq):FU P "answer_highest" 189 810:=by tm_at "F"
theorem XW(P:aq):FU P "answer_ride" 190 817:=by tm_at "F"
theorem YY(P:aq):FU P "answer_can" 191 824:=by tm_at "F"
theorem U1(P:aq):FU P "sets_of_claims" 192 829:=by tm_at "F"
theorem W2(P:aq):FU P "answer_spans" 193 836:=by tm_at "F"
theorem VW(P:aq):FU P "answer_barred" 194 843:=by tm_at "F"
theorem aah(P:aq):FU P "read_rows" 196 870:=by tm_at "F"
theorem acV(P:aq):FU P "answers" 197 877:=by tm_at "F"
theorem aai(P:aq):∃fd,L2.jh (KA P) "__init__" "Date.__init__" (inClass (top 11) 0) 30 fd:=by tm_at "F"
theorem W3(P:aq):∃fd,L2.jh (KA P) "__init__" "Daybook.__init__" (inClass (top 35) 0) 170 fd:=by tm_at "F"
theorem XX(P:aq):∃fd,L2.jh (KA P) "__init__" "Ledger.__init__" (inClass (top 78) 0) 334 fd:=by tm_at "F"
theorem VX(P:aq):∃fd,L2.jh (KA P) "__init__" "Chancery.__init__" (inClass (top 105) 0) 495 fd:=by tm_at "F"
end Cd
namespace Cd
open PySem PySem.W PyProof.Rows L2 Mini
section
noncomputable def e9(P:aq):Pa:=⟨KA P,λj=>.ref (Cb.getD j 0),λj=>vt.getD j 0,λj=>gE.getD j 0,λj i=>(([QE,PR].getD j []).lookup i).map V.ref⟩
theorem c8(P:aq)(h:Iw.lookup a=some xs)(H:Hp):aP (KA P) H a xs:=by
 have m:(a,xs)∈Iw:=by
  have:∀(l:List (Addr×List V)),l.lookup a=some xs->(a,xs)∈l:=by
   intro l
   induction l with
   |nil=>intro h;cases h
   |cons y l ih=>
    intro h;obtain⟨b,z⟩:=y;rw[lq] at h;split at h
    ·rename_i e
     have e:a=b:=by simpa using e
     cases h;rw[e];exact .head _
    ·exact .tail _ (ih h)
  exact this _ h
 exact OE (fc.mp (aiT P) _ m) H
theorem kQ{α β γ:Type}{f:α->γ}{g:β->γ}{l:List α}{m:List β}(h:l.map f=m.map g){i:Nat}{x:α}(hx:l[i]?=some x):∃y,m[i]?=some y/\f x=g y:=by
 have:=congrArg (λz=>z[i]?) h;simp only[eS,hx,kH] at this;cases e:m[i]? with
 |none=>rw[e] at this;cases this
 |some y=>rw[e] at this;exact⟨y,rfl,dM this⟩
theorem Al{α:Type}{l:List α}{y d:α}(h:l[i]?=some y):l.getD i d=y:=by rw[nX,h];rfl
theorem wZ(P:aq)(h:C∈gE):mw (KA P) C/\DI (KA P) C=true/\lA (KA P) (.ref C)=true:=by
 have h1:=fc.mp (k_cls P) C h;have h2:=qL (aj9 P) C h;simp only[bx] at h1;exact⟨⟨h1.1,h1.2.1,h1.2.2.1,h2⟩,h1.2.2.2.1,h1.2.2.2.2⟩
theorem Pf(h:j<4):(e9 P).cl j∈gE:=by
 rcases(by lia:j=0\/j=1\/j=2\/j=3) with rfl|rfl|rfl|rfl
 all_goals (show _∈gE;simp[e9,gE])
theorem bq(P:aq):aK (e9 P) where
 cls:=λj hj=>(wZ P (Pf hj)).1
 na:=λj f hj hf=>qL (qL (aj_ P) _ (Pf hj)) f hf
 dr:=⟨235,rfl,λH=>c8 P (a:=235) rfl H⟩
 lr:=⟨474,rfl,λH=>c8 P (a:=474) rfl H⟩
 bd:=λj lo hi h=>by
  simp only[cH,Yc,yR,or_false] at h;rcases h with⟨rfl,rfl,rfl⟩|⟨rfl,rfl,rfl⟩|⟨rfl,rfl,rfl⟩|⟨rfl,rfl,rfl⟩|⟨rfl,rfl,rfl⟩
  ·exact⟨627,rfl,λH=>c8 P (a:=627) rfl H⟩
  ·exact⟨628,rfl,λH=>c8 P (a:=628) rfl H⟩
  ·exact⟨629,rfl,λH=>c8 P (a:=629) rfl H⟩
  ·exact⟨630,rfl,λH=>c8 P (a:=630) rfl H⟩
  ·exact⟨631,rfl,λH=>c8 P (a:=631) rfl H⟩
theorem aiV(P:aq):PF (e9 P) where
 ex:=λs hs=>by
  rcases(by lia:s=0\/s=1\/s=2\/s=3\/s=5) with rfl|rfl|rfl|rfl|rfl
  ·exact⟨594,1,1,rfl,λH=>c8 P (a:=594) rfl H,by decide,by decide,λy=>rfl⟩
  ·exact⟨595,3,25,rfl,λH=>c8 P (a:=595) rfl H,by decide,by decide,λy=>rfl⟩
  ·exact⟨596,3,25,rfl,λH=>c8 P (a:=596) rfl H,by decide,by decide,λy=>rfl⟩
  ·exact⟨597,12,25,rfl,λH=>c8 P (a:=597) rfl H,by decide,by decide,λy=>rfl⟩
  ·exact⟨598,9,1,rfl,λH=>c8 P (a:=598) rfl H,by decide,by decide,λy=>rfl⟩
theorem aka(P:aq):Iv (e9 P) where
 cd:=λi n k h=>by
  have hi:=zw h;rcases(by lia:i=1\/i=2\/i=3\/i=4\/i=5\/i=6\/i=7\/i=8\/i=9\/i=10\/i=11\/i=12\/i=13\/i=14\/i=15\/i=16\/i=17\/i=18) with rfl|rfl|rfl|rfl|rfl|rfl|rfl|rfl|rfl|rfl|rfl|rfl|rfl|rfl|rfl|rfl|rfl|rfl
  ·cases(show some _=some (n,k) from h);exact⟨845,92,rfl,λH=>c8 P (a:=845) rfl H,by decide,rfl⟩
  ·cases(show some _=some (n,k) from h);exact⟨846,93,rfl,λH=>c8 P (a:=846) rfl H,by decide,rfl⟩
  ·cases(show some _=some (n,k) from h);exact⟨847,94,rfl,λH=>c8 P (a:=847) rfl H,by decide,rfl⟩
  ·cases(show some _=some (n,k) from h);exact⟨848,95,rfl,λH=>c8 P (a:=848) rfl H,by decide,rfl⟩
  ·cases(show some _=some (n,k) from h);exact⟨849,96,rfl,λH=>c8 P (a:=849) rfl H,by decide,rfl⟩
  ·cases(show some _=some (n,k) from h);exact⟨850,97,rfl,λH=>c8 P (a:=850) rfl H,by decide,rfl⟩
  ·cases(show some _=some (n,k) from h);exact⟨851,98,rfl,λH=>c8 P (a:=851) rfl H,by decide,rfl⟩
  ·cases(show some _=some (n,k) from h);exact⟨852,99,rfl,λH=>c8 P (a:=852) rfl H,by decide,rfl⟩
  ·cases(show some _=some (n,k) from h);exact⟨853,100,rfl,λH=>c8 P (a:=853) rfl H,by decide,rfl⟩
  ·cases(show some _=some (n,k) from h);exact⟨854,104,rfl,λH=>c8 P (a:=854) rfl H,by decide,rfl⟩
  ·cases(show some _=some (n,k) from h);exact⟨855,105,rfl,λH=>c8 P (a:=855) rfl H,by decide,rfl⟩
  ·cases(show some _=some (n,k) from h);exact⟨856,106,rfl,λH=>c8 P (a:=856) rfl H,by decide,rfl⟩
  ·cases(show some _=some (n,k) from h);exact⟨857,107,rfl,λH=>c8 P (a:=857) rfl H,by decide,rfl⟩
  ·cases(show some _=some (n,k) from h);exact⟨858,108,rfl,λH=>c8 P (a:=858) rfl H,by decide,rfl⟩
  ·cases(show some _=some (n,k) from h);exact⟨859,109,rfl,λH=>c8 P (a:=859) rfl H,by decide,rfl⟩
  ·cases(show some _=some (n,k) from h);exact⟨860,110,rfl,λH=>c8 P (a:=860) rfl H,by decide,rfl⟩
  ·cases(show some _=some (n,k) from h);exact⟨861,112,rfl,λH=>c8 P (a:=861) rfl H,by decide,rfl⟩
  ·cases(show some _=some (n,k) from h);exact⟨863,113,rfl,λH=>c8 P (a:=863) rfl H,by decide,rfl⟩
def FA(w:aR)(mg:Str->Option Value)(base:aS)(j k:Nat):Prop:=∃(fd:gY)(ps:List Str),eF PP w (KA w.params) mg base iy k (vt.getD j 0) fd ps (spT (e9 w.params) j)/\lA (KA w.params) (.ref (vt.getD j 0))=true/\Binds (KA w.params) fd ps []
def CA(w:aR)(mg:Str->Option Value)(base:aS)(j k:Nat):Prop:=∃(f:Addr)(fd:gY)(ps:List Str),Mk (KA w.params) (gE.getD j 0) f/\eF PP w (KA w.params) mg base iy k f fd ps (A8 (e9 w.params) j)/\Binds (KA w.params) fd ps []
noncomputable def rk(i:Nat):Nat:=if i<39 then i+3 else i+6
def UA(w:aR)(mg:Str->Option Value)(base:aS)(i:Nat):Prop:=∀j,j<i->FA w mg base j (rk j)
def CC(w:aR)(mg:Str->Option Value)(base:aS)(n m:Nat):Prop:=∀j,j<n->∃k',k'+1<=m/\CA w mg base j k'
theorem UA.step(u:UA w mg base i)(a:FA w mg base i (rk i)):UA w mg base (i+1):=λj hj=>by
 by_cases c:j<i
 ·exact u j c
 ·rw[show j=i by lia];exact a
theorem afW(P:aq):iN.all (λx=>match idx x.1 rB with|some j=>Ba (KA P) (Cb.getD j 0) x.2|none=>false)=true:=by kernel_rfl
theorem GR{α:Type}{v:α}:∀{l:List (Str×α)},l.lookup x=some v->(x,v)∈l
 |[],h=>by cases h
 |(b,z)::l,h=>by
  rw[lq] at h;split at h
  ·rename_i e
   have e:x=b:=by simpa using e
   cases h;rw[e];exact .head _
  ·exact .tail _ (GR h)
variable{w:aR}{mg:Str->Option Value}{base h:aS}
set_option tactic.hygienic true in
theorem glob(KX:(KA w.params).In h)(G0:h.Ns dm mg)(u:UA w mg base lim)(hr:∀j,j<lim->rk j<=k)(c:CC w mg base n m)(hn:ie<=n)(hm:m<=k)(h4:n<=4):AI (cfg kv) (G (e9 w.params) lim ie) PP w (KA w.params) mg base k where
 kk:=rfl
 cst:=λx v hx=>by
  have:=fc.mp (ahy w.params) _ (GR hx);unfold QF at this;split at this
  ·rename_i i t e
   split at this
   ·rename_i j ej
    have ej:v=.int j:=ej;have:i=j:=by simpa using this
    subst this ej;exact⟨_,rG KX G0 e,⟨t,rfl⟩⟩
   ·cases this
  ·cases this
 gr:=λx j hx=>by
  obtain⟨y,y1,y2⟩:=kQ (Ab w.params) (oM hx);refine⟨_,rG KX G0 y2,?_⟩;show RelV (.ref (Cb.getD j 0)) (.ref y);rw[Al y1];rfl
 tup:=λx xs hx=>by
  have:=fc.mp (afW w.params) _ (GR hx);split at this
  ·rename_i j ej
   obtain⟨y,y1,y2⟩:=kQ (Ab w.params) (oM ej);rw[Al y1] at this;exact⟨y,rG KX G0 y2,λH=>OE this H⟩
  ·cases this
 fn:=λx j hx z=>by
  obtain⟨y,y1,y2⟩:=kQ (Pe w.params) (oM hx);rw[rG KX G0 y2];show some (f7 y)=some (.ref (vt.getD j 0));rw[Al y1]
 fa:=λj hj=>let ⟨fd,ps,a,b,d⟩:=u j hj;⟨rk j,fd,ps,hr j hj,a,b,d⟩
 cls:=λx j hx z=>by
  obtain⟨y,y1,y2⟩:=kQ (afT w.params) (oM hx);rw[rG KX G0 y2];show some (f7 y)=some (.ref (gE.getD j 0));rw[Al y1]
 ca:=λj hj=>by
  have hj:j<ie:=hj;obtain⟨k',hk,f,fd,ps,a,b,d⟩:=c j (by lia);exact⟨k',f,fd,ps,by lia,a,b,d⟩
 blt:=λx hx=>mg_none_of KX G0 (qL (ahx w.params) x hx)
 gd:=λx j hx=>by
  have hx:=oM hx;have hx:rQ[j]?=some x:=hx;unfold rQ at hx
  match j,hx with
  |0,hx=>
   cases hx;have e:rS (KA w.params) dm "BEGINNINGS"=some (some (.ref 593)):=(kQ (Ab w.params) (i:=5) rfl).elim λy hy=>by cases hy.1;exact hy.2
   exact⟨593,rG KX G0 e,OG (aiU w.params)⟩
  |1,hx=>
   cases hx;have e:rS (KA w.params) dm "CALLS"=some (some (.ref 844)):=(kQ (Ab w.params) (i:=11) rfl).elim λy hy=>by cases hy.1;exact hy.2
   exact⟨844,rG KX G0 e,OG (afU w.params)⟩
  |n+2,hx=>cases hx
theorem Ie(h:(lim<=39/\lim+2<=k)\/lim+5<=k):∀j,j<lim->rk j<=k:=λj hj=>by
 unfold rk;split<;>lia
def Iz{α:Type}:Nat->(List α->Prop)->Prop
 |0,P=>P []
 |n+1,P=>∀a,Iz n λl=>P (a::l)
theorem rR{α:Type}:∀{n:Nat}{P:List α->Prop},Iz n P->∀us:List α,us.length=n->P us
 |0,P,h,us,e=>by rw[vz.mp e];exact h
 |n+1,P,h,us,e=>by
  cases us with
  |nil=>cases e
  |cons a l=>exact rR (P:=λl=>P (a::l)) (h a) l (Lv e)
def MN(N:List Str)(j:Nat)(Γ:Ge)(b:Ss)(Q:VK)(H:Hp)(vs:List V):Prop:=vs.length=(N.take j).length/\ak Γ b (fin Q) (start N vs) H
theorem aA(ie:Nat){kv:List Nat}{N:List Str}{x qual:Str}{st:dQ}{body:Ss}(KX:(KA w.params).In h)(G0:h.Ns dm mg)(c:CC w mg base n m)(u:UA w mg base i)(F:∃fd,L2.jh (KA w.params) x qual st (vt.getD i 0) fd)(f:Fd st kv j N body)(mn:∀vs H Q E,spT (e9 w.params) i vs H Q E->MN N j (G (e9 w.params) i ie) body Q H vs)(hn:ie<=n/\m<=rk i-1/\n<=4:=by decide)(hb:∀(kV doc pm:Value)(an:Option Addr)(cM ct:Value),Iz (N.take j).length λus=>NL (qt x qual (ud st) (lR st) (iI st) .none kV doc pm an cM ct) ⟨us,[]⟩=pure ((N.take j).zip us):=by repeat (first|rfl|intro _)):UA w mg base (i+1):=by
 refine u.step ?_;obtain⟨fd,F⟩:=F;have hk:rk i=rk i-1+1:=by unfold rk;split<;>lia
 rw[hk];exact⟨fd,_,uz (c:=cfg kv) (Γ:=G (e9 w.params) i ie) (k:=rk i-1) (glob KX G0 u (Ie (by unfold rk;split<;>lia)) c hn.1 hn.2.1 hn.2.2) F f.c f.t (λvs H Q E z=>(mn vs H Q E z).1) λvs H Q E z=>(mn vs H Q E z).2,F.kp,F.binds λkV doc pm an cM ct=>rR (hb kV doc pm an cM ct)⟩
theorem U3:FA w mg base 22 (rk 22):=by
 obtain⟨fd,F⟩:=UQ w.params;refine⟨fd,["ledger"],⟨λvs H Q E h=>?_,λA outer s H args us vs Q E z z z z h=>?_⟩,F.kp,F.binds (ps:=["ledger"]) λz z z z z z=>rR (λz=>rfl)⟩
 all_goals (rw[show spT (e9 w.params) 22=λz z z z=>False from rfl] at h;exact h.elim)
theorem lZ{P:Int->Prop}{vs:List V}(h:match vs with|[.int a0]=>P a0|_=>False):∃a0,vs=[.int a0]/\P a0:=by
 split at h
 ·exact⟨_,rfl,h⟩
 ·exact h.elim
theorem w9{P:Int->Int->Prop}{vs:List V}(h:match vs with|[.int a0,.int a1]=>P a0 a1|_=>False):∃a0 a1,vs=[.int a0,.int a1]/\P a0 a1:=by
 split at h
 ·exact⟨_,_,rfl,h⟩
 ·exact h.elim
theorem OH{P:Int->Int->Int->Prop}{vs:List V}(h:match vs with|[.int a0,.int a1,.int a2]=>P a0 a1 a2|_=>False):∃a0 a1 a2,vs=[.int a0,.int a1,.int a2]/\P a0 a1 a2:=by
 split at h
 ·exact⟨_,_,_,rfl,h⟩
 ·exact h.elim
theorem aiW{P:Addr->Prop}{vs:List V}(h:match vs with|[.ref a0]=>P a0|_=>False):∃a0,vs=[.ref a0]/\P a0:=by
 split at h
 ·exact⟨_,rfl,h⟩
 ·exact h.elim
theorem mJ{A0:Type}{f:A0->List V}{P:A0->Prop}{R:List V->Prop}(h:∃a0,vs=f a0/\P a0)(k:∀a0,P a0->R (f a0)):R vs:=by
 obtain⟨a0,rfl,p⟩:=h;exact k _ p
theorem bX{A0 A1:Type}{f:A0->A1->List V}{P:A0->A1->Prop}{R:List V->Prop}(h:∃a0 a1,vs=f a0 a1/\P a0 a1)(k:∀a0 a1,P a0 a1->R (f a0 a1)):R vs:=by
 obtain⟨a0,a1,rfl,p⟩:=h;exact k _ _ p
theorem kF{A0 A1 A2:Type}{f:A0->A1->A2->List V}{P:A0->A1->A2->Prop}{R:List V->Prop}(h:∃a0 a1 a2,vs=f a0 a1 a2/\P a0 a1 a2)(k:∀a0 a1 a2,P a0 a1 a2->R (f a0 a1 a2)):R vs:=by
 obtain⟨a0,a1,a2,rfl,p⟩:=h;exact k _ _ _ p
theorem gq{A0 A1 A2 A3:Type}{f:A0->A1->A2->A3->List V}{P:A0->A1->A2->A3->Prop}{R:List V->Prop}(h:∃a0 a1 a2 a3,vs=f a0 a1 a2 a3/\P a0 a1 a2 a3)(k:∀a0 a1 a2 a3,P a0 a1 a2 a3->R (f a0 a1 a2 a3)):R vs:=by
 obtain⟨a0,a1,a2,a3,rfl,p⟩:=h;exact k _ _ _ _ p
theorem yF{A0 A1 A2 A3 A4:Type}{f:A0->A1->A2->A3->A4->List V}{P:A0->A1->A2->A3->A4->Prop}{R:List V->Prop}(h:∃a0 a1 a2 a3 a4,vs=f a0 a1 a2 a3 a4/\P a0 a1 a2 a3 a4)(k:∀a0 a1 a2 a3 a4,P a0 a1 a2 a3 a4->R (f a0 a1 a2 a3 a4)):R vs:=by
 obtain⟨a0,a1,a2,a3,a4,rfl,p⟩:=h;exact k _ _ _ _ _ p
theorem e_{A0 A1 A2 A3 A4 A5:Type}{f:A0->A1->A2->A3->A4->A5->List V}{P:A0->A1->A2->A3->A4->A5->Prop}{R:List V->Prop}(h:∃a0 a1 a2 a3 a4 a5,vs=f a0 a1 a2 a3 a4 a5/\P a0 a1 a2 a3 a4 a5)(k:∀a0 a1 a2 a3 a4 a5,P a0 a1 a2 a3 a4 a5->R (f a0 a1 a2 a3 a4 a5)):R vs:=by
 obtain⟨a0,a1,a2,a3,a4,a5,rfl,p⟩:=h;exact k _ _ _ _ _ _ p
theorem aaj(KX:(KA w.params).In h)(G0:h.Ns dm mg):CA w mg base 0 1:=by
 obtain⟨fd,F⟩:=aai w.params;have hc:=wZ w.params (C:=33) (by simp[gE]);have hi:jr (KA w.params) (.ref 33) "__init__"=some (some (.ref 30)):=(kQ (AL w.params) (i:=0) rfl).elim λy hy=>by cases hy.1;exact hy.2
 refine⟨30,fd,["self","day","year","month","nth"],⟨hc.2.1,hi,fc.mp (Aw w.params) _ (by simp),hc.2.2⟩,?_,F.binds (ps:=["self","day","year","month","nth"]) λz z z z z z=>rR (λz z z z z=>rfl)⟩;show eF PP w (KA w.params) mg base iy (0+1) 30 fd _ (vP (e9 w.params));refine uz (c:=cfg []) (Γ:=G (e9 w.params) 0 0) (k:=0) (glob KX G0 (λj hj=>absurd hj (by lia)) (λj hj=>absurd hj (by lia)) (n:=0) (m:=0) (λj hj=>absurd hj (by lia)) (by decide) (by decide) (by decide)) F LD.c LD.t ?_ ?_
 ·intro vs H Q E h;unfold vP at h;split at h;·rfl
  ·exact h.elim
 ·intro vs H Q E h;unfold vP at h;split at h
  ·split at h
   ·rename_i e;rw[h.1] at e;exact ZH (bq w.params) e h.2
   ·exact h.elim
  ·exact h.elim
theorem W4(KX:(KA w.params).In h)(G0:h.Ns dm mg):CA w mg base 1 1:=by
 obtain⟨fd,F⟩:=W3 w.params;have hc:=wZ w.params (C:=173) (by simp[gE]);have hi:jr (KA w.params) (.ref 173) "__init__"=some (some (.ref 170)):=(kQ (AL w.params) (i:=1) rfl).elim λy hy=>by cases hy.1;exact hy.2
 refine⟨170,fd,["self","first_year","last_year","feasts","reigns"],⟨hc.2.1,hi,fc.mp (Aw w.params) _ (by simp),hc.2.2⟩,?_,F.binds (ps:=["self","first_year","last_year","feasts","reigns"]) λz z z z z z=>rR (λz z z z z=>rfl)⟩;show eF PP w (KA w.params) mg base iy (0+1) 170 fd _ (DG (e9 w.params));refine uz (c:=cfg []) (Γ:=G (e9 w.params) 0 0) (k:=0) (glob KX G0 (λj hj=>absurd hj (by lia)) (λj hj=>absurd hj (by lia)) (n:=0) (m:=0) (λj hj=>absurd hj (by lia)) (by decide) (by decide) (by decide)) F KW.c KW.t ?_ ?_
 ·rintro vs H Q E ⟨_,_,_,_,_,_,rfl,_⟩;rfl
 ·rintro vs H Q E ⟨_,_,_,_,_,_,rfl,h0,h1⟩;exact WA (bq w.params) h0 h1
theorem XY(KX:(KA w.params).In h)(G0:h.Ns dm mg):CA w mg base 2 1:=by
 obtain⟨fd,F⟩:=XX w.params;have hc:=wZ w.params (C:=337) (by simp[gE]);have hi:jr (KA w.params) (.ref 337) "__init__"=some (some (.ref 334)):=(kQ (AL w.params) (i:=2) rfl).elim λy hy=>by cases hy.1;exact hy.2
 refine⟨334,fd,["self","lives","persons","offices","holds","seals","places","ways","seens"],⟨hc.2.1,hi,fc.mp (Aw w.params) _ (by simp),hc.2.2⟩,?_,F.binds (ps:=["self","lives","persons","offices","holds","seals","places","ways","seens"]) λz z z z z z=>rR (λz z z z z z z z z=>rfl)⟩;show eF PP w (KA w.params) mg base iy (0+1) 334 fd _ (yV (e9 w.params));refine uz (c:=cfg []) (Γ:=G (e9 w.params) 0 0) (k:=0) (glob KX G0 (λj hj=>absurd hj (by lia)) (λj hj=>absurd hj (by lia)) (n:=0) (m:=0) (λj hj=>absurd hj (by lia)) (by decide) (by decide) (by decide)) F K5.c K5.t ?_ ?_
 ·rintro vs H Q E ⟨_,_,_,_,_,_,_,_,_,_,rfl,_⟩;rfl
 ·rintro vs H Q E ⟨_,_,_,_,_,_,_,_,_,_,rfl,h0,h1⟩;exact Xz (bq w.params) h0 h1
theorem VY(KX:(KA w.params).In h)(G0:h.Ns dm mg)(u:UA w mg base 39)(c:CC w mg base 3 2):CA w mg base 3 42:=by
 obtain⟨fd,F⟩:=VX w.params;have hc:=wZ w.params (C:=498) (by simp[gE]);have hi:jr (KA w.params) (.ref 498) "__init__"=some (some (.ref 495)):=(kQ (AL w.params) (i:=3) rfl).elim λy hy=>by cases hy.1;exact hy.2
 refine⟨495,fd,["self"],⟨hc.2.1,hi,fc.mp (Aw w.params) _ (by simp),hc.2.2⟩,?_,F.binds (ps:=["self"]) λz z z z z z=>rR (λz=>rfl)⟩;show eF PP w (KA w.params) mg base iy (41+1) 495 fd _ (Dl (e9 w.params));refine uz (c:=cfg []) (Γ:=G (e9 w.params) 39 3) (k:=41) (glob KX G0 u (Ie (by decide)) c (by decide) (by decide) (by decide)) F KC.c KC.t ?_ ?_
 ·rintro vs H Q E ⟨_,_,rfl,_⟩;rfl
 ·rintro vs H Q E ⟨_,_,rfl,h0,h1⟩;exact VG (bq w.params) h0 h1
theorem QG(KX:(KA w.params).In h)(G0:h.Ns dm mg):CC w mg base 3 2:=λj hj=>by
 rcases(by lia:j=0\/j=1\/j=2) with rfl|rfl|rfl
 ·exact⟨1,by decide,aaj KX G0⟩
 ·exact⟨1,by decide,W4 KX G0⟩
 ·exact⟨1,by decide,XY KX G0⟩
theorem QH(KX:(KA w.params).In h)(G0:h.Ns dm mg)(c:CC w mg base 3 2):UA w mg base 39:=by
 have u0:UA w mg base 0:=λj hj=>absurd hj (by lia);have u1:UA w mg base 1:=aA 0 KX G0 c u0 (acM _) acg λy y y y h=>mJ (lZ h) λy z=>aB rfl (acq z);have u2:UA w mg base 2:=aA 0 KX G0 c u1 (aeo _) ad8 λy y y y h=>mJ (lZ h) λy z=>aB rfl (aea z);have u3:UA w mg base 3:=aA 0 KX G0 c u2 (acN _) ach λy y y y h=>bX (w9 h) λy y z=>aB rfl (acr z);have u4:UA w mg base 4:=aA 0 KX G0 c u3 (acO _) aci λy y y y h=>mJ (lZ h) λy z=>aB rfl (acs z);have u5:UA w mg base 5:=aA 0 KX G0 c u4 (S_ _) S3 λy y y y h=>bX (w9 h) λy y z=>aB rfl (S7 z.1 z.2);have u6:UA w mg base 6:=aA 0 KX G0 c u5 (WM _) Wg λy y y y h=>bX (w9 h) λy y z=>aB rfl (Ww z.1 z.2);have u7:UA w mg base 7:=aA 0 KX G0 c u6 (YL _) Yl λy y y y h=>mJ (lZ h) λy z=>aB rfl (Yy z);have u8:UA w mg base 8:=aA 0 KX G0 c u7 (YM _) Ym λy y y y h=>kF (OH h) λy y y z=>aB rfl (Yz z.1 z.2);have u9:UA w mg base 9:=aA 0 KX G0 c u8 (acP _) acj λy y y y h=>kF (OH h) λy y y z=>aB rfl (acu z);have u10:UA w mg base 10:=aA 1 KX G0 c u9 (acQ _) ack λy y y y h=>mJ (lZ h) λy z=>aB rfl (acv (bq _) z);have u11:UA w mg base 11:=aA 0 KX G0 c u10 (YN _) Yn λy y y y h=>mJ (lZ h) λy z=>aB rfl (YA z);have u12:UA w mg base 12:=aA 0 KX G0 c u11 (Z2 _) Zq λy y y y h=>mJ (lZ h) λy z=>aB rfl (ZG z);have u13:UA w mg base 13:=aA 1 KX G0 c u12 (Z3 _) Zr λy y y y h=>mJ (lZ h) λy z=>aB rfl (ZI (bq _) z);have u14:UA w mg base 14:=aA 0 KX G0 c u13 (Ud _) T4 λy y y y h=>mJ (lZ h) λy z=>aB rfl (T9 z);have u15:UA w mg base 15:=aA 1 KX G0 c u14 (abi _) aaX λy y y y h=>bX h λy y z=>aB rfl (aa7 (bq _) z.1 z.2);have u16:UA w mg base 16:=aA 0 KX G0 c u15 (abj _) aaY (by
 intro vs H Q E h;obtain⟨_,rfl,z⟩:=aiW (show FE vs H Q E from h);split at z
 ·rename_i e;exact⟨rfl,aa5 e z⟩
 ·exact z.elim)
 have u17:UA w mg base 17:=aA 3 KX G0 c u16 (WN _) Wi λy y y y h=>bX h λy y z=>aB rfl (WC (bq _) z.1 z.2);have u18:UA w mg base 18:=aA 3 KX G0 c u17 (XJ _) Xm λy y y y h=>bX h λy y z=>aB rfl (XA (bq _) z.1 z.2);have u19:UA w mg base 19:=aA 3 KX G0 c u18 (acR _) acm λy y y y h=>bX h λy y z=>aB rfl (acC z.1 z.2.1 z.2.2);have u20:UA w mg base 20:=aA 3 KX G0 c u19 (abk _) aaZ λy y y y h=>bX h λy y z=>aB rfl (abb (bq _) z.1 z.2.1 z.2.2);have u21:UA w mg base 21:=aA 0 KX G0 c u20 (Z4 _) Zs λy y y y h=>bX (w9 h) λy y z=>aB rfl (ZJ z);have u22:UA w mg base 22:=aA 0 KX G0 c u21 (abl _) aa0 λy y y y h=>bX h λy y z=>aB rfl (aa6 z.1 z.2);have u23:UA w mg base 23:=u22.step U3;have u24:UA w mg base 24:=aA 2 KX G0 c u23 (Sf _) Us λy y y y h=>bX h λy y z=>aB rfl (UE (bq _) z.1 z.2);have u25:UA w mg base 25:=aA 2 KX G0 c u24 (UR _) Ut λy y y y h=>bX h λy y z=>aB rfl (UG (bq _) z.1 z.2);have u26:UA w mg base 26:=aA 2 KX G0 c u25 (US _) Uu λy y y y h=>bX h λy y z=>aB rfl (UH (bq _) z.1 z.2);have u27:UA w mg base 27:=aA 0 KX G0 c u26 (Z5 _) Zt λy y y y h=>kF h λy y y z=>aB rfl (ZK z.1 z.2.1 z.2.2);have u28:UA w mg base 28:=aA 1 KX G0 c u27 (WO _) Wj λy y y y h=>kF h λy y y z=>aB rfl (Wx (bq _) z.1 z.2.1 z.2.2);have u29:UA w mg base 29:=aA 1 KX G0 c u28 (Z6 _) Zu λy y y y h=>kF h λy y y z=>aB rfl (ZL (bq _) z.1 z.2);have u30:UA w mg base 30:=aA 1 KX G0 c u29 (YO _) Yo λy y y y h=>gq h λy y y y z=>aB rfl (YB (bq _) z.1 z.2.1 z.2.2);have u31:UA w mg base 31:=aA 3 KX G0 c u30 (XM _) Xn λy y y y h=>bX h λy y z=>aB rfl (Xy z.1 z.2.1 z.2.2);have u32:UA w mg base 32:=aA 3 KX G0 c u31 (Z7 _) Zv λy y y y h=>gq h λy y y y z=>aB rfl (ZU z.1 z.2.1 z.2.2);have u33:UA w mg base 33:=aA 2 KX G0 c u32 (Tc _) S4 λy y y y h=>bX h λy y z=>aB rfl (S8 z.1 z.2);have u34:UA w mg base 34:=aA 2 KX G0 c u33 (Z8 _) Zw λy y y y h=>bX h λy y z=>aB rfl (ZM z.1 z.2.1 z.2.2);have u35:UA w mg base 35:=aA 2 KX G0 c u34 (VL _) Vl λy y y y h=>bX h λy y z=>aB rfl (Vx z.1 z.2.1 z.2.2);have u36:UA w mg base 36:=aA 2 KX G0 c u35 (Ue _) T5 λy y y y h=>bX h λy y z=>aB rfl (Ua z.1 z.2.1 z.2.2);have u37:UA w mg base 37:=aA 3 KX G0 c u36 (Z9 _) Zx λy y y y h=>bX h λy y z=>aB rfl (ZY z.1 z.2.1 z.2.2);have u38:UA w mg base 38:=aA 3 KX G0 c u37 (YQ _) Yp λy y y y h=>bX h λy y z=>aB rfl (YF z.1 z.2.1 z.2.2);have JT:UA w mg base 39:=aA 3 KX G0 c u38 (WQ _) Wk (by
 rintro vs H Q E ⟨rfl,h0⟩;exact⟨rfl,WE h0⟩)
 exact JT
theorem akb(KX:(KA w.params).In h)(G0:h.Ns dm mg):CC w mg base 4 43:=λj hj=>by
 have c3:=QG (w:=w) (mg:=mg) (base:=base) KX G0
 by_cases e:j<3
 ·obtain⟨k,h1,h2⟩:=c3 j e
  exact⟨k,by lia,h2⟩
 ·rw[show j=3 by lia]
  exact⟨42,by decide,VY KX G0 (QH KX G0 c3) c3⟩
theorem allB(KX:(KA w.params).In h)(G0:h.Ns dm mg)(JT:UA w mg base 39)(c:CC w mg base 4 43):UA w mg base 115:=by
 have u40:UA w mg base 40:=aA 3 KX G0 c JT (acS _) acn λy y y y h=>bX h λy y z=>aB rfl (acA z.1 z.2);have u41:UA w mg base 41:=aA 2 KX G0 c u40 (acT _) aco λy y y y h=>gq h λy y y y z=>aB rfl (acy (bq _) z.1 z.2.1 z.2.2);have u42:UA w mg base 42:=aA 2 KX G0 c u41 (UT _) Uv λy y y y h=>gq h λy y y y z=>aB rfl (UI (bq _) z.1 z.2.1 z.2.2.1 z.2.2.2);have u43:UA w mg base 43:=aA 2 KX G0 c u42 (UU _) Uw λy y y y h=>gq h λy y y y z=>aB rfl (UJ z.1 z.2.1 z.2.2);have u44:UA w mg base 44:=aA 2 KX G0 c u43 (aep _) ad9 λy y y y h=>gq h λy y y y z=>aB rfl (aec (bq _) z.1 z.2.1 z.2.2);have u45:UA w mg base 45:=aA 2 KX G0 c u44 (XN _) Xo λy y y y h=>gq h λy y y y z=>aB rfl (Xx z.1 z.2.1 z.2.2);have u46:UA w mg base 46:=aA 3 KX G0 c u45 (Sk _) Tr λy y y y h=>bX h λy y z=>aB rfl (Sj (bq _) z.1 z.2.2);have u47:UA w mg base 47:=aA 3 KX G0 c u46 (Ug _) T6 λy y y y h=>bX h λy y z=>aB rfl (Uc (bq _) z.1 z.2.2);have u48:UA w mg base 48:=aA 3 KX G0 c u47 (R3 _) RY λy y y y h=>bX h λy y z=>aB rfl (R0 (bq _) z.1 z.2.2);have u49:UA w mg base 49:=aA 3 KX G0 c u48 (Uh _) T7 λy y y y h=>bX h λy y z=>aB rfl (Ub (bq _) z.1 z.2.2);have u50:UA w mg base 50:=aA 3 KX G0 c u49 (R4 _) RZ λy y y y h=>bX h λy y z=>aB rfl (R1 (bq _) z.1 z.2.2);have u51:UA w mg base 51:=aA 3 KX G0 c u50 (VM _) Vm λy y y y h=>bX h λy y z=>aB rfl (Vz (bq _) z.1 z.2.2);have u52:UA w mg base 52:=aA 3 KX G0 c u51 (VN _) Vn λy y y y h=>bX h λy y z=>aB rfl (VA (bq _) z.1 z.2.1 z.2.2);have u53:UA w mg base 53:=aA 3 KX G0 c u52 (SR _) SM λy y y y h=>bX h λy y z=>aB rfl (SO (bq _) z.1 z.2.2);have u54:UA w mg base 54:=aA 3 KX G0 c u53 (VO _) Vo λy y y y h=>bX h λy y z=>aB rfl (Vy (bq _) z.1 z.2.2);have u55:UA w mg base 55:=aA 3 KX G0 c u54 (UW _) Ux λy y y y h=>bX h λy y z=>aB rfl (UK (bq _) z.1 z.2.2);have u56:UA w mg base 56:=aA 3 KX G0 c u55 (Sb _) R_ λy y y y h=>bX h λy y z=>aB rfl (Sa (bq _) z.1 z.2.2);have u57:UA w mg base 57:=aA 3 KX G0 c u56 (WR _) Wl λy y y y h=>bX h λy y z=>aB rfl (Wz (bq _) z.1 z.2.2);have u58:UA w mg base 58:=aA 3 KX G0 c u57 (VP _) Vp λy y y y h=>bX h λy y z=>aB rfl (VB (bq _) z.1 z.2.2);have u59:UA w mg base 59:=aA 3 KX G0 c u58 (VQ _) Vq λy y y y h=>bX h λy y z=>aB rfl (VC (bq _) z.1 z.2.2);have u60:UA w mg base 60:=aA 4 KX G0 c u59 (VR _) Vr λy y y y h=>bX h λy y z=>aB rfl (VF (bq _) z.1 z.2.1 z.2.2);have u61:UA w mg base 61:=aA 4 KX G0 c u60 (UX _) Uy λy y y y h=>gq h λy y y y z=>aB rfl (UL (bq _) z.1 z.2.1 z.2.2);have u62:UA w mg base 62:=aA 4 KX G0 c u61 (UY _) Uz λy y y y h=>gq h λy y y y z=>aB rfl (UM (bq _) z.1 z.2.1 z.2.2.1 z.2.2.2.1 z.2.2.2.2);have u63:UA w mg base 63:=aA 4 KX G0 c u62 (UZ _) UB λy y y y h=>yF h λy y y y y z=>aB rfl (UN (bq _) z.1 z.2.1 z.2.2.1 z.2.2.2.1 z.2.2.2.2.1 z.2.2.2.2.2);have u64:UA w mg base 64:=aA 4 KX G0 c u63 (VS _) Vs λy y y y h=>e_ h λy y y y y y z=>aB rfl (VE z.1 z.2.1 z.2.2.1 z.2.2.2.1 z.2.2.2.2.1 z.2.2.2.2.2);have u65:UA w mg base 65:=aA 4 KX G0 c u64 (XO _) Xp λy y y y h=>gq h λy y y y z=>aB rfl (XC z.1 z.2.1 z.2.2.1 z.2.2.2.1 z.2.2.2.2);have u66:UA w mg base 66:=aA 4 KX G0 c u65 (XQ _) Xq λy y y y h=>yF h λy y y y y z=>aB rfl (XD z.1 z.2.1 z.2.2.1 z.2.2.2);have u67:UA w mg base 67:=aA 4 KX G0 c u66 (WS _) Wm λy y y y h=>gq h λy y y y z=>aB rfl (WD z.1 z.2.1 z.2.2.1 z.2.2.2);have u68:UA w mg base 68:=aA 4 KX G0 c u67 (XR _) Xr λy y y y h=>gq h λy y y y z=>aB rfl (XE z.1 z.2.1 z.2.2.1 z.2.2.2);have u69:UA w mg base 69:=aA 4 KX G0 c u68 (abm _) aa1 λy y y y h=>bX h λy y z=>aB rfl (abd z.1 z.2.1 z.2.2);have u70:UA w mg base 70:=aA 4 KX G0 c u69 (Z_ _) Zy λy y y y h=>gq h λy y y y z=>aB rfl (ZX z.1 z.2.1 z.2.2.1 z.2.2.2);have u71:UA w mg base 71:=aA 3 KX G0 c u70 (aac _) Zz λy y y y h=>kF h λy y y z=>aB rfl (ZR z.1 z.2.1.1 z.2.1.2 z.2.2.1 z.2.2.2);have u72:UA w mg base 72:=aA 3 KX G0 c u71 (afV _) afD λy y y y h=>yF h λy y y y y z=>aB rfl (afE z.1 z.2.1 z.2.2.1 z.2.2.2.1 z.2.2.2.2);have u73:UA w mg base 73:=aA 4 KX G0 c u72 (YR _) Yq λy y y y h=>kF h λy y y z=>aB rfl (YD z.1 z.2);have u74:UA w mg base 74:=aA 4 KX G0 c u73 (aad _) ZA λy y y y h=>gq h λy y y y z=>aB rfl (ZT (bq _) z.1 z.2.1 z.2.2);have u75:UA w mg base 75:=aA 4 KX G0 c u74 (YS _) Yr λy y y y h=>gq h λy y y y z=>aB rfl (YE (bq _) z.1 z.2.1 z.2.2.1 z.2.2.2);have u76:UA w mg base 76:=aA 0 KX G0 c u75 (abn _) aa2 λy y y y h=>mJ (lZ h) λy z=>aB rfl (aa8 z);have u77:UA w mg base 77:=aA 0 KX G0 c u76 (acU _) acp λy y y y h=>bX (w9 h) λy y z=>aB rfl (acw (aiV _) z.1 z.2);have u78:UA w mg base 78:=aA 1 KX G0 c u77 (YT _) Ys λy y y y h=>kF h λy y y z=>aB rfl (YC (bq _) z.1 z.2.1 z.2.2);have u79:UA w mg base 79:=aA 1 KX G0 c u78 (WT _) Wn λy y y y h=>kF h λy y y z=>aB rfl (Wy z.1 z.2.1 z.2.2);have u80:UA w mg base 80:=aA 3 KX G0 c u79 (aae _) ZC (by
 rintro vs H Q E ⟨_,_,k,rfl,h0,h1,h2⟩;obtain⟨n,rfl⟩:=p9 h1.1;exact⟨rfl,ZS (bq _) h0 (k:=n) (by lia) h2⟩)
 have u81:UA w mg base 81:=aA 4 KX G0 c u80 (VT _) Vt λy y y y h=>gq h λy y y y z=>aB rfl (VD z.1 z.2.1 z.2.2);have u82:UA w mg base 82:=aA 1 KX G0 c u81 (Ui _) T8 λy y y y h=>yF h λy y y y y z=>aB rfl (T_ z.1 z.2.1 z.2.2.1 z.2.2.2);have u83:UA w mg base 83:=aA 1 KX G0 c u82 (abo _) aa3 λy y y y h=>e_ h λy y y y y y z=>aB rfl (aa9 (bq _) z.1 z.2.1 z.2.2.1 z.2.2.2.1 z.2.2.2.2.1 z.2.2.2.2.2.1 z.2.2.2.2.2.2);have u84:UA w mg base 84:=aA 4 KX G0 c u83 (aaf _) ZD λy y y y h=>e_ h λy y y y y y z=>aB rfl (ZW (bq _) z.1 z.2.1 z.2.2.1 z.2.2.2.1 z.2.2.2.2.1 z.2.2.2.2.2.1 z.2.2.2.2.2.2.1 z.2.2.2.2.2.2.2);have u85:UA w mg base 85:=aA 4 KX G0 c u84 (abp _) aa4 λy y y y h=>bX h λy y z=>aB rfl (abf z.1 z.2.1 z.2.2);have u86:UA w mg base 86:=aA 4 KX G0 c u85 (YU _) Yt λy y y y h=>kF h λy y y z=>aB rfl (YG z.1 z.2.1 z.2.2.1 z.2.2.2.1 z.2.2.2.2);have u87:UA w mg base 87:=aA 4 KX G0 c u86 (aag _) ZE λy y y y h=>kF h λy y y z=>aB rfl (ZZ z.1 z.2.1 z.2.2.1 z.2.2.2.1 z.2.2.2.2);have u88:UA w mg base 88:=aA 3 KX G0 c u87 (WU _) Wh (by
 rintro vs H Q E (⟨_,_,rfl,h0,h1⟩|⟨_,_,rfl,h0,h1⟩)
 ·exact⟨rfl,Tu (bq _) h0 h1⟩
 ·exact⟨rfl,Tv (bq _) h0 h1⟩)
 have u89:UA w mg base 89:=aA 3 KX G0 c u88 (SD _) Sx λy y y y h=>bX h λy y z=>aB rfl (Sy z.1 z.2);have u90:UA w mg base 90:=aA 3 KX G0 c u89 (SS _) SN λy y y y h=>bX h λy y z=>aB rfl (SQ z.1 z.2);have u91:UA w mg base 91:=aA 4 KX G0 c u90 (aeq _) ad_ λy y y y h=>gq h λy y y y z=>aB rfl (aek (bq _) z.1 z.2.1 z.2.2.1 z.2.2.2);have u92:UA w mg base 92:=aA 4 KX G0 c u91 (WV _) Wo λy y y y h=>kF h λy y y z=>aB rfl (WB z.1 z.2);have u93:UA w mg base 93:=aA 4 KX G0 c u92 (YV _) Yu λy y y y h=>e_ h λy y y y y y z=>aB rfl (YH z.1 z.2.1 z.2.2.2.1 z.2.2.2.2);have u94:UA w mg base 94:=aA 4 KX G0 c u93 (XS _) Xs λy y y y h=>e_ h λy y y y y y z=>aB rfl (XF (bq _) z.1 z.2.1 z.2.2.2.1 z.2.2.2.2);have u95:UA w mg base 95:=aA 4 KX G0 c u94 (VU _) Vu λy y y y h=>e_ h λy y y y y y z=>aB rfl (VH z.1 z.2.1 z.2.2.2.1 z.2.2.2.2);have u96:UA w mg base 96:=aA 4 KX G0 c u95 (WW _) Wq λy y y y h=>e_ h λy y y y y y z=>aB rfl (WG z.1 z.2.1 z.2.2.2.1 z.2.2.2.2);have u97:UA w mg base 97:=aA 4 KX G0 c u96 (YW _) Yv λy y y y h=>e_ h λy y y y y y z=>aB rfl (YI z.1 z.2.2.1 z.2.2.2.1 z.2.2.2.2);have u98:UA w mg base 98:=aA 4 KX G0 c u97 (WX _) Wr λy y y y h=>e_ h λy y y y y y z=>aB rfl (WH (bq _) z.1 z.2.1 z.2.2.2.1 z.2.2.2.2);have u99:UA w mg base 99:=aA 4 KX G0 c u98 (XT _) Xu λy y y y h=>e_ h λy y y y y y z=>aB rfl (XG (bq _) z.1 z.2.1 z.2.2.2.1 z.2.2.2.2);have akc:UA w mg base 100:=aA 4 KX G0 c u99 (WY _) Ws λy y y y h=>e_ h λy y y y y y z=>aB rfl (WI z.1 z.2.1 z.2.2.2.1 z.2.2.2.2);have akd:UA w mg base 101:=aA 4 KX G0 c akc (YX _) Yw λy y y y h=>e_ h λy y y y y y z=>aB rfl (YJ (bq _) z.1 z.2.1 z.2.2.1 z.2.2.2.1 z.2.2.2.2);have ake:UA w mg base 102:=aA 4 KX G0 c akd (Td _) S5 (by
 rintro vs H Q E (⟨_,_,_,_,rfl,h0,h1,h2⟩|⟨_,_,_,_,rfl,h0,h1,h2⟩)
 ·exact⟨rfl,Sz h0 h1 h2⟩
 ·exact⟨rfl,SA h0 h1 h2⟩)
 have akf:UA w mg base 103:=aA 4 KX G0 c ake (Tz _) Tt λy y y y h=>gq h λy y y y z=>aB rfl (Tw (bq _) z.1 z.2.1 z.2.2.1 z.2.2.2);have akg:UA w mg base 104:=aA 4 KX G0 c akf (Te _) S6 λy y y y h=>gq h λy y y y z=>aB rfl (S9 (bq _) z.1 z.2.1 z.2.2.1 z.2.2.2);have akh:UA w mg base 105:=aA 4 KX G0 c akg (WZ _) Wt λy y y y h=>e_ h λy y y y y y z=>aB rfl (WJ (bq _) z.1 z.2.2.1 z.2.2.2.1 z.2.2.2.2);have aki:UA w mg base 106:=aA 4 KX G0 c akh (W0 _) Wu λy y y y h=>e_ h λy y y y y y z=>aB rfl (WL (bq _) z.1 z.2.2.1 z.2.2.2.1 z.2.2.2.2);have akj:UA w mg base 107:=aA 4 KX G0 c aki (XU _) Xv λy y y y h=>e_ h λy y y y y y z=>aB rfl (XH (bq _) z.1 z.2.1 z.2.2.1 z.2.2.2.1 z.2.2.2.2);have akk:UA w mg base 108:=aA 4 KX G0 c akj (VV _) Vv λy y y y h=>e_ h λy y y y y y z=>aB rfl (VI (bq _) z.1 z.2.1 z.2.2.2.1 z.2.2.2.2);have akl:UA w mg base 109:=aA 4 KX G0 c akk (U0 _) UC λy y y y h=>e_ h λy y y y y y z=>aB rfl (UP (bq _) z.1 z.2.1 z.2.2.2.1 z.2.2.2.2);have akm:UA w mg base 110:=aA 4 KX G0 c akl (XW _) Xw λy y y y h=>e_ h λy y y y y y z=>aB rfl (XI (bq _) z.1 z.2.1 z.2.2.2.1 z.2.2.2.2);have akn:UA w mg base 111:=aA 4 KX G0 c akm (YY _) Yx λy y y y h=>e_ h λy y y y y y z=>aB rfl (YK (bq _) z.1 z.2.1 z.2.2.1 z.2.2.2.1 z.2.2.2.2);have ako:UA w mg base 112:=aA 4 KX G0 c akn (U1 _) UD λy y y y h=>yF h λy y y y y z=>aB rfl (UO (bq _) z.1 z.2.1 z.2.2.1 z.2.2.2.1 z.2.2.2.2.1 z.2.2.2.2.2);have akp:UA w mg base 113:=aA 4 KX G0 c ako (W2 _) Wv λy y y y h=>e_ h λy y y y y y z=>aB rfl (WK (bq _) z.1 z.2.2.1 z.2.2.2.1 z.2.2.2.2);have akq:UA w mg base 114:=aA 4 KX G0 c akp (VW _) Vw λy y y y h=>e_ h λy y y y y y z=>aB rfl (VJ (bq _) z.1 z.2.2.1 z.2.2.2.1 z.2.2.2.2);have akr:UA w mg base 115:=aA 4 KX G0 c akq (aah _) ZF λy y y y h=>e_ h λy y y y y y z=>aB rfl (Z1 z.2.1 z.2.2.1 z.2.2.2.1 z.2.2.2.2.1 z.2.2.2.2.2.1 z.2.2.2.2.2.2);exact akr
def PU(K:aD):Sp:=λvs H Q z=>∃(a:Addr)(l:List Int),vs=[.ref a]/\aG K H a (l.map V.int)/\l.length<=16000/\Ct l=true/\∀H' D,bh H' D (yS l)->Q (.ref D) H'
theorem acW(KX:(KA w.params).In h)(G0:h.Ns dm mg):∃fd:gY,L2.jh (KA w.params) "answers" "answers" (top 197) 877 fd/\∀base:aS,eF PP w (KA w.params) mg base iy 121 877 fd ["calls"] (PU (KA w.params)):=by
 obtain⟨fd,F⟩:=acV w.params;refine⟨fd,F,λbase=>?_⟩;have c:=akb (w:=w) (mg:=mg) (base:=base) KX G0;have u:=allB KX G0 (QH KX G0 (QG (w:=w) (mg:=mg) (base:=base) KX G0)) c;refine uz (c:=cfg [0,4]) (Γ:=G (e9 w.params) 115 4) (k:=120) (glob KX G0 u (Ie (by decide)) c (by decide) (by decide) (by decide)) F MM.c MM.t ?_ ?_
 ·rintro vs H Q E ⟨_,_,rfl,_⟩;rfl
 ·rintro vs H Q E ⟨_,_,rfl,h0,h1,h2,h3⟩;exact acL (p:=e9 w.params) (aka w.params) h0 h1 h2 h3
end
end Cd
section
open PySem PySem.W PyProof.Rows
theorem PySem.Challenge.cw_chancerydays_s01_answers_holds : PySem.Challenge.rw_chancerydays_s01_answers.Holds := by
 refine Cd.ahX λd hn hd=>?_;refine L2.aaG (r:=mK) (k:=121) (K:=Cd.KA) (CX:=L2.iy) (ps:=["calls"]) (sp:=Cd.PU) Cd.P0 hd rfl ⟨rfl,by decide,by decide⟩ Cd.ahW ?F ?S (λx x x x z=>z)
 case F=>
  intro w mg fa h Y KX G BF;obtain⟨fd,F,ok⟩:=Cd.acW (w:=w) KX G;have e:rS (Cd.KA w.params) dm "answers"=some (some (.ref 877)):=(Cd.kQ (Cd.Pe w.params) (i:=115) rfl).elim λy hy=>by cases hy.1;exact hy.2
  rw[hn,rG KX G e] at BF;cases BF;obtain⟨oc,od,kV,doc,pm,an,cM,ct,nI,rfl,lk,mj⟩:=F.ex;exact⟨_,λs us hu=>match us,hu with|[_],_=>.of_eq rfl,λbase x x=>ok base⟩
 case S=>
  intro K H xs a hO BG aks hx;cases hx with
  |cons h1 h2=>
   cases h2;cases h1 with
   |lst hs ha=>
    have e:=L2.Oa a.1 _ ha;subst e;have q:((Codec.inLen 0 16000 a.1&&a.1.all (Codec.inInt (Int.negSucc 999999999999999999) (Int.ofNat 1000000000000000000)))&&true)=true:=BG;rw[bx,bx] at q;exact⟨_,a.1,rfl,hs,(Codec.inNat_iff.mp q.1.1).2,aks,λH' p hp=>.lst (L2.aG.of hp) (L2.N_ _)⟩
end
