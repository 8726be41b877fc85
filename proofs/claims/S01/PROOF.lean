import PyProof.Rows.All
import Wide.All
import OpenK.AllK
import Wide.FinOn
import PyProof.EqAt
import PyProof.EqKinds
import PyProof.TupleCall
import KE.BitLaws
import PySem.Challenge.RW_saymessages_s01_answers
import Open.SpecLaws
import KE.OsHead
import KE.OsGo
import KE.KIsNot
import KE.KSortTupG
set_option Elab.async false
set_option linter.all false
set_option maxRecDepth 100000
set_option maxHeartbeats 0
set_option compiler.extract_closed false
set_option compiler.extract_closed false
open Lean in
local macro_rules(kind:=Lean.Parser.Command.universe)
 |s=>do
  unless s[1][0].getId==`tw do Macro.throwUnsupported
  let t:=(<-`(command|theorem x:True:=trivial)).raw.rewriteBottomUp (·.setInfo .none)
  let l:=((List.range 1384).map (s!"o_{·}")++"heap_1 heap_8 heap_1375 tree_9 tree_33 tree_55 tree_77 tree_99 tree_121 tree_143 tree_165 tree_187 tree_231 tree_273 tree_296 tree_319 tree_343 tree_401 tree_459 tree_490 tree_513 tree_569 tree_628 tree_653 tree_786 tree_869 tree_935 tree_1019 tree_1054 tree_1112 tree_1198 tree_1282 tree_1307 tree_1365 tree_1374 view_1 sts_11 sts_34 sts_56 sts_78 sts_100 sts_122 sts_144 sts_166 sts_188 sts_232 sts_274 sts_297 sts_320 sts_344 sts_402 sts_460 sts_491 sts_514 sts_570 sts_631 sts_654 sts_873 sts_936 sts_1020 sts_1055 sts_1113 sts_1199 sts_1283 sts_1310 sts_1366 env_3".splitOn " ").map (Name.str `Sm.hd)
  let a:=(`PySem.Challenge.pw_saymessages_s01_answers::l).toArray.map λn=>t.setArg 1 (t[1].setArg 1 (t[1][1].setArg 0 (mkIdent (.str `PySem.W.Fast s!"tw{n.hash}"))))
  return mkNullNode ((Array.range 50).map λk=>mkNode `Lean.Parser.Command.mutual #[mkAtom "mutual",mkNullNode (a.extract (30*k) (30*k+30)),mkAtom "end"])
universe tw
section
open PySem.W
local macro_rules | `(tactic| o_law) => `(tactic| skip)
local macro_rules | `(tactic| k_head) => `(tactic| k_headS)
local macro_rules | `(tactic| w_witness2) => `(tactic| exact ⟨[.list [.int 8]], by decide +kernel, by decide +kernel⟩)
open_top Sm.hd for PySem.Challenge.rw_saymessages_s01_answers
end
open Array renaming getElem?_eq_getElem->Bu,getElem?_eq_none->Go,getElem?_eq_some_iff->yp,getElem?_setIfInBounds_ne->S9,getElem?_setIfInBounds_self_of_lt->Kv,getElem?_toList->DE,length_toList->BB,mem_toList_iff->n_,size->Q,toList->UX
open Bool renaming and_eq_true->ik,and_eq_true_iff->Rb,and_false->GX,and_true->mE,decide_and->af1,eq_iff_iff->sZ,false->I,false_and->TF,false_eq_true->yt,false_ne_true->kU,false_or->BR,noConfusion->ui,not_eq_true'->GL,or_eq_true->GQ,or_false->Hb,or_true->DY,true->M,true_and->Ak
open Char renaming toNat->Ej
open Classical renaming byContradiction->Gi,epsilon->aeZ,epsilon_spec->V4
open Eq renaming symm->Ot
open Except renaming error->UZ,ok->Es
open Except.ok renaming inj->ahe
open False renaming elim->jy
open ForInStep renaming yield->LM
open Function renaming comp->ahf
open Int renaming le_of_lt->ahP,natCast_nonneg->RD,ofNat_lt->Va,one_mul->Ee,pow_pos->ai2,sub_mul->ai3,toNat_natCast->uh
open Int.ofNat renaming inj->uZ
open List.IsPrefix renaming trans->Y8
open List.Pairwise renaming and->awe,filter->X9,imp->ae2,imp_of_mem->avI,nil->awf,sublist->av0
open List.Sublist renaming map->awj,nodup->av9
open List renaming all_append->LN,all_cons->um,all_eq_true->nO,all_map->Vb,all_nil->Mp,any_cons->rX,any_eq_false->ae3,any_eq_true->vT,any_map->ahQ,any_nil->ahR,append_assoc->sY,append_cancel_left->U9,append_nil->mD,cons_append->Sn,contains_cons->wR,contains_eq_mem->X_,contains_iff_mem->KO,countP_cons->afr,dropLast_concat->Gu,dropLast_concat_getLast->QB,drop_append->So,drop_drop->uk,drop_eq_getElem_cons->Gj,drop_eq_nil_of_le->Bx,drop_left->agG,drop_length->GN,drop_one->ahg,drop_zero->LW,eq_nil_or_concat->W3,filterMap_cons->BC,filter_append->aeE,filter_congr->RR,filter_cons->afs,filter_cons_of_neg->U_,filter_map->af2,find?_append->GM,find?_cons->yC,find?_cons_of_neg->uf,find?_cons_of_pos->wP,find?_eq_none->Ag,find?_some->BK,findIdx?_eq_some_iff_getElem->S7,flatMap_append->GA,flatMap_cons->Lu,flatMap_nil->aft,foldl_append->ae4,forIn_nil->agH,getD_eq_getElem?_getD->wO,getElem?_cons_succ->Bw,getElem?_cons_zero->QM,getElem?_drop->vP,getElem?_eq_getElem->gv,getElem?_eq_none->Gp,getElem?_eq_none_iff->QF,getElem?_eq_some_iff->ig,getElem?_map->iC,getElem?_replicate->QN,getElem?_set_ne->Re,getElem?_set_self->DC,getElem?_toArray->W4,getElem_of_mem->oA,getElem_zip->Sq,getLast?_cons->aeF,getLast?_eq_getElem?->QG,getLast?_eq_none_iff->Gk,head?_drop->Tc,isEmpty_iff->GO,isPrefixOf_iff_prefix->Gh,length->R,length_append->iA,length_cons->lO,length_drop->lC,length_dropLast->Y0,length_eq_zero_iff->rc,length_filter_le->Gq,length_map->ft,length_nil->uX,length_pos_iff->BD,length_replicate->W5,length_reverse->GB,length_set->BL,length_take->jR,length_zip->GS,lookup->vX,lookup_cons->BI,map_append->iD,map_congr_left->yr,map_cons->iF,map_drop->Mh,map_eq_nil_iff->Y9,map_id->Wj,map_inj_right->aeG,map_map->mN,map_nil->DZ,map_singleton->Li,map_take->Uo,mem_append->iE,mem_append_left->BA,mem_append_right->ug,mem_cons->bM,mem_cons_of_mem->gY,mem_cons_self->mV,mem_filter->tj,mem_filterMap->aeH,mem_map->eM,mem_of_find?_eq_some->Bv,mem_of_getElem?->lW,mem_of_mem_take->Gv,mem_range->DS,mem_singleton->lX,nil_append->Td,nodup_append->yy,nodup_cons->iu,nodup_nil->DT,not_mem_nil->kK,of_mem_zip->LO,pairwise_append->KQ,pairwise_cons->vQ,prefix_append->RE,prefix_of_prefix_length_le->Qz,range->wb,range'->BW,range_succ_eq_map->V5,replicate->vU,reverse_cons->DL,reverse_eq_nil_iff->V0,set_cons_succ->aeI,size_toArray->jK,suffix_refl->afu,sum_cons->DV,tail_cons->agI,take->Eu,takeWhile_cons_of_neg->U3,take_append->afv,take_append_drop->QV,take_append_of_le_length->DB,take_length->nP,take_nil->Up,take_of_length_le->wQ,take_prefix->DO,take_succ->GY,take_succ_cons->KY,take_succ_eq_append_getElem->S8,take_take->uY,take_zero->LX,zipWith_cons_cons->DD,zip_cons_cons->Lj
open List.cons renaming injEq->Tb
open Nat renaming add_comm->ahS,eq_of_testBit_eq->Rf,eq_zero_or_pos->Lk,le_add_right->BJ,le_antisymm->Te,le_of_eq->Ea,le_of_lt->yG,le_of_not_lt->Sr,le_of_succ_le->Lw,le_refl->dQ,le_succ->rZ,le_succ_of_le->ae5,le_total->Vc,le_trans->fZ,lt_irrefl->nQ,lt_min->Xk,lt_of_le_of_lt->aeJ,lt_of_lt_of_le->jw,lt_or_ge->ahT,lt_succ_of_lt->Lx,lt_succ_self->wT,min_eq_left->wV,min_eq_right->Ss,min_le_right->afw,min_self->Vd,mod_eq_of_lt->afx,mul_le_mul_left->BE,mul_le_mul_right->KR,ne_of_gt->Hh,ne_of_lt->jS,not_lt_zero->Tf,pow_le_pow_right->Rg,pow_succ->BS,pow_zero->ahU,succ_le_succ->ca,succ_ne_self->afy,testBit_and->af3,testBit_lt_two_pow->V6,toDigits->Hi,toList_repr->af4,zero_add->Hj,zero_le->gI
open Nat.succ renaming inj->ahV
open Ne renaming symm->bI
open Option renaming bind_some->LF,getD_none->afz,isSome_iff_exists->QJ,isSome_map->RS,isSome_some->aeK,map_eq_none_iff->KL,map_eq_some_iff->QP,map_none->Tg,map_some->BM,none->U,or_none->agJ,some->Y
open Option.some renaming inj->gR,injEq->BG
open Or renaming inl->db,inr->cX
open Prod renaming ext->cb,fst->fw,mk->axa,snd->pc
open Prod.mk renaming injEq->Hc
open PyFlat renaming call->BX,calls->vW,row->akw,rows->Hu
open PyInside renaming call->Hd,each->iW,lists->iV,within->BO
open PyProof.Rows renaming AllBare->yW,Call_->AN,Constant_none->Um,IntsAre->yX,IsTup->FA,Subscript_->Xm,args_tuple_getitem->aeR,arrOf->FB,boot_int->av1,boot_isinstance->aga,boot_list->avY,boot_ord->xy,boot_sorted->MH,boot_tuple->Au,callWith_builtin1->avi,callWith_type1->Ae,envOfC->fG,iadd_int->av2,isTrue_plain->Vh,itemOrd->IB,le_int->av6,lexLt->Ll,lex_cons->cG,pairsOf->Fc,seqObj->zq,signs_ofString->avm,slot_tuple_getitem->DA,sortedAll_at->avw,sortedAll_old->avr,sortedHeap->Xo,sortedHeap_at->avs,sortedHeap_old->avn,subscriptTail->Us,subscriptTail_builtinR->V8
open PyProof.Rows.G renaming sorted_tups->avq,tupKeyC->Et
open PyProof.Rows.IsTup renaming new->alW
open PyProof renaming noPylong_small->V7
open PySem renaming Addr->S,Arguments->Yn,Around->eV,BindsTo->Iy,CmpOp->zA,DictEntry->rj,Expr->dz,FuncData->oG,GenState->EJ,Heap->dg,IsEnum->Je,IsPart->xN,IsRangeIter->MF,ItemsOf->EX,Keyword->EY,Model->sD,NameKind->rm,Operator->EK,Paired->jb,Params->AI,PassesOwn->Yt,Program->eP,PyData->xO,Result->Fo,Scope->jE,Shared->aO,Stmt->bY,Value->J,Within->Hk,World->dZ,arm_exec_Raise->TL,assign->Jf,assignEach->Cd,atKey->zB,attributeBase->yF,backTo->iS,backToKw->sj,behindInMarks->Al,binaryOp->yR,bindC->AO,bindL->AQ,bootBuiltins->Ao,boot_len->jh,builtinLookup_eq_fast->W_,builtinsNs->Xn,cLine->pS,call->px,callWith->vn,call_meets->El,callerA->IA,cellsFrom->mX,checkBuiltinCall->afB,codeAny->vp,codeAny_builtin->agb,codeAny_call_builtin->Rh,codeAny_call_function->X0,codeAny_handlers_test->X1,codeAny_mono->yI,compEnvC->tE,compPost->Ia,compareOp->nU,entries->vq,entryOfKey->Nd,eval->dU,firstArgMember->Ma,foldedSetIterable->Lz,getAttr->EZ,getItem->xG,getMethod->vg,holding->tG,inplaceOp->Yy,isTrue->CJ,keywordEach->sf,leaving->Fa,letOwnedTupleGo->LQ,mainGlobals->Ca,mem_of_lookup->rV,model->bQ,noteFrame->vh,notedBy->zd,onTheHeap->Yz,passOn->Ve,pastItsLine_dict->Sy,plainObj_wpAny_Assign_Attribute->QA,pushCells->Av,pushCells_keeps->LR,pyIter->Jg,pyNext->zp,raiseNew->Ib,raiseStmt->Nz,rawInt->nX,recursionLimit->TM,revObj->CK,rule->AY,seqIndex_neg->Vi,seqIndex_of->Wk,setAttr->Fd,setFlight->Cj,sizeLine->cw,sizeLine_eq->fU,size_of_entries->GT,sliceBounds->Cb,standAt->uz,starEach->dP,storeName->YA,subscripted->MI,swapsWith->vi,sysModules->nS,truthy->Fp,tupleKind->Ew,tupleKind_room_in1->GG,typeLookup->HD,typeLookup_type->agc,typeOf->Jh,unbindBehindTheSuite->Y2,valueAt->AC,wpAny->bH,wpAny_Call_Name_kw->yx,wpAny_Call_method_late->V9,wpAny_Dict_empty->afC,wpAny_Name->Xp,wpAny_Try_except->afD,wpAny_assign_Name->afa,wpAny_attempt->Mi,wpAny_bind->bC,wpAny_call->yM,wpAny_callSpecial?_none->V1,wpAny_callSpecial?_slot->Af,wpAny_call_entry->wU,wpAny_dictEntries->DN,wpAny_dictEpoch->Ti,wpAny_execs_cons->GP,wpAny_execs_nil->BP,wpAny_field->rf,wpAny_forIn_list->afE,wpAny_getItem_of->afF,wpAny_handleBy_cons->Z2,wpAny_handled->Ut,wpAny_holding->wZ,wpAny_isInstance->Sz,wpAny_isOneOf_keyiter->X2,wpAny_isSubtype_exc->GC,wpAny_isTrue_Compare1->X3,wpAny_letGo->Wl,wpAny_letOwnedTupleGo_enum->U4,wpAny_loadName_cell->Z3,wpAny_loadName_local->Y3,wpAny_loadPart->TN,wpAny_loadPart'->uj,wpAny_loadPart_at->yA,wpAny_lookBehind->SA,wpAny_madeBy_exc->afG,wpAny_mono->kX,wpAny_newFunctionEnv_cells->U5,wpAny_newObj_type->vR,wpAny_notOrdered_dict->X4,wpAny_nsSet1->Vj,wpAny_passesOwn->BQ,wpAny_pure->dA,wpAny_pyIter_enum->LA,wpAny_pyIter_list->afb,wpAny_pyIter_range->aeS,wpAny_pyIter_rangeiter->V_,wpAny_pyIter_slot->RY,wpAny_pyIter_tuple->Lm,wpAny_pyIter_zip->afH,wpAny_pyNext_range_end->W0,wpAny_rule->Nf,wpAny_seqItems->TQ,wpAny_sequenceKey->afc,wpAny_setField->wX,wpAny_specialOf->GU,wpAny_standAt->Am,wpAny_throw->MJ,wpAny_truthy_bool->vS,wpAny_typeNameOfWhole_keyiter->Kx,wpAny_typeNameOf_keyiter->KG,wpAny_typeOf->Mr,wpAny_updateSeq->agd,wpAt_bind->af8,wpAt_of_wpAny->Z1
open PySem.Around renaming frames_deeper->X6,under->UW
open PySem.Builtin.Dict renaming dictSlotNone->avt,keyAndDefault->avo,pendingCount->avu,showsAll->W1,takeOut->X7
open PySem.Builtin.Dict_items renaming ownsTuple->T7
open PySem.Builtin.List renaming listExtendWith->Kz,listItems->V3,listLengthHint->avk,listSameRef->U6,listTooLong->Gm,listUpdate->avV
open PySem.Builtin.ObjectAttr renaming newKeyGuard->S_,storeInDict->Kw,storeInOwnDict->avg
open PySem.Builtin.Range renaming rangeFitsLong->avl,rangeSize->Gn,small->Y5
open PySem.Builtin.Slice renaming sliceAdjust->QD,sliceApplied->U0,sliceFields->avv,slicePartIndex->avj,slicePlaces->KC
open PySem.Builtin.SmallTypes renaming calledThroughType->cD,nextOf->KE
open PySem.Builtin.Tuple renaming tupleCompareSizes->avh,tupleExact->KF,tupleIsExact->avp,tupleItemsOf->U1
open PySem.Builtin renaming bitAnd->TH,bitNot->Ah,bitOr->Mg
open PySem.Calls renaming Name_function_global->U2,callWith_builtin->KJ,evalArgs_plain->Rc,spliced_cons->RC,spliced_nil->RQ
open PySem.Challenge renaming pw_saymessages_s01_answers->k8
open PySem.CmpOp renaming In->cz,NotIn->ai0
open PySem.Code renaming frames->ai1,isFrame->UY,quiet_builtin->aeC
open PySem.Data renaming seq->NV
open PySem.EntryCells renaming newEntry->Y6
open PySem.EqMixed renaming eq_bool_str->avx,eq_int_str->avJ,eq_str_bool->avy,eq_str_int->avK,ne_bool_str->avz,ne_int_str->avL,ne_str_bool->avA,ne_str_int->avM
open PySem.EqNone renaming eq_bool_none->avB,eq_int_none->avN,eq_none_bool->avC,eq_none_int->avO,eq_none_none->avD,eq_none_str->avP,eq_str_none->avQ,ne_bool_none->avE,ne_int_none->avR,ne_none_bool->avF,ne_none_int->avS,ne_none_none->avG,ne_none_str->avT,ne_str_none->avU
open PySem.F renaming args_dict_keyiterator_iter_1->T2,args_dict_keyiterator_next_1->T4,args_list_extend_2->X8,args_tuple_iterator_next_1->T8,entry_dict_keyiterator_iter->T5,entry_dict_keyiterator_next->T6,entry_list_extend->Y7,entry_tuple_iterator_next->T_,excBase_Exception->QH,plainAttrs_list->kz,slot_dict_iter->afp,slot_dict_keyiterator_iter->Ky,slot_dict_keyiterator_next->Bs,slot_dict_len->LK,slot_dict_pop->W6,slot_enumerate_next->W2,slot_list_append->pH,slot_list_extend->vN,slot_list_pop->W7,slot_tuple_count->U7,slot_tuple_index->QK,slot_tuple_iterator_next->KA,type_list_append->pI,type_list_extend->vO,type_list_pop->W8,type_tuple_index->U8
open PySem.Heap renaming ExtBut->Wi,SameBut->xf,get?_push_at->ae1,get?_push_of_some->iZ,get?_push_size->kh,get?_update_other->QO,get?_update_self->Bz,lt_size->fS,size_push->qb,size_update->afq
open PySem.Heap.IsSliceOf renaming new->av8
open PySem.Heap.Ns1 renaming of_empty->ae0
open PySem.Heap.SameBut renaming update->Gz
open PySem.IsRange renaming new->ai4
open PySem.IsiPair renaming int_int->av3,int_tuple->avW,tuple_int->avX,tuple_tuple->avH
open PySem.NameKind renaming cell->Uq,free->DW
open PySem.Obj renaming cls_mapFields->Ly,data_mapDictKeys->Y1,data_mapFields->yu,isFreed_of_fields->Gr,mapFields->vb,mapSeq->At
open PySem.Paired renaming length->vV,snoc->ai5
open PySem.PyData renaming canLay0->Ai,canLayAll0->yz,depth->An,depthAll->BN,eqv->wc,eqvAll->wY
open PySem.SeqAt renaming EqAt->Xl,shaped->xh
open PySem.SeqAt.EqAt renaming int_int->aeO,int_str->aeP,str_int->aeQ
open PySem.Str renaming ofString->mF
open PySem.Value renaming bool->yL,builtin->He,bytes->ai7,float->ai8,int->yO,isInt->ai9,isStrOf->ahh,none->jL,ref->dR,str->Ny,type->xp
open PySem.Value.type renaming inj->agK
open PySem.W.Codec renaming app->Yo,denoteAll->Ta,encAll->Hg
open PySem.W renaming Frag->cp,InstAt->LY,Looks->rG,WData->ml,WRecords->afA,WellAll->zb,any_some->LG,bind_fn->af5,callWith_K->yw,callWith_K0->KZ,cellsFrom_some->QQ,check_slot->aeL,cls_value->ae6,codeIn->TJ,codeRec_of->aeM,emptyDict->wS,exmOne->ul,exm_one->af6,findIn->i_,findObj_own->Y_,fnOf->BU,handedIn->Su,hasDictIn->DM,instObj->yD,isFn->Mq,keepIn->j5,kin_notT->af,length_le_weightAllW->T9,lookIn->LZ,looks_clsIn->La,looks_findIn->Gw,looks_mroIn->Z0,makesIn->af7,methodCall_KW->DF,methodObj->RT,method_cls->aeN,mroIn->Ur,nsIn->c_,plainGet->LH,plainGet_of->Rr,plainOver->o0,set_plain->RU,specialIn->p5,takerIn->Th,takesIn->aj,typeIn->TK
open PySem.W.Looks renaming here->MY
open PySem.W.WData renaming int->ae,weightAll->LP
open PySem.Walks renaming list->akx,range->aja
open PySem.Within renaming cons->RV,nil->awk
open PyWrsayk renaming answers->Sv,answers_asked->By,bound->GZ,shape->FC,whole->wC
open SayNeutral renaming S->Vf,asked1->ae9,callOf->RW,nats->DQ,start->Sw,step->DR,text->ki,told->re
open Sk renaming Answer->yN,Args->wm,Bytes->aP,CATEGORIES->Xj,Call->qf,DEEP->C5,Entry->jz,GROUP->EL,HIGH->tP,KEYS->C6,LANGUAGES->Eb,LONG->C7,LOW->CI,Language->cq,Msg->jc,OTHER->rn,PLURAL->Yu,Pick->Ou,SELECT->Yv,SEP->wu,State->nW,TERMS->bG,Term->j3,Ways->Iz,argAt->kL,ascii->gO,backOf->Yw,before->mO,category->As,categoryFrom->af9,chain->AR,chainOf->oE,change->we,common->nk,cutLine->MZ,dash->xF,decimal->wd,digitsIn->rp,endsWell->vd,entryText->Ec,find->gt,fits->C8,hexOf->vm,holds->Cn,inGroups->MG,isDigit->mZ,isKeyByte->Ev,isName->lE,isTag->fh,isTagByte->Hl,kitIn->Co,line->yY,linesIn->Fb,lookUp->Ch,mask->AX,missing->Cc,nameOf->Yx,natOf->AS,naturals->Cq,next->Cz,nth->sv,numberKey->Ci,numeral->qg,odd->zo,ofKey->xw,ofTag->uw,oneOf->qk,ownKeys->pJ,putEntry->BY,readMsg->Na,readOn->kM,render->kD,says->ji,sepIn->EM,sizeIn->zr,slotIn->uv,slotsOf->IC,sound->xx,special->AB,spread->CM,start->ZD,step->rA,strange->Nb,tells->Cp,termOf->Nw,termText->BZ,termsFrom->Ed,termsOf->Nc,want->AA,wholeIn->uA,wordKey->ID,words->iJ
open Sk.Arg renaming none->ai6
open Sk.Entry renaming key->Yp
open Sk.Language renaming entry->RX,tag->qD,text->DP
open Sk.Msg renaming char->ZB,hash->ZC,names->Yr,other->Ys
open Std.Legacy renaming Range->Sx
open Std.Legacy.Range renaming forIn_eq_forIn_range'->avf
open Sum renaming inl->gJ,inr->qJ
open True renaming intro->yK
open UInt8 renaming lt_iff_toNat_lt->W9,ofNat->xj,toNat->Hv,toNat_inj->rW,toNat_ofNat'->DI
theorem Z{α:Sort u}{a:α}:a=a:=rfl
abbrev bp:=@if_neg
abbrev bz:=@if_pos
abbrev bK:=@absurd
abbrev fL:=@congrArg
abbrev gu:=@decide_eq_false
abbrev im:=@decide_eq_true
abbrev iw:=@not_or
abbrev ja:=@decide_eq_true_eq
abbrev jT:=@beq_iff_eq
abbrev lN:=@of_decide_eq_true
abbrev kY:=@and_true
abbrev mj:=@true_and
abbrev nN:=@of_decide_eq_false
abbrev qC:=@beq_eq_false_iff_ne
namespace L2
end L2
namespace Sm
end Sm
namespace Rm
end Rm
open PySem PySem.Spec PyProof.Rows L2 Sm Rm
noncomputable section
namespace L2
inductive bN{a:Sort _}{b:Sort _}(e:a->b->Prop):Prop|i (c:a) (d:b) (h:e c d)
inductive gG{a:Sort _}{b:Sort _}{c:Sort _}(j:a->b->c->Prop):Prop|i (d:a) (e:b) (f:c) (h:j d e f)
inductive mr{a:Sort _}{b:Sort _}{c:Sort _}{d:Sort _}(l:a->b->c->d->Prop):Prop|i (e:a) (f:b) (j:c) (k:d) (h:l e f j k)
inductive mv{a:Sort _}{b:Sort _}{c:Sort _}{d:Sort _}{e:Sort _}(n:a->b->c->d->e->Prop):Prop|i (f:a) (j:b) (k:c) (l:d) (m:e) (h:n f j k l m)
inductive vJ{a:Sort _}{b:Sort _}{c:Sort _}{d:Sort _}{e:Sort _}{f:Sort _}(p:a->b->c->d->e->f->Prop):Prop|i (j:a) (k:b) (l:c) (m:d) (n:e) (o:f) (h:p j k l m n o)
inductive JS{a:Sort _}{b:Sort _}{c:Sort _}{d:Sort _}{e:Sort _}{f:Sort _}{j:Sort _}(r:a->b->c->d->e->f->j->Prop):Prop|i (k:a) (l:b) (m:c) (n:d) (o:e) (p:f) (q:j) (h:r k l m n o p q)
inductive Qk{a:Sort _}{b:Sort _}{c:Sort _}{d:Sort _}{e:Sort _}{f:Sort _}{j:Sort _}{k:Sort _}(t:a->b->c->d->e->f->j->k->Prop):Prop|i (l:a) (m:b) (n:c) (o:d) (p:e) (q:f) (r:j) (s:k) (h:t l m n o p q r s)
inductive Ex9{a:Sort _}{b:Sort _}{c:Sort _}{d:Sort _}{e:Sort _}{f:Sort _}{j:Sort _}{k:Sort _}{l:Sort _}(v:a->b->c->d->e->f->j->k->l->Prop):Prop|i (m:a) (n:b) (o:c) (p:d) (q:e) (r:f) (s:j) (t:k) (u:l) (h:v m n o p q r s t u)
inductive at4{a:Sort _}{b:Sort _}{c:Sort _}{d:Sort _}{e:Sort _}{f:Sort _}{j:Sort _}{k:Sort _}{l:Sort _}{m:Sort _}(x:a->b->c->d->e->f->j->k->l->m->Prop):Prop|i (n:a) (o:b) (p:c) (q:d) (r:e) (s:f) (t:j) (u:k) (v:l) (w:m) (h:x n o p q r s t u v w)
inductive at5{a:Sort _}{b:Sort _}{d:Sort _}{e:Sort _}{f:Sort _}{j:Sort _}{k:Sort _}{l:Sort _}{m:Sort _}{n:Sort _}{c:Sort _}(z:a->b->d->e->f->j->k->l->m->n->c->Prop):Prop|i (o:a) (p:b) (r:d) (s:e) (t:f) (u:j) (v:k) (w:l) (x:m) (y:n) (q:c) (h:z o p r s t u v w x y q)
inductive aw3{a:Sort _}{b:Sort _}{e:Sort _}{f:Sort _}{j:Sort _}{k:Sort _}{l:Sort _}{m:Sort _}{n:Sort _}{o:Sort _}{c:Sort _}{d:Sort _}(B:a->b->e->f->j->k->l->m->n->o->c->d->Prop):Prop|i (p:a) (q:b) (t:e) (u:f) (v:j) (w:k) (x:l) (y:m) (z:n) (A:o) (r:c) (s:d) (h:B p q t u v w x y z A r s)
inductive aw4{a:Sort _}{b:Sort _}{f:Sort _}{j:Sort _}{k:Sort _}{l:Sort _}{m:Sort _}{n:Sort _}{o:Sort _}{p:Sort _}{c:Sort _}{d:Sort _}{e:Sort _}(E:a->b->f->j->k->l->m->n->o->p->c->d->e->Prop):Prop|i (q:a) (r:b) (v:f) (w:j) (x:k) (y:l) (z:m) (A:n) (B:o) (C:p) (s:c) (t:d) (u:e) (h:E q r v w x y z A B C s t u)
inductive aw5{a:Sort _}{b:Sort _}{j:Sort _}{k:Sort _}{l:Sort _}{m:Sort _}{n:Sort _}{o:Sort _}{p:Sort _}{q:Sort _}{c:Sort _}{d:Sort _}{e:Sort _}{f:Sort _}(P:a->b->j->k->l->m->n->o->p->q->c->d->e->f->Prop):Prop|i (r:a) (s:b) (x:j) (y:k) (z:l) (A:m) (B:n) (C:o) (E:p) (H:q) (t:c) (u:d) (v:e) (w:f) (h:P r s x y z A B C E H t u v w)
inductive at6{a:Sort _}{b:Sort _}{k:Sort _}{l:Sort _}{m:Sort _}{n:Sort _}{o:Sort _}{p:Sort _}{q:Sort _}{r:Sort _}{c:Sort _}{d:Sort _}{e:Sort _}{f:Sort _}{j:Sort _}(X:a->b->k->l->m->n->o->p->q->r->c->d->e->f->j->Prop):Prop|i (s:a) (t:b) (z:k) (A:l) (B:m) (C:n) (E:o) (H:p) (P:q) (T:r) (u:c) (v:d) (w:e) (x:f) (y:j) (h:X s t z A B C E H P T u v w x y)
def JZ(h:¬a->False):a:=Gi h
theorem x1{c:Type _}{b:c}{a:Prop}(h:Y b=U):a:=by cases h
theorem x2{c:Type _}{b:c}{a:Prop}(h:U=Y b):a:=by cases h
theorem x3{a:Prop}(h:M=I):a:=by cases h
theorem x4{a:Prop}(h:I=M):a:=by cases h
theorem x5{d e:Type _}{b:d}{c:e}{a:Prop}(h:Es b=UZ c):a:=by cases h
def x6{d e:Type _}{b:d}{c:e}(h:UZ c=Es b):a:=by cases h
def x7{a:Type _}{c:a}{l:List a}(h:c::l=[]):b:=by cases h
def x8{a:Type _}{c:a}{l:List a}(h:[]=c::l):b:=by cases h
end L2
section
open Lean in
def tmQ:="(~erm.paren 3\t(~erm.hygienicLParen 2\t'(\t(hygieneInfo 1\t[anonymous]\t"
open Lean in
def tmG(f:Nat)(s:Syntax):String:=match f,s with
 |n+1,.node _ k a=>a.foldl (λs x=>s++tmG n x) ("("++((toString k).replace "Lean.Parser.T" "~")++s!" {a.size}\t")
 |_,.atom _ v=>s!"'{v}\t"
 |_,.ident _ _ n _=>s!"{n}\t"
 |_,_=>"'\t"
open Lean in
local macro_rules(kind:=Lean.Parser.Command.declaration)
 |s=>do
  let x:=s[1][1][1][0][1]
  unless s[1].isOfKind `Lean.Parser.Command.example&&x[0].getId==`tm do Macro.throwUnsupported
  let r:=(x[1].getArgs.map λx=>(tmG 999 x[1][0]++tmG 999 x[1][2][0]).replace tmQ "\x01").toList
  let v:=quote ((r.map λs=>s.toList.head!).eraseDups.map λc=>"\n".intercalate (r.filter λs=>s.toList.head!==c))
  `(command|def $(mkIdent `tmB):ident := $v)
example:tm (lia,by(first|assumption|exact dQ _|exact yG (by assumption)|exact fZ (by assumption) (by assumption)|exact jw (by assumption) (by assumption)|exact aeJ (by assumption) (by assumption)|exact BJ _ _|exact Nat.le_add_left _ _|exact Nat.sub_succ_lt_self _ _ (by assumption)|exact Nat.lt_succ_of_le (by assumption)|exact ae5 (by assumption)|exact Nat.le_of_lt_succ (by assumption)|exact Nat.lt_of_le_of_ne (by assumption) (by assumption)|exact Te (by assumption) (Sr (by assumption))|exact fZ (by assumption) (by decide)|exact aeJ (by assumption) (by decide)|cutsat)) (cas,by(first|subst z1|exact L2.x1 z1|exact L2.x2 z1|exact L2.x3 z1|exact L2.x4 z1|exact L2.x5 z1|exact L2.x6 z1|exact L2.x7 z1|exact L2.x8 z1|exact L2.xV z1|exact L2.xH z1|(replace z1:=gR z1;cases z1)|(replace z1:=L2.V.ref.inj z1;cases z1)|(replace z1:=L2.V.int.inj z1;cases z1)|(replace z1:=L2.V.str.inj z1;cases z1)|(replace z1:=L2.HO.lst.inj z1;cases z1)|(replace z1:=L2.HO.tup.inj z1;cases z1)|(replace z1:=ahe z1;cases z1)|(obtain ⟨z8,z9⟩:=axa.inj z1;clear z1;cases z8;cases z9)|(obtain ⟨z8,z9⟩:=List.cons.inj z1;clear z1;cases z8;cases z9)|cases (z1))) (bvo,by(first|assumption|exact bD|(refine gc (by assumption) ?_;bv_omega)|(refine bO (by assumption) ?_;bv_omega)|(refine Le.up (by assumption) ?_;bv_omega)|(refine Le.off (by assumption) (by assumption) ?_;bv_omega))) (siw,by(first|assumption|exact Le.refl|(refine Le.f7 ?_ (by assumption);simp_wf)|(refine Le.put ?_ (by assumption);simp_wf)|(refine Le.trans ?_ (by assumption);simp_wf))) (clw,by(first|assumption|exact cZ.of (by bv_omega)|exact cJ.of (by bv_omega)|exact db (cJ.of (by bv_omega))|exact cX (cZ.of (by bv_omega))|(refine cZ.mono (by assumption) ?_;simp_wf)|(refine cJ.mono (by assumption) ?_;simp_wf)|(refine Seq.mono (by assumption) ?_;simp_wf))) (lkk,by(repeat (first|refine ⟨_,rfl,?_⟩|refine ⟨_,_,rfl,rfl,?_⟩|refine ⟨_,_,rfl,?_⟩|refine arO (by bv_omega) rfl ?_|refine apY (by bv_omega) rfl ?_|refine asw (by bv_omega) (Nat.le_of_ble_eq_true rfl) ?_|refine ⟨rfl,?_⟩|refine ⟨_,_,rfl,by clean_wf,?_⟩|refine ⟨db ⟨rfl,_,cJ.of (by bv_omega)⟩,?_⟩|refine ⟨⟨_,by clean_wf⟩,?_⟩|refine append_at (by bv_omega) ?_ ?_|refine ⟨_,_,_,rfl,by bv_omega,rfl,?_⟩|refine ⟨_,_,by bv_omega,Nat.le_of_ble_eq_true rfl,?_⟩|refine kQ ?_|refine jY ?_))) (oaa,by(rcases z1 with z2)) (obb,by(refine JZ λz8=>?_;rcases z1 with z2;refine z8 ?_;clear z8)) (oca,by(cases z1)) (oty,(z1:z2)) (dha,gy z1 z2 (eO z3)) (dhb,⟨rfl,rfl,rfl,by decide +kernel,rfl,by decide +kernel,by decide +kernel⟩) (dhc,∀ [T : dL g],z1 z2 z3) (dca,g.qV z1 z2) (dcb,g.pC z1 z2 z3) (dh0,λ[T : dL g]=>z1 z2 z3 (λ_ _ _ _ _ _=>us0 rfl) bj λf cdv A outer s H vs hr h=>by (obtain ⟨rfl,h⟩:=h;refine ⟨_,z4,?_⟩;try dsimp only [eJ,jC,jF,jA];exact z5)) (dh1,λ[T : dL g]=>z1 z2 z3 (λ_ _ _ _ _ _=>mU <|λ_=>rfl) nI λf cdv A outer s H vs hr h=>by (obtain ⟨v1,rfl,h⟩:=h;refine ⟨_,z4,?_⟩;try dsimp only [eJ,jC,jF,jA];exact z5)) (dh2,λ[T : dL g]=>z1 z2 z3 (λ_ _ _ _ _ _=>sV <|λ_ _=>rfl) tV λf cdv A outer s H vs hr h=>by (obtain ⟨v1,v2,rfl,h⟩:=h;refine ⟨_,z4,?_⟩;try dsimp only [eJ,jC,jF,jA];exact z5)) (dh3,λ[T : dL g]=>z1 z2 z3 (λ_ _ _ _ _ _=>Aa <|λ_ _ _=>rfl) Bd λf cdv A outer s H vs hr h=>by (obtain ⟨v1,v2,v3,rfl,h⟩:=h;refine ⟨_,z4,?_⟩;try dsimp only [eJ,jC,jF,jA];exact z5)) (dh4,λ[T : dL g]=>z1 z2 z3 (λ_ _ _ _ _ _=>Bm <|λ_ _ _ _=>rfl) Dk λf cdv A outer s H vs hr h=>by (obtain ⟨v1,v2,v3,v4,rfl,h⟩:=h;refine ⟨_,z4,?_⟩;try dsimp only [eJ,jC,jF,jA];exact z5)) (dh5,λ[T : dL g]=>z1 z2 z3 (λ_ _ _ _ _ _=>us5 <|λ_ _ _ _ _=>rfl) R1 λf cdv A outer s H vs hr h=>by (obtain ⟨v1,v2,v3,v4,v5,rfl,h⟩:=h;refine ⟨_,z4,?_⟩;try dsimp only [eJ,jC,jF,jA];exact z5)) (arf,autoParam z1 tmA0._auto_1) (ade,autoParam z1 tmA1._auto_1) (afo,autoParam z1 tmA2._auto_1) (afi,autoParam z1 tmA3._auto_1) (ain,autoParam z1 tmA4._auto_1) (awu,autoParam z1 tmA5._auto_1) (anb,autoParam z1 tmA6._auto_1) (anc,autoParam z1 tmA7._auto_1) (afox,by(first|show tO|assumption)) (afix,by(first|show .inl Z|show .inr Z|assumption)) (anbx,by(first|show u5 _ (by decide) (by decide)|rfl)) (ancx,by(first|show db Z|show cX (db Z)|show cX (cX Z))) (a,by first|show db Z|show cX Z) (b,dJ (r:=dF g.K) dI z1 z2 (λ_ _=>rfl)) (c,by simp) (d,by lia) (e,eJ (fz P w) P w K mg cu aM bX) (f,Inv X ap σ) (g,(by decide+kernel,by decide+kernel)) (i,by decide) (j,D e b (.lst ([.int a.ret,.int (a.nums.length:Nat)]++a.nums.map nV++[.int (a.bytes.length:Nat)]))) (k,fG bX aX s0.1.1.size fn cd) (l,bL (N 0) Z) (n,eG (i:=z1) z2 Z ?a) (o,D (D (D d0 m (.ins g.gU a5 (dS "language" (.ref b) (qK (.ref b2) (.int b0) (.int a8) (.ref o) (qt a4) b4)))) B (.tup [])) m (.ins g.gU a5 (dS "last_key" (.ref B) (dS "language" (.ref b) (qK (.ref b2) (.int b0) (.int a8) (.ref o) (qt a4) b4))))) (q,F z1 aD) (r,bH (bQ X.1 X.w) X.A) (s,.ref a) (t,List cq) (u,bQ X.1 X.w) (v,λ_ _ _ _ _ _=>mU λ_=>rfl) (w,by decide+kernel) (y,gq jx (by rfl) T.7 jh) (z,.lst ([.int a.ret,.int (a.nums.length:Nat)]++a.nums.map nV)) (A,.ins g.Language) (B,fF z1 z2 z3 (fi _)) (C,.int (a.nums.length:Nat)) (D,.Call (.Attribute o m gQ) z1 []) (E,fV (N 0) z1 Z) (F,("__debug__":Str)) (G,dP z1 X.env) (H,List (S×Obj)) (I,D (D A p (.dT (b_ H (bk b) (.ref a1)))) l (.ins g.gU a5 (dS "last_key" (.ref n) (qK (.ref a6) (.int (k+d+1:Nat)) (.int P) (.ref x) (.ref a4) (.ref b6))))) (J,.ref d) (K,bH (bQ a.1 a.w) a.A z1 z2 a.xe) (L,gW z1 z2 (λa=>nomatch a)) (M,.lst []) (N,Q a.1.1+1) (O,Q s.1.1) (P,gE (i:=z1) z2 z3 ?_) (Q,.type "list") (R,jB (i:=z1) z2 Z ?a) (S,iX (.ref j) z1 (.ref a1) (.ref q) (.ref p)) (T,(_,Z,Z,ki r0,ki b,by change[r0.map V.int,b.map V.int]=_;rw[lF c,lF d],lG ?d,lG ?d,Z)) (U,gK (N 0)) (V,dU z1 X.env) (W,cQ z1 z2 (?q (?b (N 2) bP))) (X,(_,bw (dO (zj a e Z T.vk c b .nil tO (F (N 0) (F (om oJ bP) (?q (ib aD)))))),?_)) (Y,eX z1 Z Z) (Z,λ_ _ _ _ _ _=>sV λ_ _=>rfl) (aa,by bv_omega) (ab,.inr (.inl a)) (ad,s.1.push {cls:=.type "dict",data:=.dict #[]}) (ae,mX (s3.heap.objs.size+1) b.names (ng X.env.cells b.names [])) (af,c.1.push {cls:=.type "range",data:=.fields #[.int a e,.int b f,.int 1 h]}) (ag,eA g.K) (ah,e::es) (ai,.inl a) (aj,(_,Z,Z,ki r0,by change[r0.map V.int]=_;rw[lF b],lG ?d,Z)) (ak,so (lc hr) z1 z2 (λ_ _=>rfl)) (al,(0,255,0,100)) (am,PE X) (an,fG bX aX s.1.1.size f cd) (ao,fH z1 (bw (lh nR hr)) gB) (ap,h.get? a) (aq,PS z1 (.Try [.Expr (?D [] gF) zN] [.ExceptHandler (Y (.Name x np)) U [.Raise (Y (.Call (.Name xW p) [e] [] wI)) U Dm] tT] [] [] pos)) (ar,lR X.1 X.w X.K X.mg X.base z1 k f) (as,.Call z1 z2 []) (au,List V) (av,.ref b) (aw,D z1 aE (.lst (((zs.take b).filter P).map f))) (ax,bH (bQ dm w) A z1 z2 E s) (ay,.type "tuple") (az,dS "fallback" (.ref p) (iX (.ref u) (.ref g.mG) (.ref w) ?J (.ref e))) (aA,cQ z1 hr) (aB,.ins g.Answer) (aC,.ref c) (aD,List S) (aE,bH _ _ z1 _ _) (aF,D (D f a (?aB c [("number",d)])) a (?aB c [("number",d),("row",i)])) (aG,.inl Z) (aH,by simp[a]) (aI,bK (show I=M from k) kU) (aJ,by first|show db rfl|show cX rfl) (aK,jk B0 B H r b p ls pre) (aL,XR g.lD z1 (-1) []) (aM,kO kz pH pI oZ) (aN,a+1) (aO,(a:Int)) (aP,λc=>f (by simp[c])) (aQ,Gl (?e aX fn cd A outer s0 H0 E)) (aR,b_ l (gJ (i:Int))) (aS,(_,(bx (?E (N 1)) (bx (?E (N 2)) (bw (?E (N 3))))),?_)) (aT,.inr (.inr (.inr a))) (aU,gt st.langs) (aV,(_,Z,b.toNat,ki r0,Fs c,by change[r0.map V.int]=_;rw[lF d],lG ?d,Z)) (aW,fX a.size) (aX,List J) (aY,.ref e) (aZ,D z1 aE (.lst (ys.take b))) (a0,b.1.push (CK a ((bi.toArray.size:Int)-1))) (a1,Y (.tup (bT c))) (a2,dQ _) (a3,qk (if C5-R ls=0 then[EL]else[EL,Yu,Yv])) (a4,b+1) (a5,gO "language") (a6,zd (bQ c d) a b λe i=>j (.error e) i) (a7,Binds X.K fd ps) (a8,s.1.update z1 (vb (·.setIfInBounds 3 jL))) (a9,N 1) (ba,.ins g.b8 q (dS "parts" (.ref w) (vt (.ref m) (.int ((b+1+1:Nat):Int)) ?J (.ref E) (.ref v)))) (bb,hU (λd=>?_) (λd=>?_)) (bc,rd (C5-R ls) (.message (lT ls) (!ls.isEmpty))) (bd,by simp_wf) (be,lR P w K mg cu (fz P w)) (bf,Inv X) (bg,gW z1 z2 (λb=>nomatch b)) (bh,out w a ((b,n,p)::r)) (bi,Option Int) (bj,bT ((c.drop b).take a)) (bk,.ref l) (bl,List aP) (bm,D (D c b (.own a)) a) (bn,if h=?a5 then(pQ m e).map λ b=>(axa b (R a+1))else if h=gO "rule" then(pi m e).map λ b=>(axa b (R a+1))else if h=gO "message" then(pT m r e).map λ j=>(axa (j.1) (R a+1+(j.2+1)))else U) (bo,Y (.tup (bT a))) (bp,gO "message") (bq,(_,bw (dO (zj a e Z T.vk c b .nil tO (F (N 0) (F (om oJ bP) (?q (ib (?q ?a9))))))),?_)) (br,.lst [.int a.ret,?C]) (bs,hU (λb=>?_) (λb=>?_)) (bt,.eI z1 (.dT k)) (bu,dS "fallback" (.ref p) (iX (.ref a5) b (.ref w) ?J ?aY)) (bv,((out w a ((c,n,p)::r)).1,b::(out w a ((c,n,p)::r)).2)) (bw,(r,d,e+1,_,_,_,Z,(c4,e0,P,d4),by lia,λk a5=>(X k (E.trans a5)).mono n,λm b p o q c l b1 b2 b3 b4 b5 b6 c0 c1 c2=>(m,b,p,o,c,l,Z,b1,b2,b3,b4,b5,b6,c0,c1,c2))) (bx,(a.ok.mod,a.ok.kind,a.ok.i7,a.ok.blt,a.ok.above,a.ok.inj,a.ok.has,a.ok.8,a.ok.hd,a.ok.frames,a.ok.qY,a.ok.Ds,a.ok.bs,a.ok.ua,a.ok.Bf,a.ok.Bc,a.ok.rM,a.ok.wK)) (bz,(b.toNat:Int)) (bA,s.1.push {cls:=?Q,data:=.seq #[]}) (bB,Rm.out w args) (bC,.ref C) (bD,List Int) (bE,D (D H a (.dK [])) b (.ins g.jG e (dS "arguments" ?s (qu ?aC ?J)))) (bF,λ_ _ _ _ _ _=>Aa λ_ _ _=>rfl) (bG,sj z1 (sf [] X.env)) (bH,Option J) (bI,pre .nil) (bJ,.lst (n.map λc=>V.ref c.1)) (bK,xx a&&a.all λ(n:cq)=>vd n.ways.rules) (bL,.ref f) (bM,List (Str×S)) (bN,D (D H1 l (.lst [?aC])) e (.lst ((pR b).map nV))) (bO,(c=0/\uA e (b.drop e)=.ok (0,(a,b.drop a)))\/(1<=c/\c<=most/\uA e (b.drop e)=.ok (sgn*((nF most c a (b.drop a)).1:Int),(nF most c a (b.drop a)).2))) (bP,kN d e ?c) (bQ,((h.push (uB rest)).push (sA C h.1.size),g,d,t,os)) (bR,b.drop a) (bS,iN P w H h) (bT,.seq a.toArray) (bU,Y (.tup (bT b))) (bV,-9223372036854775808<=a/\a<=9223372036854775807) (bW,(n,_,Z,by rw[<-i];show lY.k (k:=gJ (d:Int)) o,?_)) (bX,iW [(0,9223372036854775807)] [b]&&iV [?al] [r0]) (bY,ul g.K z1 (.ref g.ph)) (bZ,iG B z1 k dl da as mu s) (b0,Q a.1.1) (b1,b7 σ vs) (b2,bK z1 (nQ _)) (b3,ow B0 H0 z1 x dl as mu ls) (b4,(by lia,?_)) (b5,s.1.get? a) (b6,.builtin "object.__setattr__") (b7,by simp;lia) (b8,by change 0<=cw;decide) (b9,fG d e a.1.1.size c b) (ca,.type "BaseException") (cb,iS pos (?G es)) (cc,HT.fX a.length) (cd,gy z1 ["self"]) (ce,s.1.push {cls:=.type "tuple_iterator",data:=.fields #[?bk,.int 0 0]}) (cf,a.drop b) (cg,(b:Int)) (ch,a.1++[a.2]) (ci,uA e (b.drop e)) (cj,λ_ _ _ _ _ _=>Bm λ_ _ _ _=>rfl) (ck,(d,b,a,_,_,_,[125,91,93],rfl,c.rd,c.pb,.inl (_,rfl,OW),λa8 E=>?_)) (cl,ot z1 (d9 B0 H')) (cm,bx (dO (?W sh hr))) (cn,dW::outer) (co,((a.length:Nat):Int)) (cp,gq z1 (by rfl) z2 jh) (cq,List (Str×V)) (cr,D P b (?A x (dS "separator" (.ref w) (?S v)))) (cs,.ref s.1.1.size) (ct,.builtin "type.__call__") (cu,yQ (r:=zH g.K) Ax Z T.zi Au) (cv,.ins z1 z2 []) (cw,sE X.1 X.w X.K X.mg X.base k f fd) (cx,dS "terms" (.ref gX) (iX (.ref a0) P (.ref w) (.ref o) (.ref n))) (cy,rd (C5-(R ls+1)) (.message (a.pl||a.n) M) p) (cz,bx z1 (bw (dM ?a9))) (cA,n _ _) (cB,F z1 (?q (?b (N 2) bP))) (cC,(∀c f,c≠a->d c=Y f->b c=Y f)) (cD,.int a) (cE,X.env.scope.names.lookup a) (cF,g.Met g.b8) (cG,h a d (λo s e=>q o s (fO e f) ?_) f (b,r)) (cH,uH (v:=.ref g.mG) Z T.Az Z) (cI,hU (λc=>?_) (λc=>?_)) (cJ,N 0) (cK,(_,_,_,_,_root_.rfl,a,b,_root_.rfl,bD,?_)) (cL,iW [] []&&iV [?al,?al] [r0,b]) (cM,bH z1 A z2 z3 E s) (cN,.Name z1 p) (cO,k z1 _ b (λ_ _ e=>nomatch e)) (cP,go ls pre p) (cQ,fH z1 z2 gB) (cR,bL z1 Z) (cS,(_,_,_,Z,xL f i d)) (cT,-9223372036854775808<=sgn*((10*c+(o.toNat-48):Nat):Int)/\sgn*((10*c+(o.toNat-48):Nat):Int)<=9223372036854775807) (cU,fh t=I\/(u.isEmpty=I/\fh u=I)\/wu<R w) (cV,d.cells.lookup y) (cW,X.pE E s3 m b ce c) (cX,gy aM ps (eO st)) (cY,by change 1<=cw;decide) (cZ,(_,Z,Z,ki r0,ki b,ki c,by change[r0.map V.int,b.map V.int,c.map V.int]=_;rw[lF d,lF e,lF f],lG ?d,lG ?d,lG ?d,Z)) (c0,lR g.P g.w g.K g.mg g.base (fz g.P g.w)) (c1,(a.length:Int)) (c2,.cons z1 .nil) (c3,W 0 z1 (D H1 aE ?M)) (c4,a.1.push {cls:=.type "slice",data:=.fields #[d,f,.none]}) (c5,l _ _) (c6,.eI q (.dT (hG o k))) (c7,ui (show I=M from a)) (c8,by simp at*;lia) (c9,(_,_,_root_.rfl,a,b,_root_.rfl,bD,?_)) (da,dL g) (db,b.push (zq "list" a.toList.toArray 0)) (dc,.lst ((re a).map V.int)) (dd,kh _ Z) (de,(I,?V e)) (df,f==DW&&c.kind==.function&&c.names.lookup b==Y .cell) (dg,List Key) (dh,.ref j) (di,D (D t d ?M) e (?bt w)) (dj,h _ (λd n m i=>by bv_omega) bD) (dk,.int b) (dl,e _ _) (dm,.lst (oK ((t::p).map V.ref) (Y 1) U)) (dn,(a:Nat)) (dp,XR g.oX z1 (-3) []) (dq,.Attribute o) (dr,N 2) (ds,hU (λa=>?_) (λa=>?_)) (dt,({e with langs:=we e.langs j λ(n:cq)=>{n with entries:=n.entries.filter λ(a:jz)=>a.key !=b}},ji 0)) (du,c9 z1 _ _ _) (dv,mY z1 Z z2 ?i) (dw,gO "rule") (dx,by simpa using e) (dy,by simpa using h) (dz,λ_=>rfl) (dA,PA X ?ah t) (dB,d_ c b.length 0 (b.take i)) (dC,uf (by simp[a];show λc=>f c.symm)) (dD,Array J) (dE,j.turned (t':=s.toks)) (dF,kL args) (dG,V.int _) (dH,dS "outside" e (dS "ends" d (dS "category" c []))) (dI,vv (i:=z1) z2 Z ?_) (dJ,.ins g.jG m (dS "languages" ?J (qu (.ref k) ?aC))) (dK,List Nat) (dL,D E b (?A x (dS "fallback" v (?S (.ref g.mG))))) (dM,.ref h) (dN,.int 0) (dO,hJ z1 a c d z2 cx) (dP,sy (C5-R ls) z1 (!ls.isEmpty)) (dQ,gq wg Z z1 xy (?q lI)) (dR,w z1 z2 _ _ _ _ _ _) (dS,beq_eq_false_iff_ne.mpr h) (dT,ng X.env.cells f.names []) (dU,h.no z1 ?c) (dV,jD (?U f.gw tp k (?q lI))) (dW,x==?F) (dX,(c:Int)) (dY,a.toNat-48) (dZ,if(c.drop b).take a=rn then"other" else"same") (d0,bL ?cJ rfl) (d1,(_,by rw[a];show mV)) (d2,e6 (fz X.1 X.w)) (d3,Sk.Got jc) (d4,List Str) (d5,D d m (.tup [.int (i:Nat),iT j])) (d6,.ref m) (d7,c _ _ ?aG b) (d8,a.env.cells.lookup c) (d9,.type "Exception") (ea,PS (?e aX fn cd A outer s0 H0 E)) (eb,kO kz vN vO) (ec,g.pC z1 g.b8 z2 ["self"]) (ed,a2.reverse.map V.ref) (ee,.eI q (.dT (hG k a))) (ef,ui (show I=M from d)) (eg,(a.toNat:Int)) (eh,jt P w H h) (ei,Af (name:=mF "__next__")) (ej,Binds z1 z2 z3 []) (ek,dA ?_) (el,b9 B0 H0 z1 (x::dl::mu)) (em,(1:Int)) (en,.inr ((xs,xs[b],o,by simp[s]),e ?a4,λq f A=>(xs.length-?a4,by lia,rfl,s,A),λi f p=>?_)) (eo,Le H) (ep,h.get? b) (eq,.BoolOp z1 z2 pos) (er,bK (show I=M from h) kU) (es,hJ z1 z2 z3 z4 .none .none) (et,l z1 _ z2 (λd=>nomatch d)) (eu,XB g.nu z1 z2 (-6)) (ev,dS "separator" (.ref P)) (ew,rA st (.language t u w)) (ex,(b::c::a).length %2=0/\(b::c::a).all nH=M) (ey,decide ((e::es).length+([]:List EY).length+(if([]:List EY).isEmpty then 0 else 1)<30)) (ez,λk p=>by rw[f]at p;cases p) (eA,(b,c.n,c.p)) (eB,(.inl (by rcases t with⟨f,_⟩|⟨f,_⟩<;>rw[f]<;>show(by decide,by decide)),?_)) (eC,.fields ([tb,.ref bg,.none,nX bg,.none]++(if k.isEmpty then vU 6 jL else k)).toArray) (eD,Ia ?u X.A X.xe use Qf ?dh s3.heap.objs.size) (eE,io z1 z2 .it) (eF,?aW a.size c-?aW 0 b) (eG,?an::outer) (eH,List Env) (eI,D m a6 (.lst (q.map V.ref))) (eJ,.ref x) (eK,A.deeper ?k) (eL,Way l) (eM,a _ _) (eN,a.map V.ref) (eO,(_,_,_,_,_,_,_,Z,akx (A:=X.A.in1) (a.ok.hd l) _ f o q.toArray,v,Xe d,λy E m=>?_)) (eP,uz gQ.atName) (eQ,Option Nat) (eR,Le B B') (eS,.lst (n++rest).reverse) (eT,Le.trans ?bd) (eU,.dK (?aR (.int c))) (eV,.ListComp z1 z2 z3 pos) (eW,.inr ((xs,xs[b],p,by simp[t]),e ?a4,λr f E=>(R xs-?a4,by lia,Z,t,E),λj f q=>?_)) (eX,((0:Nat):Int)) (eY,(λb h d c=>h=xs.length-b/\b<=xs.length/\e b d c,(xs.length,by simp,gI _,v),?_)) (eZ,bz Z) (e0,Inv a) (e1,iZ _) (e2,.branch z1 ?bI) (e3,gO "say") (e4,rq (aM:=["kit","feed","call","numbers","count","rows","refused"]) (sc:=eO DX) ?w) (e5,ju B n xs pre) (e6,h.n0 z1 ?c) (e7,az.map fw) (e8,c.2 d (jS (jw (fS b) (a.ok.8 j e a1 i)))) (e9,Rm.jP ((d::c).take i)) (fa,(c,if d=[45]then U else Y d,(b5,[]),[])) (fb,bM.mp h) (fc,ib aD) (fd,qM lZ Z) (fe,jM H' r b z1 (.ref lv) z2 (.ref nm)) (ff,eJ (fz g.P g.w) g.P g.w g.K g.mg g.base) (fg,p+1) (fh,s.1.get? b) (fi,c.bU.fresh ?a2) (fj,bC (m:=Ma _ _) (wpAny_of_eq (a:=jL) (by first|rfl|(simp only[Ma];rfl)) ?_)) (fk,.other ?bI) (fl,b.map V.ref) (fm,iY j H d (d::l::k::m) a z1 _ _) (fn,by simp[d]) (fo,by simp[i]) (fp,(a,d.n,d.p)::b) (fq,by simp[c]) (fr,("number",d)) (fs,iW [] []&&iV [?al] [r0]) (ft,a.names.lookup b) (fu,bQ dm w) (fv,.type "dict") (fw,V.ref a) (fx,out w a) (fy,b9 B H H') (fz,((?aW 0 b:Nat):Int)) (fA,if 0<i/\(R b-i) %3=0 then c else[]) (fB,vi z1 z2 pos.line X.env) (fC,tE z1 z2 z3 X.env) (fD,.ins z1 b) (fE,F z1 (?q ?dr)) (fF,@ED z1 instBEqOfDecidableEq inferInstance) (fG,(λb h d c=>h=R xs-b/\b<=R xs/\e b d c,(xs.length,by simp,gI _,x),?_)) (fH,R xs) (fI,lH ?cJ) (fJ,a3 q u o (by rw[stop (im b)];show n)) (fK,bx (?E (?b ?a9 bP))) (fL,(b,(t.drop k).take d,b0)) (fM,eQ z1 (bk c)) (fN,c.take a) (fO,bK z1 ?c) (fP,a_ je ds) (fQ,v {i with nx:=m,ct:=m,bk:=i.nx} s l) (fR,He "BaseException.__getattribute__") (fS,rd C5 (.message I I) 0 a) (fT,l.map fw) (fU,kQ ?_) (fV,cJ.of bD) (fW,Cg X.ke.tags a3 (Cv a8) (f:=λb=>{b with ways:={b.3 with rules:=r}})) (fX,l.set (R l-1)) (fY,c1 z1 z2 _ _ _ _ _ _) (fZ,by simpa using j) (f0,(_,Z)) (f1,Str×rm) (f2,r::lv::nm::k::e::f::l) (f3,.int c) (f4,f.names.lookup a.1) (f5,g.Met g.gU) (f6,vB (ip:=[("sign",1)]) rO Z Z Z z1 z2 (rq (aM:=["text","sign"]) (sc:=eO Ep) ?w)) (f7,b.same q Z (e.trans (w.trans c)) a) (f8,jw (fS b)) (f9,Q X.8.1.1) (ga,b _ _) (gb,.Attribute (?cN x) m gQ) (gc,a.1.push {cls:=.type "tuple_iterator",data:=.fields #[?bk,?dN 0]}) (gd,jY ?_) (ge,lY.k (k:=gJ (i:Int)) b3) (gf,gW z1 z2 (λk=>nomatch k)) (gg,h.sub c (.inr (by rw[x];simp[a]))) (gh,f b _ (by rw[d];rfl) ?d ?d H' w z) (gi,?O+1) (gj,b.toNat-48) (gk,by rw[d];rfl) (gl,(∀e h,e≠a->d e=Y h->b e=Y h)) (gm,(d.slot,if d.pl=M then 1 else 2)) (gn,MY (s:={s with toks:=s.toks+1}) z1 ?_) (go,h z1 (λe=>nomatch e)) (gp,Du (λσ c d=>Pw K (Do b) σ c d\/PZ K (Do b) σ c d) g z1 te vs σ c) (gq,pD K z1 A) (gr,decide (a=b)) (gs,i_ K ?bC) (gt,PS X (.Assign [?dq f ou] kG pos)) (gu,yw (h₀:=X.base)) (gv,HT.fX c.length) (gw,pure (.type "method_descriptor")) (gx,.seq d.toArray) (gy,.error a) (gz,a.takeWhile Ev) (gA,s.1.DictOfH mS) (gB,om oJ bP) (gC,t.drop k) (gD,oy ((c.drop b).take a)) (gE,bH (bQ d e) a z1 z2 b) (gF,.ExceptHandler (Y (.Name x np))) (gG,pf z A a.1 c (by rw[<-i];show gv _) (by rw[<-j];show gv _) C) (gH,N 3) (gI,h'.push (zq "list" i.toArray 0)) (gJ,(_,Z,_,Z,j,a,f,_,Z,?_,bD,e,q,(by change 1<1000;decide),?_)) (gK,List (κ×V)) (gL,D H a (.dK (?aR ?aC))) (gM,.ref k) (gN,Y (.tup s)) (gO,.inr a) (gP,Option V) (gQ,.lst (z.reverse.map V.ref)) (gR,Le a b) (gS,rq (aM:=["self","words","left","taken","byte","word"]) (sc:=eO Gy) ?w) (gT,b9 i j m (n::e::l)) (gU,λ t n=>t=.cT/\i a n) (gV,.int d) (gW,.ins C dx fs) (gX,.type "object") (gY,c.turned (t':=s.toks)) (gZ,dR ?N) (g0,ze "__init__" q st ps) (g1,a6 k _ (n.trans ((Le.new t).trans (Le.new y))) (n.no a3) bD) (g2,(h,l,s,_,c,a,Z,x,u,v,P,by change fk a<fk e+fk a+1;lia,?_)) (g3,jt X.1 X.w) (g4,iS pos) (g5,e6 CX X E) (g6,f.names.lookup y) (g7,.message d) (g8,cZ.of ?aa) (g9,a.back.getD [45]) (ia,Key×V) (ib,?dg×V) (ic,k+1) (id,λ(a:jz)=>a.key==b) (ie,aP×UInt8) (ig,((c.length:Nat):Int)) (ih,bH (bQ c d) a) (ii,b.take a) (ij,.Compare a z1 z2 pos) (ik,s.1.push wS) (il,p _ _) (im,vR ?_ (by size_fits)) (io,s.1.FunFrames cu ?cn) (ip,go _ _ _) (iq,uG z1 ?l z2 (fi _)) (ir,mn ((nE w p bm,a3,p)::?eA::d)) (is,k _ _) (it,bp (by rw[a];decide)) (iu,(by lia,by lia)) (iv,(bi.length:Int)) (iw,by rw[lC];lia) (ix,({st with langs:=st.langs++[(t,pp u,(w,[]),[])]},ji 0)) (iy,(_root_.rfl,h a e f i d (λ w P j=>A w P (fO j l) ?_) l (b,B) ?_ q x ?_ r y ?_ s z C E H)) (iz,List Rm.Lv) (iA,D v p (?bt t)) (iB,.ref i) (iC,Y .cell) (iD,Option S) (iE,.inr (.inr (.inl z))) (iF,rq (aM:=["digits","signs","values","digit","place"]) (sc:=eO GJ) ?w) (iG,Le c d) (iH,.type "enumerate") (iI,b9 f2 c2 e (m::o::(f1++[b,p,q]))) (iJ,.ins g.jG) (iK,bH (bQ P w)) (iL,ii z1 X.A) (iM,ER (K:=g.K) (a:=z1)) (iN,bx z1 (bw (dM ?gH))) (iO,Rm.go z1 pre) (iP,xD CH z1 (tJ bP) Fl) (iQ,?s::([j,k,l]++[])) (iR,Loc X.env.scope) (iS,yD C s.1.1.size) (iT,bQ P w) (iU,Cu z1 (λ_=>rfl)) (iV,F (N 5) (F (?ak ?a9 (bL (N 5) rfl)) (?q (bL ?dr rfl)))) (iW,.lst (E.map V.ref++[.ref t])) (iX,(.inl (z,a1,go (gu b)),_,Z)) (iY,by simp[b]) (iZ,jt b d a (h.push {cls:=?fv,data:=.dict #[]}) h.1.size) (i0,Str×aP) (i1,c.2 d (jS (?f8 a.ok.above))) (i2,.int (g d e)) (i3,bM.mp b) (i4,.builtin "object.__class__") (i5,Av (s3.heap.push {cls:=?fv,data:=.dict #[]}) b.names) (i6,l.contains a) (i7,cnt ({c with iK:=λt=>c.5 (?e2 c.key t),key:=A}::ls)) (i8,.dT (b_ H (bk b) (.ref a1))) (i9,by simpa using i) (ja,by simpa using m) (jb,(.int d.length,c,f.tok _,(o.toks+1,by rw[jK,j]),n)) (jc,!a.toArray.isEmpty&&Gm (Q a.toArray+Q b.toArray)) (jd,by simpa using f) (je,j&&Cn b.natAbs k) (jf,h'.get? a) (jg,s.1.update c (vb (·.setIfInBounds 1 (nX (?aO+1))))) (jh,g.j6 k aM z1 st sp) (ji,gE (i:=0)) (jj,D ?aF a (?aB c [?fr,("row",i),("text",o)])) (jk,.ref a.1.1.size) (jl,List (Str×J)) (jm,.inr (.inr ?aG)) (jn,bx z1 (bw (dM ?dr))) (jo,b9 x a7 o (gX::z::y::C::a4)) (jp,h.get? c) (jq,RelV v) (jr,Gl X) (js,.inl c) (jt,AV (s:={s with heap:=l}) a) (ju,bC ?_) (jv,c.get? a) (jw,.builtin "len") (jx,FD X.N X.env.scope) (jy,jO g.K) (jz,X.pE E s p b (?fC b T o) c) (jA,g.CN d b c a e) (jB,g.pB 1) (jC,.lst ((zs.filter P).map f)) (jD,beq_iff_eq.mp this) (jE,iY B H k bZ st z1 ah E) (jF,g.qV z1 z2 ["kit","numbers","rows"]) (jG,sE g.P g.w g.K g.mg g.base) (jH,cJ g.K z1 z2 (l.map V.int)) (jI,Rm.posAt (e+1+u) p) (jJ,(d,_,b.k_ c (e.JG f i),a)) (jK,?fz==0&&?em==1&&(?aW a.size d-?aW 0 b)==a.size) (jL,(if wo ls c d then U else(EM u).map _:Option ?t)) (jM,D z1 s.1.1.size) (jN,.ref n) (jO,List ?au) (jP,.inr (.inr h)) (jQ,bO (λ b=>by rw[b,e.no a ?c]at d;cases d) (e.le _ _ d)) (jR,bx z1 (bw (dM (?aA tq (?q bP))))) (jS,X.pE E d c a (?fC a e b) f) (jT,.lst (d.map V.ref)) (jU,b9 c1 a2 z1 (l::x::c0)) (jV,.ref p) (jW,Y (.ref r)) (jX,D H b ?br) (jY,List ?ia) (jZ,.inr ?ab) (j0,X.pE E e c a (?fC a k b) l) (j1,.ref o) (j2,Y (.lst xs)) (j3,D H a) (j4,List ?ib) (j5,Y ?av) (j6,D H1 aE) (j7,List ?f1) (j8,Y ?M) (j9,D d b ?z) (ka,List (Nat×Nat)) (kb,Y .free) (kc,Y (.tup (bT d))) (kd,Y (.lst f)) (ke,Y (.dT [])) (kf,Y ?bk):=0
open Lean in
def tmF(k:Name)(a:Array Syntax):MacroM Syntax:=do
 let u<-Macro.addMacroScope `u
 let v<-Macro.addMacroScope `v
 let k:=toString k++"\t"
 match (((tmB.find? (·.front==k.front)).getD "").splitOn "\n").find? λs=>s.startsWith k with
 |none=>Macro.throwUnsupported
 |some r=>
  let n:=a.size
  let (l,m):=(((r.replace "\x01" tmQ).splitOn "\t").drop 1).dropLast.foldr (λt (s,m)=>match t.toList with
   |'('::_=>let p:=((t.replace "(" "").replace "~" "Lean.Parser.T").splitOn " "
            let c:=(s.take p[1]!.toNat!).toArray
            ((if p[0]!.endsWith "Pat.one"&& !c[0]!.isIdent then c[0]! else mkNode p[0]!.toName c)::s.drop p[1]!.toNat!,m)
   |'\''::c=>(mkAtom (String.ofList c)::s,m)
   |['z','8']=>(mkIdent u::s,m)
   |['z','9']=>(mkIdent v::s,m)
   |['z',c]=>if c.isDigit then (a[c.toNat-49]!::s,max m (c.toNat-48)) else (mkIdent t.toName::s,m)
   |_=>(mkIdent t.toName::s,m)) ([],0)
  return if m<n then match l.head! with
   |.node i k #[f,.node j q b]=>.node i k #[f,.node j q (b++a.extract m n)]
   |s=>s else l.head!
open Lean in
def tmT(k:Name)(a:Array Syntax):MacroM Syntax:=return (<-tmF k a)[1][0][0][0]
open Lean in
def tmP(r:Bool)(f:Nat)(s:Syntax)(b:Nat×Array Syntax):MacroM (Syntax×Nat×Array Syntax):=match f with
 |0=>pure (s,b)
 |f+1=>do
  let k:=s.getKind
  if k==`Lean.Parser.Term.tuple||k==`Lean.Parser.Term.anonymousCtor then
   let mut b:=b
   let mut y:=#[]
   for a in if k==`Lean.Parser.Term.tuple then #[s[1][0]]++s[1][2].getSepArgs else s[1].getSepArgs do
    let (c,d)<-tmP r f a b
    b:=d
    y:=y.push (mkNode `Lean.Parser.Tactic.rcasesPatLo #[mkNode `Lean.Parser.Tactic.rcasesPatMed #[mkNullNode #[c]],mkNullNode])
   return (mkNode `Lean.Parser.Tactic.rcasesPat.tuple #[mkAtom "⟨",mkNullNode (mkSepArray y (mkAtom ",")),mkAtom "⟩"],b)
  let n:=b.1+1
  if k==`num then
   if r then return (mkNode `Lean.Parser.Tactic.rcasesPat.one #[mkIdent `rfl],n,b.2)
   let x:=mkIdent (<-Macro.addMacroScope (.mkSimple s!"e{n}"))
   return (mkNode `Lean.Parser.Tactic.rcasesPat.one #[x],n,b.2.push x)
  return (if s.isIdent then mkNode `Lean.Parser.Tactic.rcasesPat.one #[s] else mkNode `Lean.Parser.Tactic.rcasesPat.ignore #[mkAtom "_"],n,b.2)
open Lean in
local macro_rules(kind:=Lean.Parser.Tactic.tacticLet__)
 |s=>do
  let d:=s[2][0]
  if d.isOfKind `Lean.Parser.Term.letIdDecl then return mkNode `Lean.Parser.Tactic.tacticHave__ #[mkAtom "have",s[1],s[2]]
  let (q,n,v)<-tmP false 99 d[0] (0,#[])
  let (q,v)<-if n<4 then do pure ((<-tmP true 99 d[0] (0,#[])).1,#[]) else pure (q,v)
  let e<-if d[2].getNumArgs==0 then pure d[4] else tmF `oty #[d[4],d[2][0][1]]
  let t<-tmT (if n<4 then `oaa else `obb) #[e,q]
  if v.isEmpty then return t
  return mkNode `Lean.Parser.Tactic.paren #[mkAtom "(",mkNode `Lean.Parser.Tactic.tacticSeq #[mkNode `Lean.Parser.Tactic.tacticSeq1Indented #[mkNullNode (mkSepArray (#[t]++(<-v.mapM λx=>tmT `oca #[x])) (mkAtom ";"))]],mkAtom ")"]
open Lean in
local macro_rules(kind:=Lean.Parser.Tactic.lia)|s=>tmT `lia #[]
open Lean in
local macro_rules(kind:=Lean.Parser.Tactic.tacticBv_omega)|s=>tmT `bvo #[]
open Lean in
local macro_rules(kind:=tacticSimp_wf)|s=>tmT `siw #[]
open Lean in
local macro_rules(kind:=tacticClean_wf)|s=>tmT `clw #[]
open Lean in
local macro_rules(kind:=PySem.W.tacticLk)|s=>tmT `lkk #[]
open Lean in
local macro_rules(kind:=Lean.Parser.Tactic.cases)|s=>let x:=s[1][0]
 if s[1].getNumArgs==1&&x[0].getNumArgs+s[2].getNumArgs+s[3].getNumArgs==0&&x[1].isIdent then tmT `cas #[x[1]] else Macro.throwUnsupported
open Lean in
local macro_rules(kind:=Lean.Parser.Term.app)|s=>if s[0].isOfKind `Lean.Parser.Term.syntheticHole then tmF s[0][1].getId s[1].getArgs else Macro.throwUnsupported
open Lean in
local macro_rules(kind:=Lean.Parser.Term.syntheticHole)|s=>tmF s[1].getId #[]
open Lean in
local macro_rules(kind:=Lean.Parser.Tactic.show)|s=>return mkNode `Lean.Parser.Tactic.refine #[mkAtom "refine",s[1]]
open Lean in
local macro_rules(kind:=Lean.Parser.Term.tuple)|s=>if s[1].getNumArgs==0 then Macro.throwUnsupported else return mkNode `Lean.Parser.Term.anonymousCtor #[mkAtom "⟨",mkNullNode (#[s[1][0],s[1][1]]++s[1][2].getArgs),mkAtom "⟩"]
theorem tmA0(_:True:=by rfl):True:=trivial
theorem tmA1(_:True:=by decide):True:=trivial
theorem tmA2(_:True:=by show ?afox):True:=trivial
theorem tmA3(_:True:=by show ?afix):True:=trivial
theorem tmA4(_:True:=by intro _;rfl):True:=trivial
theorem tmA5(_:True:=by with_unfolding_all rfl):True:=trivial
theorem tmA6(_:True:=by show ?anbx):True:=trivial
theorem tmA7(_:True:=by show ?ancx):True:=trivial
open Lean in
local macro_rules(kind:=Lean.Parser.Command.declaration)
 |s=>do
  if s[1].isOfKind `Lean.Parser.Command.example then
   let x:=s[1][1][1][0][1]
   let a:=x[1].getArgs
   let n:=a.size
   if n<10||x[0].getId==`ab||x[0].getId==`io then Macro.throwUnsupported
   let th (i t v:Syntax):MacroM Syntax:=return (<-`(command|theorem $(⟨i⟩):ident : $(⟨t⟩) := $(⟨v⟩))).raw
   let p:=a[n-3]!
   let q:=a[n-2]![1].getArgs
   let l:=p.setArg 1 (mkNullNode (mkSepArray (p[1].getSepArgs++a[n-2]![1].getSepArgs) (mkAtom ",")))
   let y<-if n==10 then tmF `dca #[a[4]!,a[5]!] else tmF `dcb #[a[4]!,a[5]!,a[6]!]
   return mkNullNode #[<-th a[0]! (<-tmF `dha #[l,p,a[3]!]) (<-tmF `dhb #[]),<-th a[1]! (<-tmF `dhc #[y,p,a[n-4]!]) (<-tmF (.mkSimple s!"dh{p[1].getSepArgs.size}") #[x[0],a[2]!,a[0]!,a[n-1]!,s[1][2][1]])]
  if s.getPos?.isNone then Macro.throwUnsupported
  let t:=s.rewriteBottomUp (·.setInfo .none)
  return if s[1].isOfKind `Lean.Parser.Command.definition&&s[0][1].getNumArgs==0 then t.setArg 0 (t[0].setArg 4 (mkNullNode #[mkNode `Lean.Parser.Command.noncomputable #[mkAtom "noncomputable"]])) else t
set_option genSizeOf false
namespace L2
abbrev Key:=Sum Int Str
def zG:Key->J->Bool
 |.inl b,a=>ai9 b a
 |.inr c,a=>ahh c a
def n8(b:dZ):Key->Int
 |.inl a=>hashInt a
 |.inr c=>hashStr b c
theorem vY:∀{k:Key} {v:J},zG k v=M->(bN λb a=>k=gJ b/\v=yO b a)\/(bN λx a=>k=qJ x/\v=Ny x a)
 |.inl b,v,h=>by
  let(a,c):=J.isInt_shape (k:=b) (v:=v) h;show .inl (b,a,Z,c)
 |.inr x,v,h=>by
  let(a,c):=J.isStrOf_shape (x:=x) (v:=v) h;show .inr (x,a,Z,c)
def amw(a:Int)(b:Tok):zG ?ai (?cD b)=M:=by simp[zG,ai9]
def amx(a:Str)(b:Tok):zG ?gO (.str a b)=M:=by simp[zG,ahh]
theorem asc(a b:Int):decide ((gJ a:Key)=gJ b)=(a==b):=by
 by_cases c:a=b
 .subst c;simp
 let h:¬(gJ a:Key)=gJ b:=λd=>c (gJ.inj d);rw[gu h];show(beq_eq_false_iff_ne.mpr c).symm
theorem asg(a b:Str):decide ((qJ a:Key)=qJ b)=?gr:=by
 by_cases c:a=b
 .subst c;simp
 let h:¬(qJ a:Key)=qJ b:=λd=>c (qJ.inj d);rw[gu h,gu c]
theorem asd(a:Int)(b:Str):decide ((gJ a:Key)=qJ b)=I:=gu (λc=>nomatch c)
theorem asf(a:Str)(b:Int):decide ((qJ a:Key)=gJ b)=I:=gu (λc=>nomatch c)
def pM(r:eP)(n:dZ):PySem.KeyKind r n Key where
 is:=zG
 hash:=n8 n
 inj:=λl s t o m=>by
  rcases vY o with⟨e,c,rfl,rfl⟩|⟨f,c,rfl,rfl⟩
  .rcases vY m with⟨k,b,rfl,a⟩|⟨i,b,rfl,a⟩
   .injection a with d _;rw[d]
   .show nomatch a
  .rcases vY m with⟨k,b,rfl,a⟩|⟨i,b,rfl,a⟩
   .show nomatch a
   .injection a with d _;rw[d]
 byValue:=λq l h=>by
  rcases vY h with⟨e,c,rfl,rfl⟩|⟨f,c,rfl,rfl⟩<;>rfl
 pyHash:=λj h=>by
  rcases vY j with⟨e,c,rfl,rfl⟩|⟨f,c,rfl,rfl⟩
  .show wpAny_pyHash_int h
  .show wpAny_pyHash_str h
 eqBool:=λp j h=>by
  rcases vY p with⟨e,c,rfl,rfl⟩|⟨f,c,rfl,rfl⟩
  .rcases vY j with⟨k,b,rfl,rfl⟩|⟨i,b,rfl,rfl⟩
   .rw[asc]at h;show wpAny_eqBool_int h
   .rw[asd]at h;show aeP e c i b _ _ _ _ h
  .rcases vY j with⟨k,b,rfl,rfl⟩|⟨i,b,rfl,rfl⟩
   .rw[asf]at h;show aeQ f c k b _ _ _ _ h
   .rw[asg]at h;show wpAny_eqBool_str h
 «strs»:=λq f c l h=>by
  rcases vY h with⟨e,b,rfl,a⟩|⟨i,b,rfl,a⟩
  .show nomatch a
  .injection a with d _;subst d;cases l<;>rfl
def aj0(c:eP)(d:dZ)(a:Int)(b:Tok):(pM c d).is ?ai (?cD b)=M:=amw a b
def aj1(c:eP)(d:dZ)(a:Str)(b:Tok):(pM c d).is ?gO (.str a b)=M:=amx a b
inductive V where
 |cT|bl (a:Bool)|int (c:Int)|str (e:Str)|pG (a:Array UInt8)|FZ (a:UInt64)|ref (b:S)|ty (d:String)
 deriving DecidableEq
def RelV:V->J->Prop
 |.cT,a=>a=jL
 |.bl c,a=>a=yL c
 |.int e,a=>∃b,a=yO e b
 |.str h,a=>∃b,a=Ny h b
 |.pG c,a=>∃b,a=ai7 c b
 |.FZ c,a=>∃b,a=ai8 c b
 |.ref d,a=>a=dR d
 |.ty f,a=>a=xp f
abbrev a_:?au->?aX->Prop:=jb RelV
theorem a_.length(c:a_ b a):R b=R a:=vV c
theorem a_.get:∀{d:?au} {c:?aX} {i:Nat} {x:V},a_ d c->d[i]?=Y x->∃b,c[i]?=Y b/\RelV x b
 |_,_,_,_,.nil,a=>by simp at a
 |_,_,0,_,.cons h _,a=>by simp at a;subst a;show(_,Z,h)
 |_,_,i+1,x,.cons _ j,a=>by
  let(b,e,f):=a_.get (i:=i) (x:=x) j (by simpa using a)
  show(b,by simpa using e,f)
theorem a_.set{f:V}{d:J}(c:RelV f d):∀{h:?au} {e:?aX} (a:Nat),a_ h e->a_ (h.set a f) (e.set a d)
 |_,_,_,.nil=>.nil
 |_,_,0,.cons _ b=>.cons c b
 |_,_,a+1,.cons i b=>.cons i (a_.set c a b)
def a_.append(h:a_ c a)(f:a_ d b):a_ (c++d) (a++b):=by
 induction h with
 |nil=>show f
 |cons e i ih=>show .cons e ih
theorem a_.take:∀{c:?au} {b:?aX} (a:Nat),a_ c b->a_ ?fN ?ii
 |_,_,0,_=>.nil
 |_,_,_+1,.nil=>.nil
 |_,_,a+1,.cons d e=>.cons d (a_.take a e)
theorem a_.drop:∀{c:?au} {b:?aX} (a:Nat),a_ c b->a_ (c.drop a) ?bR
 |_,_,0,d=>d
 |_,_,_+1,.nil=>.nil
 |_,_,a+1,.cons _ e=>a_.drop a e
def on:?gP->?bH->Prop
 |some b,Y a=>RelV b a
 |none,U=>True
 |_,_=>False
def KV{a:Type}:List (a×V)->List (a×J)->Prop:=jb λ(b:a×V) (c:a×J)=>b.1=c.1/\RelV b.2 c.2
def kV:Key->V
 |.inl a=>?cD
 |.inr b=>.str b
inductive HO where
 |lst (d:?au)
 |tup (d:?au)
 |dK (b:?jY)|dT (b:?j4)
 |set (f:Int->Bool) (k:Nat)
 |ins (e h:S) (a:?cq)
 |own (c:S)
 |xd (a:?cq)
 |met (i c:S)
 |Kf (lo j:Int)
 |eI (l:Obj) (n:HO)
 |zZ (m:?dD)
 |ext (o:dg->Prop)
abbrev L:=S->Option HO
def D(b:L)(c:S)(d:HO):L:=λa=>if a=c then Y d else b a
theorem bD{o:HO}:D b a o a=Y o:=by unfold D;rw[?eZ]
def cY(h:a≠c):D b c d a=b a:=by unfold D;rw[bp h]
def gW{a:L}(h:a b=Y e)(d:a c=Y f)(i:e≠f):b≠c:=by intro j;subst j;rw[h]at d;show i (gR d)
def fO{a:L}(h:a b=Y f)(d:a c=U):b≠c:=by intro e;subst e;rw[h]at d;cases d
def auc(h:dg)(a:S)(c:?dD):=FA h a c/\∃b,?ap=Y b/\b.dict=U
section
variable(P:eP)(w:dZ)
def jt(l:L)(h:dg)(a:S):HO->Prop
 |.lst c=>R c<=cw/\bN λ(i:?aX) (m:Nat)=>a_ c i/\?ap=Y {cls:=?Q,data:=.seq i.toArray m}
 |.tup c=>R c<=cw/\∃i:List J,a_ c i/\auc h a i.toArray
 |.dK j=>R j<=cw/\(a==nS)=I/\∃u,KV j u/\h.DictOf (pM P w) a u
 |.dT j=>R j<=cw/\(a==nS)=I/\∃c:List (List Key×S×J),jb (λ(n:?dg×V) (o:?dg×S×J)=>n.1=o.1/\l o.2.1=Y (.tup (n.1.map kV))/\RelV n.2 o.2.2) j c/\gG λb r y=>?ap=Y b/\b.ExactDict/\b.data=.dict r y/\r.toList=c.map (Nd (Ew (pM P w)))/\(c.map (·.1)).Nodup
 |.set x m=>h.SetOf (intKind P w) a x m
 |.ins v k f=>l k=Y (.own a)/\R f<=1000/\k≠a/\?ap=Y (yD v k)/\∃e,h.Ns1 k e/\(∀d,on (f.lookup d) (e d))/\Hk e (f.map (·.1))
 |.own _=>∃b,?ap=Y b
 |.xd f=>∃e,h.Ns1 a e/\∀d,on (f.lookup d) (e d)
 |.Kf lo z=>gG λB p C=>?ap=Y {cls:=.type "range",data:=.fields #[.int lo B,.int z p,.int 1 C]}
 |.eI b p=>?ap=Y b/\jt l h a p
 |.zZ A=>?ap=Y {cls:=.none,data:=.fields A}
 |.met d E=>?ap=Y (RT ?J (.ref E))
 |.ext q=>q h/\(∃b,?ap=Y b)/\∀s t:dg,q s->(∀b,s.get? a=Y b->t.get? a=Y b)->q t
def iN(a:L)(h:dg):=∀b c,a b=Y c->jt P w a h b c
end
section
variable{P:eP}{w:dZ}{H H':L}{h h':dg}{a:S}{o:HO}
theorem jt.lt(c:?eh a o):a<Q h.1:=by
 cases o with
 |lst i=>let(_,_,_,_,b):=c;show fS b
 |tup i=>let(_,_,_,f):=c;show f.1.lt
 |dK e=>let(_,_,_,_,o,_,_,b,_):=c;show fS b
 |dT e=>let(_,_,_,_,o,_,_,b,_):=c;show fS b
 |set l q=>let(o,_,_,_,b,_):=c;show fS b
 |ins k m d=>let(_,_,_,b,_):=c;show fS b
 |own j=>let(_,b):=c;show fS b
 |xd d=>let(_,(_,_,_,b,_),_):=c;show fS b
 |Kf lo p=>let(_,_,_,b):=c;show fS b
 |eI r t=>let(b,_):=c;show fS b
 |zZ s=>show fS (show ?ap=Y _ from c)
 |met n j=>show fS (show ?ap=Y _ from c)
 |ext u=>let(_,(_,b),_):=c;show fS b
def jb.lu{f i:Type}{b G:f->i->Prop}{d:List f}{e:List i}(h:jb b d e)(j:∀a c,b a c->G a c):jb G d e:=by
 induction h with
 |nil=>show .nil
 |cons k l ih=>show .cons (j _ _ k) ih
def jt.qx(d:?eh a o)(c:∀j q,(j=a\/H j=Y (.own a))->h.get? j=Y q->h'.get? j=Y q)(y:∀j,H j=Y (.own a)->H' j=Y (.own a))(t:∀j p,H j=Y (.tup p)->H' j=Y (.tup p)):jt P w H' h' a o:=by
 induction o with
 |lst p=>let(e,s,z,i,b):=d;show(e,s,z,i,?d7)
 |tup p=>let(e,s,i,(k,b,f),j,T,E):=d;show(e,s,i,(k,?d7,f),j,c _ _ ?aG T,E)
 |dK j=>let(e,n,r,i,k,m,l,b,f):=d;show(e,n,r,i,k,m,l,?d7,f)
 |dT j=>
  let(e,n,p,i,k,m,l,b,f):=d;show(e,n,p,jb.lu i λA r e=>(e.1,t _ _ e.2.1,e.2.2),k,m,l,?d7,f)
 |set j z=>let(k,m,l,v,b,f):=d;show(k,m,l,v,?d7,f)
 |ins j j j=>
  let(x,e,p,b,t,(u,m,l,X,f),i):=d;show(y _ x,e,p,?d7,t,(u,m,l,c _ _ (.inr x) X,f),i)
 |own n=>let(k,b):=d;show(k,?d7)
 |xd j=>let(t,(u,m,l,b,f),i):=d;show(t,(u,m,l,?d7,f),i)
 |Kf lo e=>let(v,q,e,b):=d;show(v,q,e,?d7)
 |eI k q ih=>let(b,r):=d;show(?d7,ih r)
 |zZ B=>
  let b:?ap=Y {cls:=.none,data:=.fields B}:=d;change ?jf=Y {cls:=.none,data:=.fields B};show c a _ ?aG b
 |met y n=>
  let b:?ap=Y (RT (.ref y) ?jN):=d;change ?jf=Y (RT (.ref y) ?jN);show c a _ ?aG b
 |ext e=>let(A,(o,b),C):=d;show(C _ _ A λo r=>c _ _ ?aG r,(o,?d7),C)
theorem iN.lt(c:?bS)(b:H a=Y o):a<Q h.1:=(c a o b).lt
def iN.fresh(d:?bS)(b:Q h.1<=a):H a=U:=by
 rcases c:H a with _|e
 .rfl
 show ?b2 (jw (d.lt c) b)
def iN.kept(i:?bS)(f:∀c d,?jp=Y d->h'.get? c=Y d):iN P w H h':=λa o e=>
 (i a o e).qx (λc d _ b=>f c d b) (λ_ b=>b) λ_ _ b=>b
def iN.laid(k:?bS)(m:∀c e,?jp=Y e->h'.get? c=Y e)(l:Q h.1<=a)(n:jt P w (?j3 o) h' a o):iN P w (?j3 o) h':=λc e d=>by
 let j:=k.fresh l;by_cases i:c=a
 .subst i;rw[bD]at d;cases d;show n
 rw[cY i]at d;show(k c e d).qx (λf p _ b=>m f p b) (λf b=>by rw[cY (fO b j)];show b) λf q b=>by rw[cY (fO b j)];show b
end
def Rd(a:L)(b:S)(c:HO):=a b=Y c\/∃d,a b=Y (.eI d c)
theorem Rd.ok{h:dg}(a:Rd c b d)(i:iN e f c h):jt e f c h b d:=by
 rcases a with a|⟨k,a⟩
 .show i b d a
 let(_,j):=i b _ a;show j
def zS:Option HO->Prop
 |some (.lst _)=>True
 |some (.dK _)=>True
 |some (.dT _)=>True
 |some (.set _ _)=>True
 |some (.ins _ _ _)=>True
 |some (.ext _)=>True
 |_=>False
section
variable{P:eP}{w:dZ}{H:L}{h h':dg}{x e:S}{o':HO}
def iN.write(A:?bS)(m:zS (H x))(p:e=x\/H e=Y (.own x))(v:∀d f,d≠e->h.get? d=Y f->h'.get? d=Y f)(t:∃f,h'.get? e=Y f)(y:jt P w (D H x o') h' x o'):iN P w (D H x o') h':=λd f i=>by
 let q:∀a s,H a=Y (.own s)->a≠x:=λa s c b=>by subst b;rw[c]at m;show m
 let z:∀a n,H a=Y (.tup n)->a≠x:=λa n c b=>by subst b;rw[c]at m;show m
 by_cases j:d=x
 .subst j;rw[bD]at i;cases i;show y
 rw[cY j]at i;by_cases k:d=e
 .let r:H d=Y (.own x):=by
   rcases p with b|b
   .show bK (k.trans b) j
   rw[k];show b
  rw[i]at r;cases r;let(o,u):=t;show(o,by rw[k];show u)
 show(A d f i).qx (λa o l c=>v a o ?_ c) (λa c=>by rw[cY (q a d c)];show c) λa n c=>by rw[cY (z a n c)];show c
 rcases l with rfl|l
 .show k
 rintro rfl;rcases p with b|b
 .show q a d l b
 rw[l]at b;cases b;show j Z
end
structure Un(i e:List S)(c d:L)(h f:dg):Prop where
 keep:∀a b,?ap=Y b->c a=U->a∉i->a∉e->f.get? a=Y b
 slot:∀a b,?ap=Y b->c a=U->a∈i->a∉e->∃o,f.get? a=Y {b with slots:=o}
 free:∀a b,?ap=Y b->c a=U->a∉e->d a=U
 there:∀a b,?ap=Y b->a∉e->∃n,f.get? a=Y n
 sN:∀a l,c a=Y (.tup l)->d a=Y (.tup l)
 qT:∀a b k,c a=Y (.eI b k)->d a=Y (.eI b k)
 sM:∀a j,c a=Y (.zZ j)->∃m,d a=Y (.zZ (j++m))
section
variable{fs qX ex ex':List S}{H H1 H2:L}{h h1 h2 h':dg}{a x e:S}{o:HO}
def Un.any(k:Un fs ex H H1 h h1)(j:?ep=Y c)(i:H b=U)(f:b∉ex):∃l,h1.get? b=Y {c with slots:=l}:=by
 by_cases d:b∈fs
 .show k.slot b c j i d f
 show(c.slots,k.keep b c j i d f)
def Un.kept(f:∀c i,?jp=Y i->h'.get? c=Y i):Un fs ex H H h h':=
 (λc d b _ _ _=>f c d b,λc d b _ _ _=>(d.slots,f c d b),λ_ _ _ j _=>j,λc d b _=>(d,f c d b),λ_ _ b=>b,λ_ _ _ b=>b,λ_ k b=>(#[],by rw[b];simp))
def Un.refl:Un fs ex H H h h:=Un.kept λ_ _ b=>b
def Un.laid(i:∀c d,?jp=Y d->h'.get? c=Y d)(j:Q h.1<=a)(f:H a=U):Un fs ex H (?j3 o) h h' where
 keep:=λc d b _ _ _=>i c d b
 slot:=λc d b _ _ _=>(d.slots,i c d b)
 free:=λc d b k _=>by rw[cY (jS (?f8 j))];show k
 there:=λc d b _=>(d,i c d b)
 sN:=λc l b=>by rw[cY (fO b f)];show b
 qT:=λc d l b=>by rw[cY (fO b f)];show b
 sM:=λc m b=>(#[],by rw[cY (fO b f),b];simp)
def Un.write(j:zS (H x))(r:e=x\/H e=Y (.own x))(m:∀b c,b≠e->?ep=Y c->h'.get? b=Y c)(s:∃c,h'.get? e=Y c):Un fs ex H (D H x o) h h':=by
 let q:∀b,H b=U->b≠x:=λb f i=>by subst i;rw[f]at j;show j
 let n:∀b,H b=U->b≠e:=λb f i=>by
  subst i;rcases r with k|k
  .show q b f k
  rw[f]at k;cases k
 let l:∀b c,H b=Y c->¬zS (Y c)->b≠x:=λb c d t i=>by subst i;rw[d]at j;show t j
 show(λb c d f _ _=>m b c (n b f) d,λb c d f _ _=>(c.slots,m b c (n b f) d),λb c d f _=>by rw[cY (q b f)];show f,λb c d _=>?_,λb u d=>by rw[cY (l b _ d λi=>i)];show d,λb c u d=>by rw[cY (l b _ d λi=>i)];show d,λb v d=>(#[],by rw[cY (l b _ d λi=>i),d];simp))
 by_cases p:b=e
 .subst p;show s
 show(c,m b c p d)
end
def Ki(h:dg)(a:L):?aD:=(wb h.1.size).filter λb=>(a b).isSome
def yg(h:dg)(a:L):dg:=PySem.W.hideAll h (Ki h a)
def amq(h:dg)(a:L):(yg h a).1.size=Q h.1:=PySem.W.hideAll_size _ _
def an6{h:dg}{b:L}(e:?ap=Y c)(i:b a=U):(yg h b).get? a=Y c:=
 PySem.W.hideAll_get _ e λf=>by
  let d:(b a).isSome=M:=(tj.mp f).2;rw[i]at d;simp at d
def aqs{h:dg}(c:(yg h a).get? b=Y d):?ep=Y d/\a b=U:=by
 let e:?ep=Y d:=PySem.W.of_hideAll (Ki h a) c;show(e,?_);rcases i:a b with _|k
 .rfl
 let f:b∈Ki h a:=tj.mpr (DS.mpr (fS e),by simp[i])
 let j:(yg h a).get? b=U:=PySem.W.hideAll_none (Ki h a) f;rw[j]at c;cases c
structure Mod(d:cp)(e:Str->Option J)(a:dg):Prop where
 uT:d.In a
 i7:a.Ns Ca e
 blt:∃c,a.Ns Xn c/\∀b:Str,b≠"__name__"->c b=Ao b
 nolimit:a.NoLimit
set_option genInjectivity false
structure Cx where
 prog:eP
 w:dZ
 K:cp
 mg:Str->?bH
 base:dg
 A:eV
 N:?d4
 ko:aO
 zP:L
 env:Env
 outer:?eH
 stack:?eH
 ex:?aD
 fn:Str->Bool
 f6:Bool
 pn:?H
 xe:J->aO->Prop
def iO(l:?eH):?aD:=l.filterMap (·.frame)
abbrev Cx.fs(a:Cx):?aD:=iO a.outer
def Dq(a:jE)(b:Str):=?ft=Y .local \/?ft=?iC\/?ft=?kb
def Loc(a:jE)(b:Str):=?ft=Y .local \/?ft=?iC
def Look(b:Env)(h:dg)(e:Str->?bH)(a:Str)(d:J):=
 (b.kindOf a=Y .local /\e a=Y d)\/((b.kindOf a=?iC\/b.kindOf a=?kb)/\∃c,b.cells.lookup a=Y c/\h.IsCell c (Y d))
structure Cx.Ok(a:Cx):Prop where
 mod:Mod a.K a.mg a.base
 kind:a.env.scope.kind=.function
 i7:a.env.globals=Ca
 blt:a.env.builtins=Xn
 above:a.ko.heap.objs.size<=a.env.locals
 inj:∀c f d,?d8=Y d->a.env.cells.lookup f=Y d->c=f
 has:∀c,(a.env.kindOf c=?iC\/a.env.kindOf c=?kb)->∃d,?d8=Y d
 Bi:∀c d,a.fn c=M->?d8=Y d->a.ko.heap.objs.size<=d
 hd:a.f6=M->a.A.handled=U
 frames:a.A.frames=Y a.stack
 qY:a.stack=a.outer\/(a.stack=a.env::a.outer/\a.env.frame=Y a.env.locals)
 Ds:∀b∈a.ex,b≠a.env.locals/\∀c d,?d8=Y d->d≠b
 bs:∀b e,a.base.get? b=Y e->a.ko.heap.get? b=Y e/\a.zP b=U
 ua:a.base.objs.size<=a.ko.heap.objs.size
 Bf:∀b e,a.base.get? b=Y e->b∉a.ex
 Bc:∀b∈a.ex,b∉a.fs
 rM:a.ko.heap.FunFrames a.base a.outer
 wK:∀b∈a.fs,a.zP b=U
structure Inv(a:Cx)(m:List (S×Obj))(l:List (Option V))(f:L)(b:aO):Prop where
 ok:a.Ok
 os:b.os=a.ko.os
 bare:yW b.gens
 base:Un a.fs a.ex a.zP f a.ko.heap b.heap
 loc:∃j,b.heap.Ns a.env.locals j/\∀(i:Nat) (c:Str) (e:V),a.N[i]?=Y c->l[i]?=Y (Y e)->Dq a.env.scope c->∃k,RelV e k/\Look a.env b.heap j c k
 cell:∀c h,?d8=Y h->∃e,b.heap.IsCell h e
 free:f a.env.locals=U
 og:∀c h,?d8=Y h->f h=U
 pin:∀d∈a.pn++m,b.heap.get? d.1=Y d.2/\f d.1=U/\d.1≠a.env.locals/\d.1∉a.fs/\∀e,d.2.data≠.cell e
 bU:iN a.prog a.w f b.heap
 len:l.length=a.N.length
section
variable{X:Cx}{ap:List (S×Obj)}{σ:List (Option V)}{H H':L}{s:aO}{h':dg}
def Cx.Ok.auq(e:X.Ok)(b:X.base.get? a=Y d):a∉X.fs:=λc=>by
 have:=(e.rM.mem c).1;rw[b]at this;cases this
theorem Inv.bs(c:?f H s):∀a b,X.base.get? a=Y b->?b5=Y b/\H a=U:=λa b d=>
 (c.base.keep a b (c.ok.bs a b d).1 (c.ok.bs a b d).2 (c.ok.auq d) (c.ok.Bf a b d),c.base.free a b (c.ok.bs a b d).1 (c.ok.bs a b d).2 (c.ok.Bf a b d))
theorem Inv.bk(c:?f H s):∀a b,X.base.get? a=Y b->?b5=Y b:=λa b d=>(c.bs a b d).1
theorem Inv.mod(a:?f H s):Mod X.K X.mg X.base:=a.ok.mod
def Inv.iH(a:?f H s):X.K.In s.1:=a.ok.mod.1.keeps a.bk
theorem Inv.fr(a:?f H s):∃b,Fr X.base X.env.2 s.1 b:=
 let(b,c,_):=a.loc
 (b,c,a.bk,fZ a.ok.ua a.ok.above)
theorem Inv.lt(a:?f H s):X.env.2<?O:=by let(_,b,_):=a.loc;show b.lt
def Inv.sz(a:?f H s):?f9<=?O:=fZ a.ok.above (yG a.lt)
def Inv.Qa(a:?f H s)(h:?O<=b):b∉X.fs:=λc=>by
 let(_,e,d,_):=a.ok.rM.mem c;show ?b2 (jw (fS d) (fZ a.sz h))
def Inv.zU(c:?f H s):∀b a,X.env.cells.lookup b=Y a->a≠X.env.2:=λb a f j=>by
 let(p,n,e,d):=c.cell b a f;let(m,(o,l,k,i,h,_),_):=c.loc;rw[j,i]at e;cases e;rw[h]at d;cases d
theorem Inv.rM(b:?f H s):s.1.FunFrames X.base X.outer:=by
 let i:∀(l:?eH),(∀c∈iO l,c∈X.fs)->X.8.1.FunFrames X.base l->s.1.FunFrames X.base l:=by
  intro l
  induction l with
  |nil=>intro _ _;trivial
  |cons u v ih=>
   intro h n;let(m,(a,r,f,o,p,k),q):=n;let d:a∈X.fs:=h a (by unfold iO;rw[BC,f];show mV)
   let(w,j):=b.base.slot a r p (b.ok.wK a d) d λt=>b.ok.Bc a t d;show(m,(a,_,f,o,j,k),ih (λc e=>h c (by unfold iO;rw[BC,f];show gY _ e)) q)
 show i X.outer (λ_ e=>e) b.ok.rM
theorem Inv.stack(a:?f H s):s.1.FunFrames X.base X.stack:=by
 rcases a.ok.qY with b|⟨b,c⟩
 .rw[b];show a.rM
 rw[b];let(e,d,_):=a.loc;show .cons (by rw[a.ok.kind];decide) c d ?_ a.rM
 show dg.get?_none_of_le (fZ a.ok.ua a.ok.above)
def Inv.Pn(d:?f H s):∀c∈iO X.stack,c∈X.env.2::X.fs:=λc a=>by
 rcases d.ok.qY with b|⟨b,e⟩
 .rw[b]at a;show gY _ a
 rw[b]at a;unfold iO at a;rw[BC,e]at a;show a
theorem Inv.Fn(a:?f H s):∀b∈iO X.stack,H b=U:=λb c=>by
 rcases bM.mp (a.Pn b c)with d|c
 .rw[d];show a.free
 let(_,f,e,_):=a.ok.rM.mem c;show a.base.free b f e (a.ok.wK b c) λh=>a.ok.Bc b h c
def Inv.step{g':Array EJ}{h:Nat}{d':Drawn}{ch:?aD}(e:?f H s)(u:∀a∈ch,(a∈X.ex\/?f9<=a)/\a≠X.env.2/\(∀f d,X.env.cells.lookup f=Y d->d≠a)/\∀k∈X.pn++ap,k.1≠a)(C:∀a b,a≠X.env.2->a∉X.fs->a∉ch->?b5=Y b->H a=U->?jf=Y b)(a1:∀a b,a≠X.env.2->a∈X.fs->a∉ch->?b5=Y b->H a=U->∃E,?jf=Y {b with slots:=E})(x:∀a b,a∉ch->?b5=Y b->H a=U->H' a=U)(a5:∀a b,a∉ch->?b5=Y b->∃w,?jf=Y w)(a6:∀a o,H a=Y (.tup o)->H' a=Y (.tup o))(m:∀a b A,H a=Y (.eI b A)->H' a=Y (.eI b A))(a4:∀a z,H a=Y (.zZ z)->∃c,H' a=Y (.zZ (z++c)))(a2:∀r,s.1.Ns X.env.2 r->h'.Ns X.env.2 r)(t:iN X.1 X.w H' h')(j:yW g'):?f H' {s with heap:=h',gens:=g',drawn:=d',toks:=h}:=by
 let a0:∀a b,X.8.1.get? a=Y b->a≠X.env.2:=λa b c=>jS (jw (fS c) e.ok.above);let y:∀a b,X.8.1.get? a=Y b->a∉X.ex->a∉ch:=λa b c h p=>by
  rcases(u a p).1 with i|i
  .show h i
  show ?b2 (jw (fS c) i)
 let P:∀f d,X.env.cells.lookup f=Y d->∀n,s.1.IsCell d n->h'.IsCell d n:=λf d c n (b,q,B)=>by
  let v:d∉ch:=λi=>(u d i).2.2.1 f d c Z;by_cases T:d∈X.fs
  .let(E,a3):=a1 d b (e.zU f d c) T v q (e.8 f d c);show(_,a3,B)
  show(b,C d b (e.zU f d c) T v q (e.8 f d c),B)
 show(e.ok,e.os,j,(λa b c j p h=>?_,λa b c j p h=>?_,λa b c j h=>?_,λa b c h=>?_,λa o c=>a6 a o (e.base.5 a o c),λa b o c=>m a b o (e.base.6 a b o c),λa z c=>?_),?_,λf d c=>?_,?_,λf d c=>?_,λk o=>?_,t,e.len)
 .show C a b (a0 a b c) p (y a b c h) (e.base.keep a b c j p h) (e.base.free a b c j h)
 .let(E,m):=e.base.slot a b c j p h;let(E,t):=a1 a _ (a0 a b c) p (y a b c h) m (e.base.free a b c j h);show(E,t)
 .let(w,m):=e.base.there a b c h;show x a w (y a b c h) m (e.base.free a b c j h)
 .let(w,m):=e.base.there a b c h;show a5 a w (y a b c h) m
 .let(h,m):=e.base.7 a z c;let(p,t):=a4 a _ m;show(h++p,by rw[t,Array.append_assoc])
 .let(r,a,h):=e.loc;show(r,a2 r a,λp f n m t a=>?_);let(A,w,l):=h p f n m t a;show(A,w,?_);rcases l with l|⟨a,d,c,i⟩
  .show .inl l
  show .inr (a,d,c,P f d c _ i)
 .let(n,i):=e.cell f d c;show(n,P f d c n i)
 .let(r,(b,_,_,q,_),_):=e.loc;show x _ b (λi=>(u _ i).2.1 Z) q e.free
 .let(n,b,q,B):=e.cell f d c;show x d b (λi=>(u d i).2.2.1 f d c Z) q (e.8 f d c)
 let(c,j,a,b,d):=e.pin k o;let v:k.1∉ch:=λi=>(u k.1 i).2.2.2 k o Z;show(C k.1 k.2 a b v c j,x k.1 k.2 v c j,a,b,d)
theorem Inv.un{t':Nat}(f:?f H s)(b:Un X.fs [] H H' s.1 h')(o:iN X.1 X.w H' h'):?f H' {s with heap:=h',toks:=t'}:=by
 let(u,(a,t,r,i,x),_):=id f.loc;let(y,m):=b.any i f.free ?c
 show f.step (g':=s.gens) (d':=s.drawn) (ch:=[]) (λ_ q=>nomatch q) (λc a _ h _ d e=>b.keep c a d e h ?c) (λc a _ h _ d e=>b.slot c a d e h ?c) (λc a _ d e=>b.free c a d e ?c) (λc a _ d=>b.there c a d ?c) b.5 b.6 b.7 (λv n=>by
  let(w,l,k,j,p):=n;rw[i]at j;cases j;show(_,l,k,m,p)) o f.bare
def Inv.call{g':Array EJ}{t':Nat}{d':Drawn}{ch:?aD}(h:?f H s)(b:Un (iO X.stack) ch H H' s.1 h')(u:iN X.1 X.w H' h')(r:yW g')(l:∀a∈ch,(a∈X.ex\/?f9<=a)/\a≠X.env.2/\(∀x k,X.env.cells.lookup x=Y k->k≠a)/\∀v∈X.pn++ap,v.1≠a):?f H' {s with heap:=h',gens:=g',drawn:=d',toks:=t'}:=by
 let(A,(e,z,y,m,E),_):=id h.loc;let(P,i):=b.any m h.free λj=>(l _ j).2.1 Z;show h.step (ch:=ch) l (λa e i q d c f=>b.keep a e c f (λj=>(bM.mp (h.Pn a j)).elim i q) d) (λa e _ _ d c f=>b.any c f d) (λa e d c f=>b.free a e c f d) (λa e d c=>b.there a e c d) b.5 b.6 b.7 (λB t=>by
  let(C,p,o,n,w):=t;rw[m]at n;cases n;show(_,p,o,i,w)) u r
def Inv.turned{t':Nat}(l:?f H s)(i:∀a c,a≠e->?b5=Y c->?jf=Y c)(w:H e=U)(m:e≠X.env.2)(q:e∈X.ex\/?f9<=e)(r:∀C h,X.env.cells.lookup C=Y h->h≠e)(t:∀z∈X.pn++ap,z.1≠e):?f H {s with heap:=h',toks:=t'}:=by
 let n:∀a k,H a=Y k->a≠e:=λa k b d=>by rw[d,w]at b;cases b
 show l.step (g':=s.gens) (d':=s.drawn) (ch:=[e]) (λa u=>?_) (λa c _ _ f b _=>i a c (λd=>f ?fn) b) (λa c _ _ f b _=>(c.slots,i a c (λd=>f ?fn) b)) (λ_ _ _ _ y=>y) (λa c f b=>(c,i a c (λd=>f ?fn) b)) (λ_ _ b=>b) (λ_ _ _ b=>b) (λa P b=>(#[],by rw[b];simp)) (λE v=>?_) (λa k b=>?_) l.bare
 .let b:a=e:=by simpa using u
  subst b;show(q,m,r,t)
 .let(c,p,o,x,A):=v;show(c,p,o,i _ c (bI m) x,A)
 show(l.bU a k b).qx (λh B f j=>i h B ?_ j) (λ_ j=>j) λ_ _ j=>j;rcases f with d|d
 .rw[d];show n a k b
 show n h _ d
def Inv.tok(a:?f H s)(b:Nat):?f H {s with toks:=b}:=a.un (h':=s.1) (t':=b) Un.refl a.bU
theorem Inv.kept{t':Nat}(a:?f H s)(c:∀b d,?fh=Y d->h'.get? b=Y d):?f H {s with heap:=h',toks:=t'}:=a.un (Un.kept c) (a.bU.kept c)
theorem Inv.laid{a:S}{o:HO}{t':Nat}(b:?f H s)(e:∀d f,s.1.get? d=Y f->h'.get? d=Y f)(c:?O<=a)(h:?g3 (?j3 o) h' a o):?f (?j3 o) {s with heap:=h',toks:=t'}:=b.un (Un.laid e c (b.bU.fresh c)) (b.bU.laid e c h)
theorem Inv.write{x e:S}{t':Nat}(d:?f H s)(j:zS (H x))(f:e=x\/H e=Y (.own x))(i:∀b a,b≠e->?fh=Y a->h'.get? b=Y a)(h:∃a,h'.get? e=Y a)(k:?g3 (D H x c) h' x c):?f (D H x c) {s with heap:=h',toks:=t'}:=d.un (Un.write j f i h) (d.bU.write j f i h k)
def Inv.weak{d:List ?gP}(a:?f H s)(i:R d=R σ)(m:∀(b:Nat) c,d[b]?=Y (Y c)->σ[b]?=Y (Y c)):?bf ap d H s:=
 (a.ok,a.os,a.bare,a.base,let(l,k,j):=a.loc;(l,k,λb n c e f h=>j b n c e (m b c f) h),a.cell,a.free,a.8,a.pin,a.bU,i.trans a.len)
def Inv.F_(a:?f H s)(h:∀b∈c,s.1.get? b.1=Y b.2/\H b.1=U/\b.1≠X.env.2/\b.1∉X.fs/\∀e,b.2.data≠.cell e):?bf c σ H s:=
 (a.ok,a.os,a.bare,a.base,a.loc,a.cell,a.free,a.8,λb d=>(iE.mp d).elim (λf=>a.pin b (BA _ f)) (h b),a.bU,a.len)
def Oh{a:?d4}(j:a.Nodup){b c:Nat}(e:a[b]?=Y d)(f:a[c]?=Y d):b=c:=by let(k,h):=ig.mp e;let(l,i):=ig.mp f;show(List.getElem_inj j).mp (h.trans i.symm)
def Zu{z:Nat}{v:V}{c:Unit->aO->Prop}(a:?f H s)(b0:X.N.Nodup)(y:X.N[z]?=Y j)(k:?iR j)(b6:?jq T)(h:∀b,?bf ap (σ.set z (Y v)) H b->(∃r,xf r s.1 b.1/\(r=X.env.2\/X.env.cells.lookup j=Y r))->c () b)(b1:?afi (X.fn j=M\/X.env.scope.names.lookup j=Y .local )):bH f d (YA X.env j T) c e s:=by
 let(c2,a2,b3):=id a.loc;let n:(X.env.scope.kind==.class ||(X.env.scope.kind==.module&&X.env.2 !=X.env.globals))=I:=by rw[a.ok.kind];rfl
 let b2:z<R σ:=by rw[a.len];show(ig.mp y).1
 let C:=a.zU;let c0:∀{r:S} {h':dg},(∃l,s.1.get? r=Y l/\H r=U)->xf r s.1 h'->iN X.1 X.w H h':=λ{r h'} e c d i b=>by
  let(_,_,f):=e;show(a.bU d i b).qx (λe r i m=>(c.2 e ?_).trans m) (λ_ m=>m) λ_ _ m=>m;rintro rfl;rcases i with rfl|i
  .rw[f]at b;cases b
  rw[f]at i;cases i
 rcases k with t|t
 .show wpAny_storeName_local t a2 (λh' f c=>?_) n;let(w,_,_,p,_):=id a2;show h _ (a.ok,a.os,a.bare,(λd l b n u k=>?_,λd l b n u k=>?_,a.base.free,λd l b k=>?_,a.base.5,a.base.6,a.base.7),(_,f,λA o a9 f q a0=>?_),λo e b=>?_,a.free,a.8,λx a3=>?_,c0 (w,p,a.free) c,by simpa using a.len) (_,c,?aG)
  .show(?i1).trans (a.base.keep d l b n u k)
  .let(a7,f):=a.base.slot d l b n u k;show(a7,(?i1).trans f)
  .let(a5,f):=a.base.there d l b k;show(a5,(?i1).trans f)
  .by_cases w:A=z
   .subst w;rw[y]at f;cases f;rw[DC b2]at q;cases q;show(T,b6,.inl (t,by simp))
   rw[Re (bI w)]at q;let(a8,a6,m):=b3 A o a9 f q a0;show(a8,a6,?_);rcases m with⟨B,b⟩|⟨B,e,b,p⟩
   .show .inl (B,?_);have:o≠j:=λb=>w (Oh b0 f (b▸y));simp[this,b]
   show .inr (B,e,b,p.sameBut c (C o e b))
  .let(r,p):=a.cell o e b;show(r,p.sameBut c (C o e b))
  let(b,n,P,a4,E):=a.pin x a3;show((c.2 x.1 P).trans b,n,P,a4,E)
 let a1:X.fn j=M:=by
  rcases b1 with p|p
  .show p
  rw[p]at t;cases t
 let(e,i):=a.ok.has j (.inl t);let(r,p):=a.cell j e i;show wpAny_storeName_cell a.ok.kind t i p (λh' b1 c=>?_);let(b5,b4,c1):=id p;show h {s with heap:=h'} (a.ok,a.os,a.bare,(λd l b n u k=>?_,λd l b n u k=>?_,a.base.free,λd l b k=>?_,a.base.5,a.base.6,a.base.7),(c2,a2.sameBut c (bI (C j e i)),λA o a9 f q a0=>?_),λo C b=>?_,a.free,a.8,λx a3=>?_,c0 (b5,b4,a.8 j e i) c,by simpa using a.len) (e,c,.inr i)
 .show(?e8).trans (a.base.keep d l b n u k)
 .let(a7,f):=a.base.slot d l b n u k;show(a7,(?e8).trans f)
 .let(a5,f):=a.base.there d l b k;show(a5,(?e8).trans f)
 .by_cases w:A=z
  .subst w;rw[y]at f;cases f;rw[DC b2]at q;cases q;show(T,b6,.inr (.inl t,e,i,b1))
  rw[Re (bI w)]at q;let(a8,a6,m):=b3 A o a9 f q a0;show(a8,a6,?_);rcases m with m|⟨B,C,b,d⟩
  .show .inl m
  show .inr (B,C,b,d.sameBut c ?_);rintro rfl;show w (Oh b0 f (a.ok.inj _ _ _ b i▸y))
 .by_cases d:C=e
  .subst d;show(_,b1)
  let(e,f):=a.cell o C b;show(e,f.sameBut c d)
 let(b,n,P,a4,E):=a.pin x a3;show((c.2 x.1 ?_).trans b,n,P,a4,E);intro m;rw[m,b4]at b;let a:b5=x.2:=gR b;show E r (by rw[<-a];show c1)
def Iv{d:Nat}{v:V}{c:Unit->aO->Prop}(j:?f H s)(m:X.N.Nodup)(o:X.N[d]?=Y a)(p:?iR a)(q:?jq e)(h:∀b,?bf ap (σ.set d (Y v)) H b->c () b)(n:?afi (X.fn a=M\/?cE=Y .local )):bH l f (YA X.env a e) c i s:=
 Zu j m o p q (λb k _=>h b k) n
def Inv.Dd{a:aO}{ch:?aD}(d:?f H s)(i:a.os=s.os)(m:Un (iO X.stack) ch H H' s.1 a.1)(j:iN X.1 X.w H' a.1)(h:yW a.gens)(f:∀b∈ch,(b∈X.ex\/?f9<=b)/\b≠X.env.2/\(∀n c,X.env.cells.lookup n=Y c->c≠b)/\∀l∈X.pn++ap,l.1≠b):?f H' a:=by let(h',g',d',t',k):=a;let e:k=s.os:=i;subst e;show d.call (g':=g') (t':=t') (d':=d') m j h f
end
abbrev XK:=J->?iD->L->Prop
abbrev St:=List ?gP
abbrev VK:=V->L->Prop
abbrev TE:=St->L->VK->Prop
abbrev TT:=St->L->(Bool->L->Prop)->Prop
abbrev TA:=St->L->(?au->L->Prop)->Prop
structure h_ where
 nx:St->L->Prop
 rt:VK
 bk:St->L->Prop:=λ_ _=>False
 ct:St->L->Prop:=λ_ _=>False
abbrev TS:=h_->St->L->Prop
inductive EP(d:Cx)(e:List (S×Obj))(j:St)(c:VK)(h:J)(f:aO):Prop
 |i (b:V) (a:L) (k:Inv d e j a f) (m:RelV b h) (l:c b a)
inductive TP(c:Cx)(e:List (S×Obj))(h:St)(b:Bool->L->Prop)(d:Bool)(f:aO):Prop
 |i (a:L) (j:Inv c e h a f) (k:b d a)
inductive AP(d:Cx)(e:List (S×Obj))(j:St)(c:List V->L->Prop)(h:List J)(f:aO):Prop
 |i (b:?au) (a:L) (k:Inv d e j a f) (m:a_ b h) (l:c b a)
inductive SI(d:Cx)(e:List (S×Obj))(c:St->L->Prop)(f:aO):Prop
 |i (b:St) (a:L) (h:Inv d e b a f) (j:c b a)
inductive RI(d:Cx)(e:List (S×Obj))(c:VK)(h:J)(f:aO):Prop
 |i (b:V) (j:St) (a:L) (k:Inv d e j a f) (m:RelV b h) (l:c b a)
inductive HI(c:Cx)(d:List (S×Obj))(f:St)(b:L->Prop)(e:aO):Prop
 |i (a:L) (h:Inv c d f a e) (j:b a)
def SP(b:Cx)(c:?H)(a:h_)(e:Flow)(d:aO):=
 match e with
 |.next=>SI b c a.nx d
 |.brk=>SI b c a.bk d
 |.cont=>SI b c a.ct d
 |.ret f=>RI b c a.rt f d
def PE(a:Cx)(h:dz)(i:TE):=
 ∀(e:?H) (f:aO) (b:St) (c:L) (d:VK),?e0 e b c f->i b c d->?K (dU h a.env) (EP a e b d) f
def PT(a:Cx)(e:dz)(i:TT):=
 ∀(f:?H) (h:aO) (b:St) (c:L) (d:Bool->L->Prop),?e0 f b c h->i b c d->?K (CJ e a.env (dU e a.env)) (TP a f b d) h
def PW(a:Cx)(h:dz)(i:TT):=
 ∀(j:Sem J) (e:?H) (f:aO) (b:St) (c:L) (d:Bool->L->Prop),?e0 e b c f->i b c d->?K (CJ h a.env j) (TP a e b d) f
theorem PW.pt(h:PW a b c):PT a b c:=h _
def PA(a:Cx)(h:List dz)(i:TA):=
 ∀(pos:Pos) (e:?H) (f:aO) (b:St) (c:L) (d:?au->L->Prop),?e0 e b c f->i b c d->?K (spliced (?g4 (dP h a.env))) (AP a e b d) f
def PS(a:Cx)(h:bY)(i:TS):=
 ∀(d:?H) (e:aO) (f:St) (c:L) (b:h_),?e0 d f c e->i b f c->?K (exec h a.env) (SP a d b) e
def pF(a:Cx)(h:List bY)(i:TS):=
 ∀(d:?H) (e:aO) (f:St) (c:L) (b:h_),?e0 d f c e->i b f c->?K (execs h a.env) (SP a d b) e
def df{k:Type}{j:Sem k}{e f:k->aO->Prop}(h:bH d b j e c a)(l:∀i a,e i a->f i a):bH d b j f c a:=kX h l λ_ _ m=>m
section
variable{X:Cx}
inductive Do(d:Nat)(e:St)(b:L)(c:VK):Prop
 |i (a:V) (f:e[d]?=Y (Y a)) (h:c a b)
def tC(c:V):TE:=λ_ a b=>b c a
def ast{e:Nat}{pos:Pos}(o:X.N[e]?=Y b)(t:Dq X.env.scope b)(d:?ade ((b==?F)=I))(p:?ade ((b==("__classdict__":Str))=I)):?am (.Name b pos) (Do e):=by
 intro u w y k m c h;let(j,n,h):=h;let(A,s,q):=c.loc;let(x,v,l):=q e b j o n t;let fin:EP X u y m x w:=(j,k,c,v,h);rcases l with⟨a,r⟩|⟨a,z,f,i⟩
 .show Xp (Y3 c.ok.kind a s r fin) d
 rcases a with a|a
 .show Xp (Z3 c.ok.kind a f i fin) d
 show Xp (wpAny_loadName_free c.ok.kind a f i fin p) d
def bP{a d pos}:?am (.Constant ?cD d pos) (tC ?cD):=λ_ _ _ b _ c h=>wpAny_Constant_int (?cD,b,c.tok _,?f0,h)
def AW{a d pos}:?am (.Constant (.bool a) d pos) (tC (.bl a)):=λ_ _ _ b _ c h=>Constant_bool (.bl a,b,c,Z,h)
def Jx{c pos}:?am (.Constant .none c pos) (tC .cT):=λ_ _ _ a _ b h=>Um (.cT,a,b,Z,h)
def lI{a d pos}:?am (.Constant (.str a) d pos) (tC (.str a)):=λ_ _ _ b _ c h=>Calls.Constant_str (.str a,b,c.tok _,?f0,h)
def Gl(X:Cx)(a:Str):=X.env.kindOf a=Y .globalImplicit
def uF{pos:Pos}{d:J->aO->Prop}(a:?bf m n i c)(k:?jr b)(l:X.mg b=Y e)(h:d e c)(j:?ade ((b==?F)=I)):?r (?V (.Name b pos)) d f c:=
 U2 a.ok.kind k (Calls.loadGlobal_global (by rw[a.ok.i7];show a.mod.i7.keeps a.bk) l h) j
def wz{pos:Pos}{d:J->aO->Prop}(a:?bf q r i c)(m:?jr b)(n:X.mg b=U)(p:Ao b=Y e)(h:d e c)(o:?ade (b≠"__name__"))(l:?ade ((b==?F)=I)):?r (?V (.Name b pos)) d f c:=by let(s,j,k):=a.mod.blt;show U2 a.ok.kind m (Calls.loadGlobal_builtin (by rw[a.ok.i7];show a.mod.i7.keeps a.bk) n (by rw[a.ok.blt];show j.keeps a.bk) ((k b o).trans p) h) l
def uH{v:V}{pos:Pos}(f:?jr a)(i:X.mg a=Y c)(j:?jq c)(e:?ade ((a==?F)=I)):?am (.Name a pos) (tC v):=
 λ_ _ _ d _ b h=>uF b f i (v,d,b,j,h) e
def F6{v:V}{pos:Pos}(f:?jr a)(i:X.mg a=U)(k:Ao a=Y c)(l:?jq c)(j:?ade (a≠"__name__"))(e:?ade ((a==?F)=I)):?am (.Name a pos) (tC v):=
 λ_ _ _ d _ b h=>wz b f i k (v,d,b,l,h) j e
variable{a b:dz}{ta tb:TE}{pos:Pos}
def PC(X:Cx)(i:zA)(a b:dz)(l:TE):=
 ∀(f:?H) (h:aO) (c:St) (d:L) (e:VK),?bf f c d h->l c d e->?r (?V a) (λn j=>?r (?V b) (λm k=>?r (nU i n m) (EP X f c e) X.xe k) X.xe j) X.xe h
def u5(b:dz)(h:c≠.In)(f:c≠.NotIn):Al c b=I:=by
 let d:(c==cz)=I:=by cases c<;>first|rfl|show bK Z h
 let e:(c==ai0)=I:=by cases c<;>first|rfl|show bK Z f
 cases b<;>first|rfl|(change(_&&(c==cz||c==ai0)&&_)=I;rw[d,e,Hb,GX];rfl)
def auK(ta:TE):TE:=λh c e=>ta h c λf d=>e (.bl (decide (f=.cT))) d
def atQ(ta:TE):TE:=λh c e=>ta h c λf d=>e (.bl (!decide (f=.cT))) d
theorem RelV.EU(c:RelV e f):(f==jL)=decide (e=.cT):=by
 cases e with
 |cT=>cases c;rfl
 |bl _=>cases c;rfl
 |int _=>let(d,0):=c;rfl
 |str _=>let(d,0):=c;rfl
 |pG _=>let(d,0):=c;rfl
 |FZ _=>let(d,0):=c;rfl
 |ref _=>cases c;rfl
 |ty _=>cases c;rfl
def Jv{j l}(i:?am a ta):PC X .Is a (.Constant .none j l) (auK ta):=by intro k p q c r e h;show df (i k p q c _ e h) λt s n=>?_;let(u,d,f,o,m):=n;show Um (is_none_gen (.bl _,d,f,by rw[o.EU];rfl,m))
def F5{j l}(i:?am a ta):PC X .IsNot a (.Constant .none j l) (atQ ta):=by intro k p q c r e h;show df (i k p q c _ e h) λt s n=>?_;let(u,d,f,o,m):=n;show Um (isnot_none_gen (.bl _,d,f,by rw[o.EU];rfl,m))
def tB(h:TE):TT:=λj d f=>h j d λi e=>∃c,i=.bl c/\f c e
def Pi(h:PC X c a b d)(j:?anb (Al c b=I)):?am (?ij [c] [b]) d:=λl m n e i f k=>wpAny_Compare1 (h l m n e i f k) j
def uK(h:PC X d a b e)(c:?anb (Al d b=I)):PT X (?ij [d] [b]) (tB e):=by intro n s t f u j m;show X3 (df (h n s t f _ j m) λB x c=>df c λA y l=>df l λv z q=>?_) c;let(C,i,k,r,p):=q;let(w,0,o):=p;cases r;show vS (i,k,o)
def jD(h:?am c e)(m:?ain (∀f,CJ c X.env f=(do let d<-f;uz c.pos;tG [d] (Fp d)))):PT X c (tB e):=by intro o t u i v k n;show Vh (df (h o t u i _ k n) λd x r=>?_) (m _);let(y,j,l,s,q):=r;let(w,0,p):=q;cases s;show vS (j,l,p)
variable{tA Kg:TT}{rest:List dz}
def auC(i j:TT):TT:=λe f d=>i e f λh c=>if h=M then j e c d else d I c
def tOr(i j:TT):TT:=λe f d=>i e f λh c=>if h=M then d M c else j e c d
def auM(h:TT):TT:=λi c e=>h i c λf d=>e (!f) d
def ss(j:PT X a tA):PW X (?eq .And [a]) tA:=by
 intro o k l m d f e h;show isTrue_and (df (j k l m d f e h) λi n c=>?_);rcases i with _|_
 .show c
 show isTrue_and_nil c
def vC(j:PT X a tA):PW X (?eq .Or [a]) tA:=by
 intro o k l m d f e h;show isTrue_or (df (j k l m d f e h) λi n c=>?_);rcases i with _|_
 .show isTrue_or_nil c
 show c
def sC(n:PT X a tA)(o:PW X (?eq .And (b::rest)) Kg):PW X (?eq .And (a::b::rest)) (auC tA Kg):=by
 intro s e q i j l k h;show isTrue_and (df (n e q i j _ k h) λm r p=>?_);let(c,d,f):=p;rcases m with _|_
 .show(c,d,f)
 show o s e r i c l d f
def qR(n:PT X a tA)(o:PW X (?eq .Or (b::rest)) Kg):PW X (?eq .Or (a::b::rest)) (tOr tA Kg):=by
 intro s e q i j l k h;show isTrue_or (df (n e q i j _ k h) λm r p=>?_);let(c,d,f):=p;rcases m with _|_
 .show o s e r i c l d f
 show(c,d,f)
def nY(k:PT X a tA):PT X (.UnaryOp .Not a pos) (auM tA):=by intro m o p e j f h;show isTrue_not (df (k m o p e (λd c=>j (!d) c) f h) λd q l=>by let(c,i,n):=l;show(c,i,n))
def atH(ta tb:TE):TE:=λf h d=>ta f h λi c=>∃e,i=.bl e/\if e=M then tb f c d else d (.bl I) c
def auN(ta tb:TE):TE:=λf h d=>ta f h λi c=>∃e,i=.bl e/\if e=M then d (.bl M) c else tb f c d
def atR(ta:TE):TE:=λi d f=>ta i d λh e=>∃c,h=.bl c/\f (.bl (!c)) e
def CT{j}(h:?am a c):?am (?eq j [a]) c:=λk l m d f e i=>BoolOp_one (h k l m d f e i)
def Jw(n:?am a ta)(o:?am (?eq .And (b::rest)) tb):?am (?eq .And (a::b::rest)) (atH ta tb):=by
 intro f r i j l k h;show BoolOp_and (df (n f r i j _ k h) λt s p=>?_);let(u,d,e,q,c):=p;let(m,0,c):=c;cases q;show vS ?_;rcases m with _|_
 .show(.bl I,d,e,Z,c)
 show o f s i d l e c
def PD(n:?am a ta)(o:?am (?eq .Or (b::rest)) tb):?am (?eq .Or (a::b::rest)) (auN ta tb):=by
 intro f r i j l k h;show BoolOp_or (df (n f r i j _ k h) λt s p=>?_);let(u,d,e,q,c):=p;let(m,0,c):=c;cases q;show vS ?_;rcases m with _|_
 .show o f s i d l e c
 show(.bl M,d,e,Z,c)
def M_(k:?am a ta):?am (.UnaryOp .Not a pos) (atR ta):=by intro l o p d q f h;show UnaryOp_ (df (k l o p d _ f h) λs r m=>?_);let(t,e,i,n,c):=m;let(j,0,c):=c;cases n;show not_of (vS (.bl (!j),e,i,Z,c))
def tIf(i:TT)(ta tb:TE):TE:=λc f e=>i c f λh d=>if h=M then ta c d e else tb c d e
def qI(r:PT X j tA)(p:?am a ta)(q:?am b tb):?am (.IfExp j a b pos) (tIf tA ta tb):=by
 intro c t d m i n h;show wpAny_IfExp (df (r c t d m _ n h) λo l s=>?_);let(e,f,k):=s;rcases o with _|_
 .show q c l d e i f k
 show p c l d e i f k
end
def cJ(f:cp)(e:L)(c:S)(d:?au):=
 Rd e c (.lst d)\/gG λ(a:Obj) (b:?dD) (h:Nat)=>f.lookup c=Y a/\a.cls=?Q/\a.dict=U/\a.data=.seq b h/\Q b<=cw/\a_ d b.toList
def cZ(f:cp)(e:L)(c:S)(d:?au):=
 Rd e c (.tup d)\/gG λ(b:Obj) (a:?dD) (h:Nat)=>f.lookup c=Y b/\b.cls=?ay/\b.data=.seq a h/\Q a<=cw/\a_ d a.toList
def j7:J->?gP
 |.none=>Y .cT
 |.bool a=>Y (.bl a)
 |.int c _=>Y ?f3
 |.str e _=>Y (.str e)
 |.bytes a _=>Y (.pG a)
 |.float a _=>Y (.FZ a)
 |.ref b=>?j5
 |.type d=>Y (.ty d)
 |_=>U
def RelV.abs(a:RelV c d):j7 d=Y c:=by
 cases c with
 |cT=>cases a;rfl
 |bl _=>cases a;rfl
 |int _=>let(b,0):=a;rfl
 |str _=>let(b,0):=a;rfl
 |pG _=>let(b,0):=a;rfl
 |FZ _=>let(b,0):=a;rfl
 |ref _=>cases a;rfl
 |ty _=>cases a;rfl
theorem RelV.inj(e:RelV b a)(d:RelV c a):b=c:=gR (e.abs.symm.trans d.abs)
theorem a_.inj(h:a_ d c):a_ b c->d=b:=by
 induction h generalizing b with
 |nil=>intro a;cases a;rfl
 |cons e j ih=>
  intro a;cases a with
  |cons f i=>rw[e.inj f,ih i]
section
variable{X:Cx}{ap:List (S×Obj)}{σ:St}{H:L}{s:aO}{a:S}{xs ys:List V}
def cJ.of(h:H a=?j2):cJ b H a xs:=.inl (.inl h)
def cZ.of(h:H a=Y (.tup xs)):cZ b H a xs:=.inl (.inl h)
def Inv.list(f:?f H s)(h:cJ X.K H a xs):∃b:List J,a_ xs b/\PlainL s.1 a b.toArray/\?fH<=cw:=by
 rcases h with h|⟨i,b,e,l,j,k,m,o,c⟩
 .let(n,b,e,c,d):=h.ok f.bU;show(b,c,(_,e,d,Z,Z,Z),n)
 show(b.toList,c,(i,e,f.iH a i l,j,k,by simpa using m),?_)
 let d:=c.length;simp only[BB]at d
 lia
def Inv.tuple(d:?f H s)(h:cZ X.K H a xs):∃b:List J,a_ xs b/\FA s.1 a b.toArray/\?fH<=cw:=by
 rcases h with h|⟨e,b,l,j,i,k,o,c⟩
 .let(n,b,c,m,_):=h.ok d.bU;show(b,c,m,n)
 show(b.toList,c,(e,d.iH a e j,i,l,by simpa using k),?_)
 let f:=c.length;simp only[BB]at f
 lia
def Inv.Ik(b:?f H s)(h:cJ X.K H a xs)(j:cJ X.K H a ys):xs=ys:=by
 let(k,m,(q,o,i,_,_,e),_):=b.list h;let(l,n,(r,p,d,_,_,c),_):=b.list j;rw[i]at d;cases d;rw[e]at c;injection c with f _;have:k=l:=by simpa using fL UX f
 subst this;show m.inj n
def Inv.Zv(b:?f H s)(h:cZ X.K H a xs)(j:cZ X.K H a ys):xs=ys:=by
 let(k,m,(q,i,_,o,e),_):=b.tuple h;let(l,n,(r,d,_,p,c),_):=b.tuple j;rw[i]at d;cases d;rw[e]at c;injection c with f _;have:k=l:=by simpa using fL UX f
 subst this;show m.inj n
end
section
variable{X:Cx}{st:bY}{rest:List bY}{t u:TS}{e:dz}{te:TE}{pos:Pos}
def atP:TS:=λa c b=>a.nx c b
def S6(t u:TS):TS:=λa c b=>t {a with nx:=u a} c b
def gB:pF X [] atP:=λ_ _ c a _ b h=>BP (c,a,b,h)
def bx(l:PS X st t)(m:pF X rest u):pF X (st::rest) (S6 t u):=by
 intro c n p d b i h;show GP (df (l c n p d {b with nx:=u b} i h) λk o a=>?_);cases k with
 |next=>
  let(q,f,j,a):=a;show m c o q f b j a
 |ret r=>show a
 |brk=>show a
 |cont=>show a
def bw(i:PS X st t):pF X [st] t:=by
 intro j k l c b d h;show GP (df (i j k l c b d h) λf m a=>?_);cases f with
 |next=>show BP a
 |ret n=>show a
 |brk=>show a
 |cont=>show a
def Inv.quiet(b:?bf c f a d):interactive X.env=I:=by simp[interactive,b.ok.kind]
def atL(te:TE):TS:=λb a c=>te a c λ_ d=>b.nx a d
def dO(i:?am e te)(j:?arf (?fB e U=pure I)):PS X (.Expr e pos) (atL te):=by intro k n b c o a h;show wpAny_Expr_any (df (i k n b c _ a h) λr q m=>?_) a.quiet j;let(s,d,f,p,l):=m;show(b,d,f,l)
def auO(te:TE):TS:=λa c b=>te c b a.rt
def dM(i:?am e te):PS X (.Return (Y e) pos) (auO te):=by intro j n a b p d h;show wpAny_Return_some (df (i j n a b _ d h) λr q l=>?_);let(o,c,f,m,k):=l;show(o,a,c,f,m,k)
def atV:TS:=λa _ b=>a.rt .cT b
def OQ:PS X (.Return U pos) atV:=λ_ _ c a _ b h=>wpAny_Return_none (.cT,c,a,b,Z,h)
def auJ(h:TT)(t u:TS):TS:=λb a d=>h a d λf c=>if f=M then t b a c else u b a c
def fH(v:PT X k n)(r:pF X i t)(s:pF X j u):PS X (.If k i j pos) (auJ n t u):=by
 intro a x b o c p h;show wpAny_If (df (v a x b o _ p h) λq m w=>?_);let(d,f,l):=w;rcases q with _|_
 .show s a m b d c f l
 show r a m b d c f l
end
abbrev TG:=V->St->L->(St->L->Prop)->Prop
abbrev zT:=?au->St->L->(St->L->Prop)->Prop
def PG(a:Cx)(l:dz)(k:TG):=
 ∀(d:?H) (e:aO) (i:St) (b:L) (h:V) (f:J) (c:St->L->Prop),?e0 d i b e->RelV h f->k h i b c->?K (Jf l a.env f) (λ_ j=>SI a d c j) e
def FX(a:Cx)(l:List dz)(k:zT):=
 ∀(d:?H) (e:aO) (i:St) (b:L) (h:?au) (f:?aX) (c:St->L->Prop),?e0 d i b e->a_ h f->k h i b c->?K (assignInOrder ((Cd l a.env).map (·.2)) f) (λ_ j=>SI a d c j) e
abbrev at9:=V->V->V->L->(L->Prop)->Prop
def at7(a:Cx)(o:at9):=
 ∀(i:?H) (j:aO) (m:St) (b:L) (f d l:V) (h e k:J) (c:L->Prop),?e0 i m b j->RelV f h->RelV d e->RelV l k->o f d l b c->?K (setItem h e k) (λ_ n=>HI a i m c n) j
abbrev JV:=V->V->L->VK->Prop
def PIp(a:Cx)(l:EK)(m:JV):=
 ∀(d:?H) (e:aO) (k:St) (b:L) (i j:V) (h f:J) (c:VK),?e0 d k b e->RelV i h->RelV j f->m i j b c->?K (Yy l h f) (EP a d k c) e
section
variable{X:Cx}{pos:Pos}
def FH(c:Nat):TG:=λd e a b=>b (e.set c (Y d)) a
def jB{i:Nat}(e:X.N.Nodup)(j:X.N[i]?=Y a)(k:?iR a)(f:?afi (X.fn a=M\/?cE=Y .local )):PG X (.Name a pos) (FH i):=by intro n o s b r q m c l h;show afa (Iv c e j k l (λp d=>(_,b,d,h)) f)
def aui:zT:=λc d a b=>c=[]/\b d a
def atf(f:TG)(h:zT):zT:=λi j c e=>bN λb a=>i=b::a/\f b j c λk d=>h a k d e
def IV:FX X [] aui:=by intro i j e a l k f b d h;let(c,h):=h;subst c;cases d;show assignInOrder_nil (e,a,b,h)
def yV(o:PG X a e)(p:FX X b f)(q:?arf ((Cd (a::b) X.env).map (·.2)=Jf a X.env::(Cd b X.env).map (·.2))):FX X (a::b) (atf e f):=by
 intro d u w i B y m k c h;let(z,A,n,h):=h;subst n;cases c with
 |cons c t=>
  rw[q];show assignInOrder_cons (df (o d u w i _ _ _ k c h) λ_ v s=>?_);let(x,j,l,r):=s;show p d v x j _ _ m l t r
def R0(d:cp)(f:Nat)(h:zT):TG:=λi j b e=>bN λc a=>i=?aC/\cZ d b c a/\R a=f/\h a j b e
def Jy{z:Nat}{n:Nat}(s:X.f6=M)(h:FX X a k)(u:?arf ((Cd a X.env).length=n))(w:?arf ((Cd a X.env).findIdx? (·.1)=U)):PG X (.Tuple a z pos) (R0 X.K n k):=by
 intro f j l d a T o b B c;let(E,C,q,v,t,c):=c;subst q;cases B;let(P,i,x,H):=b.tuple v;show assign_Tuple_tuple (b.ok.hd s) x (by simp[u,<-t,i.length]) w λr y=>?_
 let m:?bf f l d {j with heap:=r}:=b.kept (t':=j.toks) λp A e=>y p A (jS (fS e)) e;show h f _ l d C _ o m ?i9 c
def Qi(e:TE)(g:TG):TS:=λb a c=>e a c λf d=>g f a d b.nx
def eG{i:Nat}(m:X.N.Nodup)(p:X.N[i]?=Y a)(r:?iR a)(n:?am b d)(q:?arf (?fB b (Y (.Name a c))=pure I))(o:?afi (X.fn a=M\/?cE=Y .local )):PS X (.Assign [.Name a c] b pos) (Qi d (FH i)):=by intro s w x e y j h;show wpAny_Assign_Name (df (n s w x e _ j h) λB z u=>?_) q;let(C,f,k,v,t):=u;show Iv k m p r v (λA l=>(_,f,l,t)) o
def auD(b:Nat)(i:TE)(j:JV):TS:=λd a e=>∃c,a[b]?=Y (Y c)/\i a e λk f=>j c k f λl h=>d.nx (a.set b (Y l)) h
def Pj{i:Nat}(E:X.N.Nodup)(o:X.N[i]?=Y a)(f:?iR a)(T:?am e q)(y:PIp X j r)(b:?afi (X.fn a=M\/?cE=Y .local )):PS X (.AugAssign (.Name a c) j e pos) (auD i q r):=by
 intro k p u w v d h;let(t,C,h):=h;let(c,q,n):=d.loc;let r:Dq X.env.scope a:=by rcases f with c|c;show ?js;show .inr ?js
 let(s,m,l):=n i a t o C r;show wpAny_AugAssign_Name ?_;let go:?r (?V e) (λn e=>?r (Yy j s n) (λm j=>?r (YA X.env a m) (λ_=>SP X k v .next) X.xe j) X.xe e) X.xe p:=by
  show df (T k p u w _ d h) λn r j=>?_;let(v,x,z,p,e):=j;show df (y k r u x t v s n _ z m p e) λe e j=>?_;let(e,y,A,k,e):=j;show Iv A E o f k (λj B=>(_,y,B,e)) b
 rcases l with⟨b,e⟩|⟨b,j,H,P⟩
 .show Y3 d.ok.kind b q e go
 rcases b with b|b
 .show Z3 d.ok.kind b H P go
 rcases f with c|c
 .have:?cE=?kb:=b;rw[c]at this;cases this
 have:?cE=?kb:=b;rw[c]at this;cases this
def ipI(e:Int->Int->Int):JV:=λf h c d=>bN λa b=>f=?cD/\h=?dk/\d (.int (e a b)) c
def Pe:PIp X .Add (ipI λa b=>a+b):=by intro m n u c s t r q l d j k h;let(a,b,e,f,i):=h;subst e;subst f;let(o,0):=j;let(p,0):=k;show iadd_int (.int _,c,d.tok _,?f0,i)
end
section
variable{X:Cx}{pos:Pos}
def as2(l:TT)(m:TS):TS:=λd a b=>∃W:Nat->St->L->Prop,(∃c,W c a b)/\∀c a b,W c a b->l a b λk h=>if k=M then∃e:St->L->Prop,(∀j f,e j f->∃i,i<c/\W i j f)/\m {d with nx:=e,ct:=e,bk:=d.nx} a h else d.nx a h
def wk(u:Yt ?u X.A X.env X.xe)(E:PT X s w)(C:pF X r v):PS X (.While s r [] pos) (as2 w v):=by
 intro m a b x a y h;let(W,(H,a),turn):=h;show wpAny_While (codeAny_whileLoop (λk T=>SI X m (W k) T) ?_ H (b,x,y,a));intro k a ξ;let(e,o,z,b):=ξ;show BQ u (df (E m a e o _ z (turn k e o b)) λA a P=>?_);let(p,q,c):=P;rcases A with _|_
 .rw[bp kU];show BP (e,p,q,c)
 let(b,t,c):=c;rw[?eZ];show BQ u (df (C m a e p _ q c) λB a d=>?_);cases B with
 |next=>
  let(b,a,f,l):=d;let(j,i,n):=t b a l;show(j,i,b,a,f,n)
 |cont=>
  let(b,a,f,l):=d;let(j,i,n):=t b a l;show(j,i,b,a,f,n)
 |brk=>show d
 |ret a=>show d
end
structure It where
 go:Nat->L->Prop
 oP:Nat->L->V->L->Prop
 stop:Nat->L->Prop
def sJ(b:Cx)(f:?H)(d:L)(a:S):=
 d a=U/\a≠b.env.2/\a∉b.fs/\(a∈b.ex\/Q b.8.1.1<=a)/\(∀h c,b.env.cells.lookup h=Y c->c≠a)/\∀e∈b.pn++f,e.1≠a
def Inv.yf{j e:L}(a:Inv f h r j i)(b:Q i.1.1<=c)(m:e c=U):sJ f h e c:=by
 show(m,Hh (jw a.lt b),a.Qa b,.inr (fZ a.sz b),λq k l d=>?_,λo n d=>?_)
 .let(s,p):=a.cell q k l;show ?b2 (jw p.lt (by rw[d];show b))
 show ?b2 (jw (fS (a.pin o n).1) (by rw[d];show b))
structure i6(k:eP)(n:dZ)(v:cp)(B:dz)(r:It)(l:List S)(m:S)(i:Nat->dg->Prop):Prop where
 mem:m∈l
 obj:∀b h,i b h->∀d∈l,∃o,h.get? d=Y o/\∀C,o.data≠.cell C
 keep:∀b h x,i b h->(∀d∈l,∀o,h.get? d=Y o->x.get? d=Y o)->i b x
 item:∀(a:Cx),a.prog=k->a.w=n->a.K=v->a.f6=M->∀(b:Nat) (f:?H) (c:aO) (p:St) (e:L) (j:J->aO->Prop),?e0 f p e c->(∀d∈l,sJ a f e d)->i b c.heap->r.go b e->bH (bQ k n) a.A (zp ?d6) (λs t=>∃u,s=Y u/\bH (bQ k n) a.A (LQ B ?d6 u) (λ_ y=>bN λz q=>?e0 f p q y/\RelV z u/\r.oP b e z q/\i ?a4 y.heap/\∀d∈l,q d=U) j t) j c
 done:∀(a:Cx),a.prog=k->a.w=n->a.K=v->a.f6=M->∀(b:Nat) (f:?H) (c:aO) (p:St) (e:L) (j:J->aO->Prop),?e0 f p e c->(∀d∈l,sJ a f e d)->i b c.heap->r.stop b e->bH (bQ k n) a.A (zp ?d6) (λs t=>s=U/\?e0 f p e t) j c
 self:∀(A:eV) (b:Nat) (c:aO) (w:J->aO->Prop) (j:J->aO->Prop),i b c.heap->w ?d6 c->bH (bQ k n) A (Jg ?d6) w j c
abbrev TI:=St->L->(It->L->Prop)->Prop
def Qm(a:Cx)(f:?H)(n:St)(m:dz)(j:It->L->Prop)(l:J)(h:aO):=
 mv λ(e:S) (d:?aD) (i:Nat->dg->Prop) (c:It) (b:L)=>l=?aY/\?e0 f n b h/\i6 a.1 a.w a.K m c d e i/\i 0 h.1/\(∀k∈d,sJ a f b k)/\j c b
def PI(a:Cx)(j h:dz)(l:TI):=
 ∀(e:?H) (f:aO) (b:St) (c:L) (d:It->L->Prop),?e0 e b c f->l b c d->?K (dU h a.env) (λk i=>?K (Jg k) (Qm a e b j d) i) f
def AV{s:aO}{n:String}{a:Unit->aO->Prop}(q:s.1.get? i=Y c)(m:c.cls=.type n)(o:c.data=.fields l)(p:["enumerate","zip","dict_itemiterator","dict_reverseitemiterator","odict_iterator","itertools.zip_longest","itertools.pairwise"].contains n=I)(b:a () s):bH f d (LQ j ?iB k) a e s:=by
 unfold LQ;cases j<;>first
  |show dA b
  |(cases k<;>first
   |show dA b
   |(show bC (wpAny_load q ?_);rw[m,o];change bH f d (if(["enumerate","zip","dict_itemiterator","dict_reverseitemiterator","odict_iterator","itertools.zip_longest","itertools.pairwise"].contains n&&l[0]?==Y (nX _))=M then _ else _) a e s;rw[bp (by intro h;rw[p,TF]at h;cases h)];show dA b))
def sP(d:cp)(e:S):It:=
 (λc b=>bN λa f=>cJ d b e a/\a[c]?=Y f,λc b f h=>h=b/\∀a,cJ d b e a->a[c]?=Y f,λc b=>∃a,cJ d b e a/\R a<=c)
def sQ(d:cp)(e:S):It:=
 (λc b=>bN λa f=>cZ d b e a/\a[c]?=Y f,λc b f h=>h=b/\∀a,cZ d b e a->a[c]?=Y f,λc b=>∃a,cZ d b e a/\R a<=c)
def yh(e:Int)(b:Nat):It:=(λa _=>a<b,λa c f d=>d=c/\f=.int (e+a),λa _=>b<=a)
def anp(P f:S):i6 a c E b (sP E P) [f] f (λj h=>h.IsListIter f P j)where
 mem:=by simp
 obj:=λj h b d e=>by
  let a:d=f:=by simpa using e
  subst a;let(i,a,T,o):=b;show(i,a,λc c=>by rw[o]at c;cases c)
 keep:=λj h k b c=>b.at λi a=>c f ?c i a
 item:=by
  intro H w z v X j E s a1 n a2 c l b y;subst w z v;let(a9,x,m,A):=y;let(a6,C,B,a5):=c.list m;let(a0,P,a7):=C.get A;let(p,q,a4,r,t,u):=l f ?c
  show wpAny_pyNext_list_item b B.isList (x:=a0) (by simpa using P) λk P a8=>?_
  let a3:Inv H E a1 n {s with heap:=k}:=?gY (λd i e a=>(a8.2 d e).trans a) p q r t u;let(i,a,T,o):=id P;show(a0,Z,AV (s:={s with heap:=k}) a T o ?i (x,n,a3,a7,(rfl,λo o=>by rw[c.Ik o m];show A),P,λd e=>(l d e).1))
 done:=by
  intro H w z v X j E s a1 n a2 c l b y;subst w z v;let(a9,m,A):=y;let(a6,C,B,a5):=c.list m;let(p,q,a4,r,t,u):=l f ?c
  let f:=C.length;show wpAny_pyNext_list_end (c.ok.hd X) b B.isList ?b7 λk f=>(rfl,?gY (λd i e a=>f d i e a) p q r t u)
 self:=λ_ _ _ _ _ b h=>wpAny_pyIter_listiter b h
def alT(k f:S):i6 a c P b (sQ P k) [f] f (λj h=>h.IsTupleIter f k j)where
 mem:=by simp
 obj:=λj h b d e=>by
  let a:d=f:=by simpa using e
  subst a;let(i,a,X,p):=b;show(i,a,λc c=>by rw[p]at c;cases c)
 keep:=λj h l b c=>b.at λi a=>c f ?c i a
 item:=by
  intro T y A w P j a0 s a3 o a4 c m b z;subst y A w;let(b0,x,n,B):=z;let(C,H,E,a7):=c.tuple n;let(a2,a1,a8):=H.get B;let(q,r,a6,t,u,v):=m f ?c
  show wpAny_pyNext_tuple_item b (show s.1.IsTuple k C.toArray from E) (x:=a2) (by simpa using a1) λl a1 a9=>?_
  let a5:Inv T a0 a3 o {s with heap:=l}:=?gY (λd i e a=>(a9.2 d e).trans a) q r t u v;let(i,a,X,p):=id a1;show(a2,Z,?jt X p ?i (x,o,a5,a8,(rfl,λp p=>by rw[c.Zv p n];show B),a1,λd e=>(m d e).1))
 done:=by
  intro T y A w P j a0 s a3 o a4 c m b z;subst y A w;let(b0,n,B):=z;let(C,H,E,a7):=c.tuple n;let(q,r,a6,t,u,v):=m f ?c
  let f:=H.length;show wpAny_pyNext_tuple_end (c.ok.hd P) b (show s.1.IsTuple k C.toArray from E) ?b7 λl f=>(rfl,?gY (λd i e a=>f d i e a) q r t u v)
 self:=λ_ _ _ _ _ b h=>wpAny_pyIter_tupleiter b h
def alS{w:dZ}(c:S)(m:Int)(n:Nat):i6 d w b e (yh m n) [c] c (λa h=>MF h c (m+?dn*1) ((n:Int)-?dn) 1)where
 mem:=by simp
 obj:=λa h b d e=>by
  let i:d=c:=by simpa using e
  subst i;show(_,b,λP f=>by
   let j:Data.fields _=Data.cell P:=f;cases j)
 keep:=λa h k b f=>f c ?c _ b
 item:=by
  intro j x A v y a C s T o X f l b z;subst x A v;let(p,q,a0,r,t,u):=l c ?c
  let W:=aja (prog:=j.1) (w:=j.w) (f.ok.hd y) c m 1 n;show W.item a s _ _ z b λP k H B E a1=>?_;let(a2,0):=B;let P:Inv j C T o {s with heap:=k,toks:=H}:=f.turned (λd B e i=>a1 d B ?dx i) p q r t u
  show(_,Z,AV (s:={s with heap:=k,toks:=H}) (n:="range_iterator") E Z Z ?i (.int (m+a),o,P,(a2,?_),(rfl,Z),E,λd e=>(l d e).1))
  rw[Int.mul_one]
 done:=by
  intro j x A v y a C s T o X f l b z;subst x A v;let(p,q,a0,r,t,u):=l c ?c
  show W0 (f.ok.hd y) b (by have:n<=a:=z;lia) λk a=>(rfl,f.turned (t':=s.toks) (λd B e i=>a d B e i) p q r t u)
 self:=λ_ _ _ _ _ b h=>V_ b h
section
variable{X:Cx}{tg:dz}
def Pw(c:cp)(f:TE):TI:=λj d e=>f j d λh b=>∃a,h=?s/\(∃i,cJ c b a i)/\e (sP c a) b
def PZ(c:cp)(f:TE):TI:=λj d e=>f j d λh b=>∃a,h=?s/\(∃i,cZ c b a i)/\e (sQ c a) b
def tI{l:dz}(n:?am l e):PI X tg l (Pw X.K e):=by
 intro q v w f x j h;show df (n q v w f _ j h) λC c t=>?_;let(E,i,b,u,s):=t;let(k,a,(H,o),r):=s;subst a;cases u;let(z,B,p,y):=b.list o;show afb p.isList ?_;show(c.1.1.size,[c.1.1.size],_,_,i,Z,b.kept (t':=c.toks) λd A a=>?e1 a,anp k _,(_,?dd,Z,Z),λd m=>?_,r);let a:d=Q c.1.1:=by simpa using m
 subst a;show b.yf ?a2 (b.bU.fresh ?a2)
def AM{l:dz}(n:?am l f):PI X tg l (PZ X.K f):=by
 intro r w x i y k h;show df (n r w x i _ k h) λC b u=>?_;let(E,j,c,v,t):=u;let(d,a,(H,o),s):=t;subst a;cases v;let(p,B,q,z):=c.tuple o;show Lm (show b.1.IsTuple d p.toArray from q) ?_;show(b.1.1.size,[b.1.1.size],_,_,j,Z,c.kept (t':=b.toks) λe A a=>?e1 a,alT d _,(_,?dd,Z,Z),λe m=>?_,s);let a:e=Q b.1.1:=by simpa using m
 subst a;show c.yf ?a2 ?fi
def aoK{o:It->L->Prop}{a b:Int}{m:Nat}(q:?bf l n i c)(t:-(2^62)<=a)(u:a<2^62)(v:-(2^62)<=b)(w:b<2^62)(z:o (yh a (b-a).toNat) i):?r (Jg (.ref c.1.1.size)) (Qm X l n tg o) p {c with heap:=?af,toks:=m}:=by
 show aeS (ai4 ..) (small_one t u v w) ?_;let j:?bf l n i {c with heap:=?af,toks:=m}:=q.kept λk y d=>?e1 d;show((?af).1.size,[(?af).1.size],_,_,i,Z,j.kept (t':=m) λk y d=>?e1 d,alS _ a (b-a).toNat,?_,λk x=>?_,z)
 .let r:a+?eX*1=a:=by simp
  let s:(((b-a).toNat:Nat):Int)-?eX=Gn a b 1:=by rw[rangeSize_one];split<;>lia
  change MF _ _ (a+?eX*1) ((((b-a).toNat:Nat):Int)-?eX) 1;rw[r,s];show ?dd
 let d:k=(?af).1.size:=by simpa using x
 subst d;show j.yf ?a2 (j.bU.fresh ?a2)
def atk(e:TA):TI:=λh b d=>e h b λf c=>∃a:Int,f=[?cD]/\-(2^62)<=a/\a<2^62/\d (yh 0 a.toNat) c
def Zj{n pos:Pos}(k:?jr "range")(l:X.mg "range"=U)(j:PA X [a] d)(m:?arf (?G [a]=[(I,?V a)])):PI X tg (?as (.Name "range" n) [a] pos) (atk d):=by
 intro o v w e y c h;show AN (wz c k l boot_range (Ae (df (j pos o v w e _ c h) λC A r=>?_) m Z));let(E,x,f,t,b):=r;let(z,i,b,q,p):=b;subst i;cases t with
 |cons s u=>
  cases u;let(B,0):=s;show call_range_1 (aoK f ?d ?d b q (by simpa using p))
def auI(p:TI)(g:TG)(o:TS):TS:=λf b a=>p b a λh m=>∃W:Nat->Nat->St->L->Prop,(∃e,W 0 e b m)/\∀d e b a,W d e b a->(h.stop d a/\f.nx b a)\/(h.go d a/\∃i:St->L->Prop,(∀l c,i l c->∃j,j<e/\W (d+1) j l c)/\∀k c,h.2 d a k c->g k b c λq n=>o {f with nx:=i,ct:=i,bk:=f.nx} q n)
def Fw(b:?aD)(h:dg):?H:=b.filterMap λa=>(?ap).map λc=>(a,c)
def Np{h:dg}(e:a∈b)(d:?ap=Y c):(a,c)∈Fw b h:=aeH.mpr (a,e,by rw[d];rfl)
def amK{h:dg}(j:a∈Fw e h):a.1∈e/\h.get? a.1=Y a.2:=by
 let(d,i,b):=aeH.mp j;rcases c:h.get? d with _|k
 .rw[c]at b;cases b
 rw[c]at b;let f:(d,k)=a:=gR b;subst f;show(i,c)
def Inv.pinned(j:?bf h n b a)(s:∀c∈d,sJ X h b c)(t:∀c∈d,∃e,a.1.get? c=Y e/\∀v,e.data≠.cell v):?bf (h++Fw d a.1) n b a:=
 j.F_ λf u=>(iE.mp u).elim (λi=>j.pin f (ug _ i)) λi=>by
  let(m,k):=amK i;let(p,q,r,_):=s f.1 m;let(e,l,o):=t f.1 m;rw[k]at l;cases l;show(k,p,q,r,o)
theorem Inv.Ix(b:?bf (ap++h) d a c):?bf ap d a c:=b.F_ λf e=>b.pin f (ug _ (BA _ e))
def qM{g:TG}{pos:Pos}(n:Yt ?u X.A X.env X.xe)(T:X.f6=M)(e:PI X tg v b)(x:PG X tg g)(d:pF X E a)(f:?ain (∀p,Lz v X.env p=pure p)):PS X (.For tg v E [] pos) (auI b g a):=by
 intro j i c a b b h;show wpAny_For (df (e j i c a _ b h) λE a a=>df a λa a a=>?_) f;let(b,m,o,b,e,l,i,k,s,H,W,(r,u),turn):=a;subst l;let z:∀{H':L},(∀a∈m,H' a=U)->∀a∈m,sJ X j H' a:=λb a d=>(b a d,(H a d).2);show codeAny_forLoop_any (λt b=>gG λf q H'=>?bf j q H' b/\o f b.1/\(∀a∈m,H' a=U)/\W f t q H') ?_ r (0,c,e,i,s,λa d=>(H a d).1,u);intro t b ξ;let(f,r,s,B,c,P,e):=ξ;rcases turn f t r s e with⟨stop,y⟩|⟨go,v,w,step⟩
 .show BQ n (df (k.done X Z Z Z T f j b r s X.xe B (z P) c stop) λA C i=>?_);let(u,e):=i;subst u;show BP (r,s,e,y)
 show BQ n (df (k.item X Z Z Z T f j b r s X.xe B (z P) c go) λA C c=>?_);let(B,u,b):=c;subst u;show BQ n (df b λ_ c e=>?_);let(p,A,b,s,u,y,i):=e;let e:=b.pinned (z i) (k.obj _ _ y);show BQ n (df (x _ c r A p B _ e s (step p A u)) λ_ r p=>?_);let(s,b,e,i):=p;show BQ n (df (d _ r s b _ e i) λn x i=>?_);let C:∀{e:St} {b:L},?bf (j++Fw m c.1) e b x->v e b->∃c,c<t/\gG λf q H'=>?bf j q H' x/\o f x.1/\(∀a∈m,H' a=U)/\W f c q H':=λ{e b} c o=>by
  let(m,j,p):=w e b o;show(m,j,f+1,e,b,c.Ix,k.keep _ _ _ y λa d w l=>(c.pin (a,w) (ug _ (ug _ (Np d l)))).1,λa d=>?_,p);let(w,l,f):=k.obj _ _ y a d;show(c.pin (a,w) (ug _ (ug _ (Np d l)))).2.1
 cases n with
 |next=>let(e,b,c,o):=i;show C c o
 |cont=>let(e,b,c,o):=i;show C c o
 |brk=>let(e,b,c,i):=i;show(e,b,c.Ix,i)
 |ret E=>let(x7,e,b,c,a,i):=i;show(x7,e,b,c.Ix,a,i)
end
theorem ER{K:cp}{a:S}{xs:?au}{g:TG}{u:TS}{j:h_}{d:St}{c:L}(e:Nat->St->L->Prop)(v:e 0 d c)(y:∀b d c,b<=xs.length->e b d c->cJ K c a xs)(z:∀b i d c,xs[b]?=Y i->e b d c->g i d c λr k=>u {j with nx:=e ?a4,ct:=e ?a4,bk:=j.nx} r k)(w:∀d c,e xs.length d c->j.nx d c):∃W:Nat->Nat->St->L->Prop,(∃h,W 0 h d c)/\∀b h d c,W b h d c->((sP K a).stop b c/\j.nx d c)\/((sP K a).go b c/\∃l:St->L->Prop,(∀q f,l q f->∃t,t<h/\W ?a4 t q f)/\∀i f,(sP K a).oP b c i f->g i d f λr k=>u {j with nx:=l,ct:=l,bk:=j.nx} r k):=by
 show ?eY
 intro b h d c ξ;let(0,x,n):=ξ;have o:=y b d c x n;by_cases s:b<xs.length
 .show ?en
  obtain⟨m,p⟩:=p;subst m;show z b i d _ (p xs o) n
 have m:b=xs.length:=by lia
 subst m;show .inl ((xs,o,?a2),w d c n)
theorem OJ{K:cp}{a:S}{xs:?au}{g:TG}{u:TS}{j:h_}{d:St}{c:L}(e:Nat->St->L->Prop)(v:e 0 d c)(y:∀b d c,b<=xs.length->e b d c->cZ K c a xs)(z:∀b i d c,xs[b]?=Y i->e b d c->g i d c λr k=>u {j with nx:=e ?a4,ct:=e ?a4,bk:=j.nx} r k)(w:∀d c,e xs.length d c->j.nx d c):∃W:Nat->Nat->St->L->Prop,(∃h,W 0 h d c)/\∀b h d c,W b h d c->((sQ K a).stop b c/\j.nx d c)\/((sQ K a).go b c/\∃l:St->L->Prop,(∀q f,l q f->∃t,t<h/\W ?a4 t q f)/\∀i f,(sQ K a).oP b c i f->g i d f λr k=>u {j with nx:=l,ct:=l,bk:=j.nx} r k):=by
 show ?eY
 intro b h d c ξ;let(0,x,n):=ξ;have o:=y b d c x n;by_cases s:b<xs.length
 .show ?en
  obtain⟨m,p⟩:=p;subst m;show z b i d _ (p xs o) n
 have m:b=xs.length:=by lia
 subst m;show .inl ((xs,o,?a2),w d c n)
theorem awX{j:Int}{d:Nat}{g:TG}{u:TS}{i:h_}{c:St}{b:L}(f:Nat->St->L->Prop)(v:f 0 c b)(x:∀a c b,a<d->f a c b->g (.int (j+a)) c b λr k=>u {i with nx:=f ?aN,ct:=f ?aN,bk:=i.nx} r k)(w:∀c b,f d c b->i.nx c b):∃W:Nat->Nat->St->L->Prop,(∃h,W 0 h c b)/\∀a h c b,W a h c b->((yh j d).stop a b/\i.nx c b)\/((yh j d).go a b/\∃l:St->L->Prop,(∀q e,l q e->∃s,s<h/\W ?aN s q e)/\∀o e,(yh j d).oP a b o e->g o c e λr k=>u {i with nx:=l,ct:=l,bk:=i.nx} r k):=by
 show(λa h c b=>h=d-a/\a<=d/\f a c b,(d,by simp,gI _,v),?_)
 intro a h c b ξ;let(0,z,t):=ξ;by_cases n:a<d
 .show .inr (n,f ?aN,λq e y=>(d-?aN,by lia,rfl,n,y),λo e p=>?_)
  obtain⟨m,p⟩:=p;subst m p;show x a c _ n t
 have m:a=d:=by lia
 subst m;show .inl (?a2,w c b t)
abbrev R2:=V->V->L->VK->Prop
def ly(a:Cx)(l:J->J->Sem J)(m:R2):=
 ∀(d:?H) (e:aO) (k:St) (b:L) (i j:V) (h f:J) (c:VK),?e0 d k b e->RelV i h->RelV j f->m i j b c->?K (l h f) (EP a d k c) e
def JW(a:Cx)(j:J->Sem J)(k:V->L->VK->Prop):=
 ∀(d:?H) (e:aO) (i:St) (b:L) (h:V) (f:J) (c:VK),?e0 d i b e->RelV h f->k h b c->?K (j f) (EP a d i c) e
def qN(a:Cx)(j:J)(k:?au->L->VK->Prop):=
 ∀(d:?H) (e:aO) (i:St) (b:L) (h:?au) (f:?aX) (c:VK),?e0 d i b e->a_ h f->k h b c->?K (px j f) (EP a d i c) e
def aub(a:Cx)(j:V->L->(Bool->L->Prop)->Prop):=
 ∀(d:?H) (e:aO) (i:St) (b:L) (h:V) (f:J) (c:Bool->L->Prop),?e0 d i b e->RelV h f->j h b c->?K (Fp f) (TP a d i c) e
def Kh(f:R2)(h i:TE):TE:=λa b e=>h a b λj c=>i a c λk d=>f j k d e
def tUn(d:V->L->VK->Prop)(e:TE):TE:=λh a c=>e h a λf b=>d f b c
def rI(c:Int->Int->Prop)(g:Int->Int->V):R2:=λf h d e=>bN λa b=>f=?cD/\h=?dk/\c a b/\e (g a b) d
def yk(g:Int->Int->V):R2:=λe f c d=>bN λa b=>e=?cD/\f=?dk/\d (g a b) c
def rU(g:Int->V):V->L->VK->Prop:=λd b c=>∃a,d=?cD/\c (g a) b
section
variable{X:Cx}{a b c:dz}{ta tb tc:TE}{pos:Pos}
def PV(w:?am a ta)(x:?am b tb){r:V->V->L->Prop}(t:?bf l k n p)(h:ta k n λi o=>tb k o λj d=>r i j d){s:J->J->Sem J}(y:∀f e m i j d,?bf l k d m->RelV i f->RelV j e->r i j d->?r (s f e) q X.xe m):?r (?V a) (λf T=>?r (?V b) (λe u=>?r (s f e) q X.xe u) X.xe T) X.xe p:=by show df (w l p k n _ t h) λf P B=>?_;let(i,o,u,E,z):=B;show df (x l P k o _ u z) λe m C=>?_;let(j,d,v,H,A):=C;show y f e m i j d v E H A
def jW(n:ly X (yR d) e)(l:?am a ta)(m:?am b tb):?am (.BinOp a d b pos) (Kh e ta tb):=by intro o z x y k i h;show wpAny_BinOp (PV l m i h λu t s v w f j q r p=>n o s x f v w u t k j q r p)
def om(p:JW X (unaryOp d) f)(o:?am a ta):?am (.UnaryOp d a pos) (tUn f ta):=by intro e t i j n l h;show UnaryOp_ (df (o e t i j _ l h) λv u r=>?_);let(w,k,m,s,q):=r;show p e u i k w v n m s q
def Kd{l:J->J->Sem J}{k:Int->Int->Prop}{g:Int->Int->Int}(s:∀(d e:Int) (j m:Tok) (f:aO) (i:J->aO->Prop) (n:J->aO->Prop),k d e->i (?i2 f.toks) {f with toks:=f.toks+1}->?r (l (?gV j) (.int e m)) i n f):ly X l (rI k λd e=>?i2):=by intro w f A o y z x m i p t u h;let(d,e,0,0,q,r):=h;let(j,0):=t;let(v,0):=u;show s d e j v f _ _ q (?i2,o,p.tok _,?f0,r)
def Qb{k:J->J->Sem J}{g:Int->Int->Int}(q:∀(d e:Int) (j l:Tok) (f:aO) (i:J->aO->Prop) (m:J->aO->Prop),i (?i2 f.toks) {f with toks:=f.toks+1}->?r (k (?gV j) (.int e l)) i m f):ly X k (yk λd e=>?i2):=by intro u f y n w x v l i o r s h;let(d,e,0,0,p):=h;let(j,0):=r;let(t,0):=s;show q d e j t f _ _ (?i2,n,o.tok _,?f0,p)
def JP{k:J->J->Sem J}{g:Int->Int->Bool}(q:∀(d e:Int) (j l:Tok) (f:aO) (i:J->aO->Prop) (m:J->aO->Prop),i (.bool (g d e)) f->?r (k (?gV j) (.int e l)) i m f):ly X k (yk λd e=>.bl (g d e)):=by intro u f y n w x v l i o r s h;let(d,e,0,0,p):=h;let(j,0):=r;let(t,0):=s;show q d e j t f _ _ (.bl (g d e),n,o,Z,p)
def at2(e d:Int):=0<d/\d<1073741824
def at3(e d:Int):=0<=d/\d<=1000000/\e.natAbs<2^64
def PQ(d e:Int):=(-(2^64)<d/\d<2^64)\/(-(2^64)<e/\e<2^64)
theorem PQ.ok{f i:Int}(h:PQ f i):IntMulOk f i:=by
 rcases h with⟨d,e⟩|⟨d,e⟩
 .show .of_left (intBits_le_64 d e)
 show .of_right (intBits_le_64 d e)
def vy:ly X (yR .Add) (yk λd e=>.int (d+e)):=Qb λ_ _ _ _ _ _ _ f=>add_int f
def Fu:ly X (yR .Sub) (yk λd e=>.int (d-e)):=Qb λ_ _ _ _ _ _ _ f=>sub_int f
def CS:ly X (yR .Mult) (rI PQ λe f=>.int (e*f)):=Kd λ_ _ _ _ _ _ _ d h=>mul_int h d.ok
def aqt:ly X (yR .FloorDiv) (rI at2 λe d=>.int (e/d)):=Kd λe d _ _ _ _ _ f h=>by
 let i:(0:Int)<d:=f.1;let j:d<1073741824:=f.2;show floordiv_int ?d (by rw[Int.fdiv_eq_ediv_of_nonneg e ?d];show h) (.inl (V7 ?d))
def Jt:ly X (yR .Mod) (rI (λ_ d=>0<d) λe d=>.int (e %d)):=Kd λe d _ _ _ _ _ f h=>by
 let i:(0:Int)<d:=f;show mod_int' ?d (by rw[Int.fmod_eq_emod_of_nonneg e ?d];show h)
def M8:ly X (yR .LShift) (rI at3 λe f=>.int (e*2^f.toNat)):=Kd λ_ _ _ _ _ _ _ d h=>lshift_int_small d.1 d.2.1 d.2.2 h
def asq:ly X (yR .BitAnd) (yk λd e=>.int (TH d e)):=Qb λ_ _ _ _ _ _ _ f=>and_int f
def unI{j:J->Sem J}{g:Int->Int}(o:∀(d:Int) (i:Tok) (e:aO) (f:J->aO->Prop) (k:J->aO->Prop),f (.int (g d) e.toks) {e with toks:=e.toks+1}->?r (j (?gV i)) f k e):JW X j (rU λd=>.int (g d)):=by intro q e t l s r f m p h;let(d,0,n):=h;let(i,0):=p;show o d i e _ _ (.int (g d),l,m.tok _,?f0,n)
def oJ:JW X (unaryOp .USub) (rU λd=>.int (-d)):=unI λ_ _ _ _ _ e=>neg_int e
def as4:JW X (unaryOp .Invert) (rU λd=>.int (Ah d)):=unI λ_ _ _ _ _ e=>invert_int e
end
def S3:V->V->Bool
 |.cT,.cT=>M|.cT,.int _=>M|.int _,.cT=>M|.cT,.bl _=>M|.bl _,.cT=>M|.cT,.str _=>M|.str _,.cT=>M
 |.int _,.int _=>M|.bl _,.bl _=>M|.str _,.str _=>M|.pG _,.pG _=>M
 |.int _,.str _=>M|.str _,.int _=>M|.bl _,.str _=>M|.str _,.bl _=>M
 |_,_=>I
def rEq:R2:=λa b c d=>S3 a b=M/\d (.bl ?gr) c
def rNe:R2:=λa b c d=>S3 a b=M/\d (.bl (!decide (a=b))) c
def D_{a b:Int}:decide (V.int a=V.int b)=(a==b):=by rw[sZ];simp
def K_:decide (V.bl a=V.bl b)=(a==b):=by rw[sZ];simp
def E1:decide (V.str a=V.str b)=(a==b):=by rw[sZ];simp
def D9:decide (V.pG a=V.pG b)=(a.toList==b.toList):=by rw[sZ];cases a;cases b;simp
section
variable{X:Cx}{a b c:dz}{ta tb tc:TE}{pos:Pos}
def kN{f:VK}(l:?bf i k d j)(n:f (.bl e) d)(m:e=h):EP X i k f (.bool h) j:=by subst m;show(.bl e,d,l,Z,n)
def jV:ly X (nU .Eq) rEq:=by
 intro s t w q p l v u r d m f h;let(k,e):=h;cases p with
 |cT=>
  cases m;cases l with
  |cT=>cases f;show avD ?bP
  |bl i=>cases f;show avC ?bP
  |int i=>let(j,0):=f;show avO ?bP
  |str i=>let(j,0):=f;show avP ?bP
  |_=>show ?aI
 |bl n=>
  cases m;cases l with
  |cT=>cases f;show avB ?bP
  |bl i=>cases f;show eq_bool (kN d e K_)
  |str i=>let(j,0):=f;show avx ?bP
  |_=>show ?aI
 |int n=>
  let(o,0):=m;cases l with
  |cT=>cases f;show avN ?bP
  |int i=>let(j,0):=f;show eq_int (kN d e D_)
  |str i=>let(j,0):=f;show avJ ?bP
  |_=>show ?aI
 |str n=>
  let(o,0):=m;cases l with
  |cT=>cases f;show avQ ?bP
  |bl i=>cases f;show avy ?bP
  |int i=>let(j,0):=f;show avK ?bP
  |str i=>let(j,0):=f;show eq_str (kN d e E1)
  |_=>show ?aI
 |pG n=>
  let(o,0):=m;cases l with
  |pG i=>let(j,0):=f;show PySem.W.eq_bytes (kN d e D9)
  |_=>show ?aI
 |_=>cases l<;>show ?aI
def wH:ly X (nU .NotEq) rNe:=by
 intro s t w q p l v u r d m f h;let(k,e):=h;cases p with
 |cT=>
  cases m;cases l with
  |cT=>cases f;show avG ?bP
  |bl i=>cases f;show avF ?bP
  |int i=>let(j,0):=f;show avS ?bP
  |str i=>let(j,0):=f;show avT ?bP
  |_=>show ?aI
 |bl n=>
  cases m;cases l with
  |cT=>cases f;show avE ?bP
  |bl i=>cases f;show ne_bool (kN d e (fL not K_))
  |str i=>let(j,0):=f;show avz ?bP
  |_=>show ?aI
 |int n=>
  let(o,0):=m;cases l with
  |cT=>cases f;show avR ?bP
  |int i=>let(j,0):=f;show ne_int (kN d e (fL not D_))
  |str i=>let(j,0):=f;show avL ?bP
  |_=>show ?aI
 |str n=>
  let(o,0):=m;cases l with
  |cT=>cases f;show avU ?bP
  |bl i=>cases f;show avA ?bP
  |int i=>let(j,0):=f;show avM ?bP
  |str i=>let(j,0):=f;show ne_str (kN d e (fL not E1))
  |_=>show ?aI
 |pG n=>
  let(o,0):=m;cases l with
  |pG i=>let(j,0):=f;show PySem.W.ne_bytes (kN d e (fL not D9))
  |_=>show ?aI
 |_=>cases l<;>show ?aI
def yc:ly X (nU .Lt) (yk λd e=>.bl (decide (d<e))):=JP λ_ _ _ _ _ _ _ f=>lt_int f
def wG:ly X (nU .LtE) (yk λd e=>.bl (decide (d<=e))):=JP λ_ _ _ _ _ _ _ f=>le_int f
def vE:ly X (nU .Gt) (yk λd e=>.bl (decide (e<d))):=JP λ_ _ _ _ _ _ _ f=>gt_int f
def P5:ly X (nU .GtE) (yk λd e=>.bl (decide (e<=d))):=JP λ_ _ _ _ _ _ _ f=>ge_int f
def fi(b:dz)(h:?ade (d≠.In))(i:?ade (d≠.NotIn)):Al d b=I:=by
 let e:(d==cz)=I:=by cases d<;>first|rfl|show bK Z h
 let f:(d==ai0)=I:=by cases d<;>first|rfl|show bK Z i
 cases b<;>simp[Al,e,f]
def uG{r:R2}(n:ly X (nU d) r)(k:?am a ta)(l:?am b tb)(m:Al d b=I):?am (?ij [d] [b]) (Kh r ta tb):=by intro o A y z j f h;show wpAny_Compare1 (PV k l f h λv u t w x e i q s p=>n o t y e w x v u j i q s p) m
def Q5(i:TE):TT:=λk e h=>i k e λj f=>∃d,j=.bl d/\h d f
def fF(v:ly X (nU d) j)(s:?am a ta)(t:?am b tb)(u:Al d b=I):PT X (?ij [d] [b]) (Q5 (Kh j ta tb)):=by
 intro f C i l d o h;show X3 (df (s f C i l _ o h) λT E (d,H1,p,z,w)=>df (t f E i H1 _ p w) λP H (j,m,q,A,x)=>
  df (v f H i m d j T P _ q z A x) λc d (d,n,r,B,k,e,y)=>?_) u
 subst e;cases B;show vS (n,r,y)
def N7(n o:R2)(ta tb tc:TE):TE:=λd j f=>ta d j λq k=>tb d k λi l=>n q i l λr e=>∃h,r=.bl h/\(if h=M then tc d e λp m=>o i p m f else f (.bl I) e)
def u_(H:ly X (nU i) n)(P:ly X (nU j) o)(A:?am a ta)(B:?am b tb)(C:?am c tc)(E:?awu (lastMarks [i,j] [b,c]=I)):?am (?ij [i,j] [b,c]) (N7 n o ta tb tc):=by
 intro d a6 f s z v h;show Compare_chain (df (A d a6 f s _ v h) λb1 a7 (b3,H1,w,a3,a0)=>chain_link (df (B d a7 f H1 _ w a0) λq a8 (r,t,x,p,a1)=>
  df (H d a8 f t b3 r b1 q _ x a3 p a1) λb5 a9 (b6,k,l,a4,T,e,m)=>?_)) E
 subst e;cases a4;show vS ?_;rcases T with _|_
 .show ite_ff (.bl I,k,l,Z,m)
 show ite_tt (chain_last (df (C d a9 f k _ l m) λb2 b0 (b4,u,y,a5,a2)=>P d b0 f u r b4 q b2 z y p a5 a2))
def Oj(a0:ly X (nU i) n)(a1:ly X (nU j) o)(E:?am a ta)(H:?am b tb)(P:?am c tc)(T:?awu (lastMarks [i,j] [b,c]=I)):PT X (?ij [i,j] [b,c]) (Q5 (N7 n o ta tb tc)):=by
 intro d b4 f s c6 w h;show isTrue_chain (df (E d b4 f s _ w h) λc2 b5 (c4,H1,x,b0,a4)=>test_link (df (H d b5 f H1 _ x a4) λq b6 (r,t,y,p,a5)=>
  df (a0 d b6 f t c4 r c2 q _ y b0 p a5) λc7 c0 (d4,k,l,b1,a2,e,m)=>?_)) T
 subst e;cases b1;show vS ?_;rcases a2 with _|_
 .let(d1,B,a3):=m;cases B;show ite_ff (k,l,a3)
 show ite_tt (test_last (df (P d c0 f k _ l m) λc3 c1 a8=>?_));let(c5,u,z,b2,a6):=a8;show df (a1 d c1 f u r c5 q c3 _ z p b2 a6) λd0 d3 a9=>?_;let(d5,v,A,b3,d2,C,a7):=a9;subst C;cases b3;show vS (v,A,a7)
def Q9(j:cp)(m:V)(h:L)(d:Bool):Prop:=
 match m with
 |.cT=>d=I
 |.bl b=>d=b
 |.int l=>d=(l !=0)
 |.str f=>f.length<=cw/\d=((f.length:Int)!=0)
 |.pG f=>f.size<=cw/\d=((f.size:Int)!=0)
 |.ref i=>(∃e,cJ j h i e/\d=!e.isEmpty)\/(∃e,cZ j h i e/\d=!e.isEmpty)\/∃k,h i=Y (.dK k)/\d=!k.isEmpty
 |_=>False
def ak2{f:Type}{d:List (f×V)}{e:List (f×J)}(h:KV d e):(!e.isEmpty)=!d.isEmpty:=by cases h<;>rfl
def XA(f:a_ e d):(!d.toArray.isEmpty)=!e.isEmpty:=by cases f<;>simp
def zu:(cw:Nat)<2^63:=by rw[fU];decide
theorem as3:aub X (λu e v=>∃i,Q9 X.K u e i/\v i e):=by
 intro a0 H a2 e u a1 v f p h;obtain⟨i,l,j⟩:=h;have P:=zu;have T:cw=16777216:=fU;cases u with
 |cT=>
  cases p;have d:i=I:=l;subst d;show truthy_none (e,f,j)
 |bl b=>
  cases p;have d:i=b:=l;subst d;show vS (e,f,j)
 |int B=>
  obtain⟨y,rfl⟩:=p;have d:i=(B !=0):=l;subst d;show PySem.P.truthy_int (e,f,j)
 |str r=>
  obtain⟨y,rfl⟩:=p;obtain⟨A,d⟩:r.length<=cw/\i=((r.length:Int)!=0):=l;subst d;show PySem.P.truthy_str ?d (e,f.tok _,j)
 |pG r=>
  obtain⟨y,rfl⟩:=p;obtain⟨A,d⟩:r.size<=cw/\i=((r.size:Int)!=0):=l;subst d;show PySem.W.truthy_bytes ?d (e,f.tok _,j)
 |ref o=>
  cases p;have d:(∃m,cJ X.K e o m/\i=!m.isEmpty)\/(∃m,cZ X.K e o m/\i=!m.isEmpty)\/∃n,e o=Y (.dK n)/\i=!n.isEmpty:=l;rcases d with⟨m,q,d⟩|⟨m,q,d⟩|⟨n,q,d⟩
  .subst d;obtain⟨C,k,t,x⟩:=f.list q;have w:=k.length;show wpAny_truthy_list t.isList (by simp only[jK];lia) (e,f.tok _,by rw[XA k];show j)
  .subst d;obtain⟨C,k,t,x⟩:=f.tuple q;have w:=k.length;show truthy_tuple t (by simp only[jK];lia) (e,f.tok _,by rw[XA k];show j)
  subst d;obtain⟨x,z,s,k,E⟩:n.length<=cw/\(o==nS)=I/\∃s,KV n s/\H.heap.DictOf (pM X.prog X.w) o s:=f.bU o _ q;have w:n.length=s.length:=vV k;show wpAny_truthy_dict z E ?d (e,f.tok _,by rw[ak2 k];show j)
 |_=>show(show False from l).elim
def Cu(r:?am a ta)(s:∀n,CJ a X.env n=(do let d<-n;uz a.pos;tG [d] (Fp d))):PT X a (λe f i=>ta e f λj k=>∃l,Q9 X.K j k l/\i l k):=by intro m w e f i p h;show Vh (df (r m w e f _ p h) λd x u=>?_) (s _);let(j,o,q,v,t):=u;show as3 m x e o j d i q v t
def vals1(h:a_ [f] e):∃d,e=[d]/\RelV f d:=by
 cases h with
 |cons i j=>cases j;show(_,Z,i)
def ZJ:qN X (.builtin "abs") (λi e f=>∃d,i=[?gV]/\f (.int (if d<0 then-d else d)) e):=by intro n o s e i r f j l h;let(d,0,k):=h;let(m,0,p,0):=vals1 l;show call_abs_int λm q=>(.int (if d<0 then-d else d),e,j.tok _,?f0,k)
def ah9:qN X (.type "str") (λi e f=>∃d,i=[?gV]/\d.natAbs.log2<1920/\f (.str (toString d)) e):=by intro n o s e i r f j m h;let(d,0,k,l):=h;let(q,0,p,0):=vals1 m;show PySem.P.str_of_int k (.str _,e,j.tok _,?f0,l)
theorem wg:qN X (.builtin "ord") (λi e f=>∃d,i=[.str d]/\d.length=1/\f (.int (d.cps.getD 0 0:Nat)) e):=by intro n o s e i r f j m h;obtain⟨d,rfl,k,l⟩:=h;obtain⟨q,rfl,p,rfl⟩:=vals1 m;show ord_of_one k (.int _,e,j.tok _,(_,rfl),l)
end
structure AZ(h:dg)(b a c:S)(d:Str->Option J):Prop where
 obj:?ep=Y (yD c a)
 ns:h.Ns1 a d
 ne:a≠b
def NH{h:dg}(r:h.Ns1 c e):∃f,?jp=Y f/\∀name,LZ name f=Y (e name):=by
 let(s,d,t,p,l,m,_,o):=r;show(s,p,λname=>?_);let a:=o name;unfold nsFind findBy at a;rw[<-Array.find?_toList]at a;unfold LZ;rw[l];dsimp only;split
 .rename_i i b;rw[b]at a;show fL Y a
 rename_i b;rw[b]at a;let j:d.toList.any (·.refKey)=I:=by
  rw[ae3];intro i q;let(v,u,n):=m i (n_.mp q);simp[rj.refKey,n]
 let k:¬d.toList.any (·.refKey)=M:=by rw[j];show kU
 rw[bp k];show fL Y a
def AZ.i8{h:dg}(c:AZ h f d b e):∃a,LY h f (yD b d) b (Y a)/\∀name,LZ name a=Y (e name):=
 let(a,j,i):=NH c.ns
 (a,(c.obj,Z,Z,j),i)
section
variable{dm:eP}{w:dZ}{A:eV}{E:J->aO->Prop}{s:aO}{K:cp}{x dx C f:S}{mA:Str->Option J}{name:Str}{v:J}
def au{a:J->aO->Prop}(d:K.In s.1)(b:AZ s.1 x dx C mA)(j:LH K C name=M)(k:DM K C=M)(i:?gs name=Y U)(m:mA name=Y v)(n:Su v=M)(h:a v {s with toks:=s.toks+1}):?ax (EZ ?eJ name e) a:=by let(o,c,l):=b.i8;show PySem.W.get_value d c (Rr j).1 (Y_ k i Z (by rw[l,m])) n h
def an1{a:J×?aX->aO->Prop}(e:K.In s.1)(c:AZ s.1 x dx C mA)(b:LH K C name=M)(i:?gs name=Y (Y ?bL))(k:Mq K ?bL=M)(l:mA name=U)(h:a (?bL,[?eJ]) s):?ax (vg ?eJ name n) a:=by let(m,d,j):=c.i8;show PySem.W.method_fn e d (Rr b).1 (Rr b).2 i (beq_iff_eq.mp k) (by change(LZ name m).map (·.isSome)=Y I;rw[j,l];rfl) h
def aqL{i:Unit->aO->Prop}(d:K.In s.1)(b:AZ s.1 x dx C mA)(z:i_ K (.ref C) "__setattr__"=Y (Y (.builtin "object.__setattr__")))(y:o0 K C=M)(B:Th K C name=Y U)(t:DM K C=M)(H:Hk mA l)(e:R l<=cw)(h:∀c,AZ c x dx C (λm=>if m=name then Y v else mA m)->xf dx s.1 c->i () {s with heap:=c,toks:=s.toks+2}):bH (bQ dm w) A (Fd (.ref x) name v) i E s:=by
 let(e,e,i):=b.i8;show RU d e z (PySem.W.osa_open (s:={s with toks:=s.toks+1}) (r:=U) d e y B λT=>?_);let(X,n,p):=LG t;let P:s.1.get? x=Y (.ref C,Y dx,.plain,#[]):=b.obj;show bC (dA (bC (bC (TN P (bC (MY (s:={s with toks:=s.toks+1}) (La d n) ?_))))));rw[p];show dA (a:=Y dx) (bC (dA (bC ?_)));show Vj (s:={s with toks:=s.toks+1}) b.ns λc j k=>?_;let(c,c,c,u,q,o):=j.count (RV name v H);show bC (SA u (by rw[q];show Sy (fZ o (by rw[lO];lia))) ?_)
 show dA (h _ ((k.2 _ (bI b.ne)).trans b.obj,j,b.ne) k)
def t_{kw:?jl}(a:K.In s.1)(i:af7 K C=M)(e:?gs "__init__"=Y (Y ?bL))(d:TK K ?bL=Y (.type "function"))(h:vp ?fu (A.under (?ct (?bC::b,kw))) (.call ?bL (.ref ?gi::b,kw)) (PySem.W.InitBack ?gi c) {s with heap:=(?ik).push ?iS}):vp ?fu A (.call ?bC (b,kw)) c s:=by let(k,g,j,m,l):=s;show PySem.W.make_core (PySem.W.makes_of a i) (Gw a e) (λself=>af5 a self d) ?aG h
end
def dS(a:Str)(b:V):?cq->?cq
 |[]=>[(a,b)]
 |(g,d)::c=>if g=a then(g,b)::c else(g,d)::dS a b c
theorem MQ(a g:Str)(d:V):∀j:List (Str×V),(dS a d j).lookup g=if g=a then Y d else j.lookup g
 |[]=>by
  change vX g [(a,d)]=_;by_cases h:g=a
  .let b:(g==a)=M:=beq_iff_eq.mpr h;simp only[vX,b,bz h]
  .let b:(g==a)=I:=?dS;simp only[vX,b,bp h]
 |(c,k)::f=>by
  have ih:=MQ a g d f;rw[show dS a d ((c,k)::f)=(if c=a then(c,d)::f else(c,k)::dS a d f)from rfl];by_cases e:c=a
  .rw[bz e];by_cases h:g=c
   .let b:(g==c)=M:=beq_iff_eq.mpr h;simp only[vX,b,bz (h.trans e)]
   .let b:(g==c)=I:=?dS;simp only[vX,b,bp (λi:g=a=>h (i.trans e.symm))]
  .rw[bp e];by_cases h:g=c
   .let b:(g==c)=M:=beq_iff_eq.mpr h;simp only[vX,b,bp (λi:g=a=>e (h.symm.trans i))]
   .let b:(g==c)=I:=?dS;simp only[vX,b];show ih
theorem EC(a:Str)(b:V):∀f:List (Str×V),a∈(dS a b f).map (·.1)/\∀g,g∈f.map (·.1)->g∈(dS a b f).map (·.1)
 |[]=>(by simp[dS],λg h=>by simp at h)
 |(c,j)::d=>by
  let(k,l):=EC a b d;rw[show dS a b ((c,j)::d)=(if c=a then(c,b)::d else(c,j)::dS a b d)from rfl];by_cases i:c=a
  .rw[bz i];subst i;show(by simp,λg h=>by simpa using h)
  rw[bp i];show(?_,λg h=>?_)
  .rw[iF];show gY _ k
  rw[iF]at h ⊢;rcases ?fb with e|e
  .show bM.mpr (.inl e)
  show gY _ (l g e)
theorem MP(a:Str)(c:V):∀e:List (Str×V),(dS a c e).length<=R e+1
 |[]=>by simp[dS]
 |(b,h)::d=>by
  have ih:=MP a c d;rw[show dS a c ((b,h)::d)=(if b=a then(b,c)::d else(b,h)::dS a c d)from rfl];by_cases f:b=a
  .rw[bz f,lO,lO];lia
  rw[bp f,lO,lO];lia
def on.j8{v:V}{o:?bH}(b:on (Y v) o):∃a,o=Y a/\?jq a:=by
 rcases o with _|a
 .show(show False from b).elim
 show(a,Z,b)
def on.ay(b:on U a):a=U:=by
 rcases a with _|c
 .rfl
 show(show False from b).elim
def YT(c:RelV f b):Su b=M:=by
 cases f with
 |cT=>cases(show b=jL from c);rfl
 |bl e=>cases(show b=yL e from c);rfl
 |int i=>let(a,d):=(show∃a,b=yO i a from c);cases d;rfl
 |str k=>let(a,d):=(show∃a,b=Ny k a from c);cases d;rfl
 |pG e=>let(a,d):=(show∃a,b=ai7 e a from c);cases d;rfl
 |FZ e=>let(a,d):=(show∃a,b=ai8 e a from c);cases d;rfl
 |ref h=>cases(show b=dR h from c);rfl
 |ty j=>cases(show b=xp j from c);rfl
section
variable{P:eP}{w:dZ}{H H':L}{h h':dg}{a C dx:S}{fs qX:List (Str×V)}
def IN(f:?bS)(e:H a=Y ?gW):∃b,AZ h a dx C b/\(∀c,on (fs.lookup c) (b c))/\Hk b (fs.map (·.1))/\R fs<=1000/\H dx=Y (.own a):=by let(d,n,j,k,b,i,m,l):=(show ?eh a ?gW from f a _ e);show(b,(k,i,j),m,l,n,d)
end
structure jO(b:cp)(a:S):Prop where
 pg:LH b a Str.empty=M
 hd:DM b a=M
 po:o0 b a=M
 sa:i_ b ?s "__setattr__"=Y (Y ?b6)
def jO.get(c:jO b a)(d:Str):LH b a d=M:=c.pg
def eA(b:cp)(a:S)(c:Str):=i_ b ?s c=Y U
def eA.atW(d:eA b a c):Th b a c=Y U:=by unfold Th;rw[show i_ b ?s c=Y U from d];rfl
structure j1(a:cp)(c:S)(d:Str)(b:S):Prop where
 at_:i_ a ?aC d=Y ?j5
 fn:Mq a ?av=M
 kp:j5 a ?av=M
section
variable{X:Cx}{ap:List (S×Obj)}{σ:St}{H:L}{s:aO}{a C dx:S}{fs:List (Str×V)}{f:Str}{v:V}{A:eV}{E:J->aO->Prop}
def Xz{d:J->aO->Prop}(c:?f H s)(n:H a=Y ?gW)(e:jO X.K C)(r:eA X.K C f)(l:fs.lookup f=Y v)(h:∀b j,?f H j->?jq b->d b j):?cM ?u (EZ ?s f m) d:=by
 let(q,k,t,_,_,_):=IN c.bU n;let(b,p,i):=on.j8 (v:=v) (o:=q f) (by rw[<-l];show t f)
 show au c.iH k (e.get f) e.hd r p (YT i) (h b _ (c.tok _) i)
def HH{g:S}{d:J×?aX->aO->Prop}(c:?f H s)(k:H a=Y ?gW)(j:jO X.K C)(e:j1 X.K C b g)(l:fs.lookup b=U)(h:d (.ref g,[?s]) s):?cM ?u (vg ?s b o) d:=by
 let(n,i,p,_,_,_):=IN c.bU k;let m:n b=U:=on.ay (by rw[<-l];show p b)
 show an1 c.iH i (j.get b) e.at_ e.fn m h
def Ya{o:Unit->aO->Prop}(i:?f H s)(e:H a=Y ?gW)(l:jO X.K C)(b:eA X.K C f)(j:R fs<1000)(a0:RelV c d)(h:∀r,?f (?j3 (.ins C dx (dS f c fs))) r->o () r):?cM ?u (Fd ?s f d) o:=by
 let(q,j,o,t,_,p):=IN i.bU e;let T:(fs.map (·.1)).length<=cw:=by rw[ft,fU];lia
 show aqL i.iH j l.sa l.po b.atW l.hd t T λy k l=>h _ ?_;let B:∃m,y.get? dx=Y m:=let(m,_,_,w,_):=k.ns;(m,w)
 show i.write (x:=a) (e:=dx) (by rw[e];show yK) (.inr p) (λu b z n=>(l.2 u z).trans n) B ?_
 show(by rw[cY j.ne];show p,?_,j.ne,k.obj,_,k.ns,λg=>?_,λg P=>?_)
 .have:=MP f c fs;lia
 .change on ((dS f c fs).lookup g) (if g=f then Y d else q g);rw[MQ];by_cases b:g=f
  .rw[bz b,bz b];show a0
  rw[bp b,bp b];show o g
 by_cases b:g=f
 .rw[b];show(EC f c fs).1
 show(EC f c fs).2 g (t g λn=>P ?_);change(if g=f then Y d else q g)=U;rw[bp b];show n
def Inv.made(e:?f H s):?f (D (?jM H (.own ?gi)) ?gi (?cv C s.1.1.size)) {s with heap:=(?ik).push ?iS}:=by
 let c:(?ik).get? ?O=Y wS:=kh s.1 Z;let j:((?ik).push ?iS).get? ?gi=Y ?iS:=by
  have:=kh ?ik (o:=?iS) Z
  rwa [qb]at this
 let k:(?ik).Ns s.1.1.size (λ_=>U):=(wS,#[],_,c,Z,(λp l=>?fO l),λ_=>rfl)
 let h:=e.laid (a:=s.1.1.size) (o:=.own ?gi) (h':=?ik) (t':=s.toks) (λi n b=>?e1 b) ?a2 (_,c);show h.laid (a:=?O+1) (o:=?cv C s.1.1.size) (t':=s.toks) (λi n b=>?e1 b) (Ea (qb _ _)) ?_;let d:?O≠?O+1:=jS (wT _);show(by rw[cY d,bD],gI _,d,j,λ_=>U,(ae0 k).at λo b=>?e1 b,λ_=>yK,λq m=>bK Z m)
def D3{f:Str}{pos:Pos}{s:aO}(j:yF b f c (dU b c)=dU b c)(h:?cM (bQ d e) (dU b c) (λk l=>bH (bQ d e) A (EZ k f M) i E l)):?cM (bQ d e) (dU (.Attribute b f pos) c) i:=
 Attribute_any_ h (by rw[arm_eval_Attribute,j])
end
def S4(c:cp)(l:TE)(e:Str):TE:=λn i j=>l n i λm b=>mv λd a k f h=>m=?J/\b d=Y (.ins a k f)/\jO c a/\eA c a e/\f.lookup e=Y h/\j h b
def auA(f:cp)(m n:TE)(i:Str):TS:=λj d k=>n d k λp l=>m d l λo e=>mr λb a h c=>o=?av/\e b=Y (.ins a h c)/\jO f a/\eA f a i/\R c<1000/\j.nx d (D e b (.ins a h (dS i p c)))
def JM(a:Cx)(l:EK)(rd:V->V->L->VK->Prop):=
 ∀(d:?H) (e:aO) (k:St) (b:L) (i j:V) (f h:J) (c:VK),?e0 d k b e->RelV i f->RelV j h->rd i j b c->?K (Yy l f h) (EP a d k c) e
def aqJ(i:cp)(q r:TE)(rd:V->V->L->VK->Prop)(c:Str):TS:=λm e n=>q e n λs f=>mv λb a p k l=>s=?av/\f b=Y (.ins a p k)/\jO i a/\eA i a c/\k.lookup c=Y l/\r e f λt o=>rd l t o λu h=>bN λj d=>h b=Y (.ins a j d)/\R d<1000/\m.nx e (D h b (.ins a j (dS c u d)))
section
variable{X:Cx}{o e kG:dz}{f:Str}{pos ou qU:Pos}{ta tv:TE}
def bL(q:?am e ta)(p:yF e f X.env (?V e)=?V e):?am (.Attribute e f pos) (S4 X.K ta f):=by intro s x A a C c h;show D3 p (df (q s x A a _ c h) λy P u=>?_);let(a,b,d,w,j,B,E,H,z,n,m,k,r,l,t):=u;subst n;obtain rfl:y=dR j:=w;show Xz d m k r l λa T i v=>(z,b,i,v,t)
def fV(s:?am o ta)(u:?am kG tv)(t:?fB kG (Y (?dq f ou))=pure I):?gt (auA X.K ta tv f):=by intro b E a c T i h;show QA (df (u b E a c _ i h) λc H z=>?_) t;let(c,d,j,C,x):=z;show df (s b H a d _ j x) λw b A=>?_;let(b,b,k,B,n,P,b,b,r,q,p,v,l,y):=A;subst r;obtain rfl:w=dR n:=B;show Ya k q p v l C λb m=>(a,_,m,y)
def EF{rd:V->V->L->VK->Prop}(y:?am o ta)(A:?am kG tv)(z:JM X i rd):PS X (.AugAssign (?dq f qU) i kG pos) (aqJ X.K ta tv rd f):=by intro b c a j d n h;show wpAny_AugAssign_AttributeAny (df (y b c a j _ n h) λC c T=>?_);let(c,k,p,i,u,c,c,c,s,x,v,c,d,l,E):=T;subst x;obtain rfl:C=dR u:=i;show Xz p v c d l λp i q j=>df (A b i a k _ q E) λq n i=>?_;let(t,m,r,k,H):=i;show df (z b n a m s t p q _ r j k H) λb b b=>?_;let(i,i,s,i,j,j,w,B,P):=b;show Ya s w c d B i λb t=>(a,_,t,P)
def aus:V->V->L->VK->Prop:=λh i c d=>bN λa b=>h=?cD/\i=?dk/\d (.int (a+b)) c
def Jq:JM X .Add aus:=by intro q r u h s t m n p i k l ξ;let(a,b,0,0,j):=ξ;let(c,0):=(show∃c,m=yO a c from k);let(d,0):=(show∃d,n=yO b d from l);show av2 (.int (a+b),h,i.tok _,?f0,j)
def awN{pl:Sem Bool}{args:List dz}(B:?am e v)(x:?bf p i j q)(h:v i j λw k=>mv λa c t n g=>w=?s/\k a=Y (.ins c t n)/\jO X.K c/\j1 X.K c b g/\n.lookup b=U/\∀d,?bf p i k d->?r (vn pos (.ref g) [?s] (?g4 (?G args)) (?bG pos)) s X.xe d)(C:?V (?as (.Attribute e b m) args pos)=(do
 let u<-dU e X.env
 uz m.atName
 let(f,first)<-tG [u] (vg u b pl)
 vn pos f first (?g4 (?G args)) (?bG pos))):?r (?V (?as (.Attribute e b m) args pos)) s X.xe q:=by
 show DF (pl:=pl) (df (B p q i j _ x h) λb d P=>?_) C;let(w,k,r,T,a,c,t,n,g,A,z,y,E,l,H):=P;subst A;obtain rfl:b=dR a:=T;show HH r z y E l (H d r)
end
structure ii(b:Nat)(a:eV):Prop where
 hd:a.handled=U
 dp:a.depth+3*b+5<TM
 un:a.units+16*b+200<pS
def ii.mono{c d:Nat}(a:ii d b)(h:c<=d):ii c b:=(a.hd,by have:=a.dp;lia,by have:=a.un;lia)
def ii.deeper{b:Nat}(c:ii ?a4 a)(d:Env):ii b (a.deeper d):=
 (c.hd,by have:=c.dp;change a.depth+1+3*b+5<_;lia,by have:=c.un;change a.units+3+16*b+200<_;lia)
theorem XE{a:eV}{kw:?jl}:(a.under (?ct (?av::c,kw))).depth=a.depth+1:=by first|rfl|simp[UW,Code.weight,Code.isCreation,Code.isGuard,Code.isCaller,ai1,UY,guardIds]
theorem XF{a:eV}{kw:?jl}:(a.under (?ct (?av::c,kw))).units=a.units+1:=by first|rfl|simp[UW,Code.cUnits,ai1,UY]
def ii.i9{c:Nat}(a:ii (c+1) b)(d:S)(e:?aX)(kw:?jl):ii c (b.under (?ct (?J::e,kw))):=
 (a.hd,by have:=a.dp;rw[XE];lia,by have:=a.un;rw[XF];lia)
theorem ii.depth{b:Nat}(c:ii b a):a.depth<TM:=by have:=c.dp;lia
def ii.units{b:Nat}(c:ii b a):a.units+64<pS:=by have:=c.un;lia
def vH:TA:=λ_ a b=>b [] a
def JK(f:TE)(h:TA):TA:=λa b e=>f a b λi c=>h a c λj d=>e (i::j) d
section
variable{X:Cx}{e:dz}{es:List dz}{te:TE}{t:TA}{pos:Pos}
def aD:PA X [] vH:=λ_ _ _ _ a c b h=>RQ ([],a,b,.nil,h)
def F(m:?am e te)(n:PA X es t)(o:?arf (?G ?ah=?de::?G es)):PA X ?ah (JK te t):=by intro pos a b c d z j h;rw[o];change ?aE (spliced (?de::?cb)) b;show RC (df (m a b c d _ j h) λB w r=>?_);let(x,f,k,u,p):=r;show df (n pos a w c f _ k p) λC A s=>?_;let(y,i,l,v,q):=s;show(x::y,i,l,.cons u v,q)
def auQ(t:TA):TE:=λh d f=>t h d λc b=>R c<=cw/\∀a,b a=U->f ?s (D b a (.tup c))
def auL(t:TA):TE:=λh d f=>t h d λc b=>R c<=cw/\∀a,b a=U->f ?s (D b a (.lst c))
def CU{x1}(h:PA X es t):?am (.Tuple es x1 pos) (auQ t):=by
 intro m p s i u j l;show wpAny_Tuple_spliced (df (h pos m p s i _ j l) λq a o=>?_);let(r,b,c,d,f,n):=o;show(by rw[<-d.length];show f,?_)
 let k:b ?b0=U:=?fi;show(?jk,D b a.1.1.size (.tup r),c.laid (t':=a.toks) (λv w e=>?e1 e) ?a2 ?_,Z,n _ k);show(f,q,d,(_,?dd,Z,_,Z),_,?dd,Z)
def ib(h:PA X es t):?am (.List es pos) (auL t):=by
 intro m p s i u j l;show wpAny_List_spliced (df (h pos m p s i _ j l) λq a o=>?_);let(r,b,c,d,f,n):=o;show(by rw[<-d.length];show f,?_)
 let k:b ?b0=U:=?fi;show(?jk,D b a.1.1.size (.lst r),c.laid (t':=a.toks) (λv w e=>?e1 e) ?a2 ?_,Z,n _ k);show(f,q,0,d,?dd)
end
abbrev Sp:=?au->L->VK->XK->Prop
abbrev tX:=?eH->L->aO->XK->J->aO->Prop
structure zJ(j:eP)(l:dZ)(i:cp)(k:Str->Option J)(c:dg)(h:eV)(e:List Env)(b:aO)(d:L):Prop where
 frames:h.frames=Y e
 mod:Mod i k c
 bs:∀a f,?jv=Y f->b.heap.get? a=Y f/\d a=U
 ua:c.objs.size<=b.heap.objs.size
 rM:b.heap.FunFrames c e
 wK:∀a∈iO e,d a=U
 bU:iN j l d b.heap
 bare:yW b.gens
def CE(i:?eH)(f:eP)(k:dZ)(e:L)(c:aO)(h:VK)(j:J)(a:aO):=
 bN λd b=>a.os=c.os/\yW a.gens/\Un (iO i) [] e b c.1 a.1/\iN f k b a.1/\RelV d j/\h d b
def CR(e:tX)(b:?eH)(h:eP)(m:dZ)(a:L)(c:aO)(i:VK)(f:XK)(k:Fo)(d:aO):=
 match k with
 |.ok (.ret l)=>CE b h m a c i l d
 |.ok _=>False
 |.error j=>e b a c f j d
structure lR(h:eP)(i:dZ)(o:cp)(t:Str->Option J)(p:dg)(n:tX)(s:Nat)(q:S)(r:oG)(k:List Str)(l:Sp):Prop where
 len:∀b a d c,l b a d c->b.length=k.length
 run:∀(f:eV) (j:?eH) (e:aO) (a:L) (args:Args) (m:?aX) (b:?au) (d:VK) (c:XK),ii s f->zJ h i o t p f j e a->Iy e r args (k.zip m)->a_ b m->l b a d c->vp (bQ h i) f (.call (.ref q) args) (CR n j h i a e d c) e
def zJ.i9(a:zJ e k d h f b i j c)(l:S)(m:?aX)(kw:?jl):zJ e k d h f (b.under (?ct (?bk::m,kw))) i j c:=(by first|show a.frames|(simpa[UW,Code.envs,UY,pushEnvs]using a.frames),a.mod,a.bs,a.ua,a.rM,a.wK,a.bU,a.bare)
section
variable{X:Cx}{ap:List (S×Obj)}{σ:St}{H:L}{s s':aO}
def Inv.Bb(a:?f H s):zJ X.1 X.w X.K X.mg X.base X.A X.stack s H:=
 (a.ok.frames,a.ok.mod,a.bs,fZ a.ok.ua a.sz,a.stack,a.Fn,a.bU,a.bare)
def Inv.after(d:?f H s)(h:CE X.stack X.1 X.w H s a b s'):EP X ap σ a b s':=by let(q,c,k,e,p,j,n,m):=h;let(i,g,f,o,l):=s';obtain rfl:l=s.os:=k;show(q,c,d.call (h':=i) (g':=g) (d':=f) (t':=o) (ch:=[]) p j e (λt r=>?fO r),n,m)
end
def JJ(f:Sp)(e:?au)(a:XK)(h:TA):TE:=λj b d=>h j b λi c=>f (i++e) c d a
def FJ(f:S)(n:Str)(o:Sp)(l:?au)(h:XK)(q:TE)(p:TA):TE:=λe i k=>q e i λd a=>gG λb m c=>d=?av/\a b=Y (.ins f m c)/\c.lookup n=U/\p e a λr j=>o (d::(r++l)) j k h
def Di(d:S)(k:Sp)(j:?au)(e:XK)(l:TA):TE:=λo f i=>l o f λn c=>∀a b,c a=U->c b=U->b≠a->k (?s::(n++j)) (?bm (?cv d b)) (λm h=>m=.cT/\i ?s h) e
def Binds(e:cp)(f:oG)(c:?d4)(b:?aX):=
 ∀(d:aO) (a:?aX),e.In d.1->(a++b).length=R c->Iy d f (a,[]) (c.zip (a++b))
def Binds.all{b:?d4}(h:∀a:?aX,R a=R b->bindArgs c (a,[])=pure (b.zip a)):?ej e c b:=λf a _ d=>by
 rw[mD]at d ⊢;show .of_eq (h a d)
def e6(f:tX)(a:Cx)(h:XK):=∀(i:?H) (j:St) (b:L) (d:aO) (c:J) (e:aO),?e0 i j b d->f a.stack b d h c e->a.xe c e
section
variable{X:Cx}{CX:tX}{k:Nat}{f C:S}{fd:oG}{ps:List Str}{sp:Sp}{je:List V}{ds:List J}{E:XK}{x m:Str}{p pos gQ:Pos}{e o:dz}{es:List dz}{ta:TE}{t:TA}
def Fx{us:?aX}{vs:?au}(q:?ar CX fd ps sp)(y:?iL k)(u:?a7 ds)(v:?fP)(z:?g5)(d:?bf j n c b)(l:a_ vs us)(h:sp (vs++je) c i E):?r (px ?bL us) (EP X j n i) X.xe b:=by
 let r:a_ (vs++je) (us++ds):=l.append v;let w:(us++ds).length=R ps:=by rw[<-r.length];show q.len _ _ _ _ h
 show yM (yI (q.run X.A X.stack b c (us,[]) (us++ds) (vs++je) i E y d.Bb (u b us d.iH w) r h) λl A a=>?_);rcases l with e|s
 .show z j n c b e A d a
 cases s with
 |ret B=>show d.after a
 |next=>show jy a
 |brk=>show jy a
 |cont=>show jy a
def aqy(c:?ar CX fd ps sp)(w:?iL k)(r:?jr x)(u:X.mg x=Y ?bL)(s:j5 X.K ?bL=M)(j:?a7 ds)(l:?fP)(y:?g5)(i:?dA)(n:?ade (?dW=I))(q:?arf (?G ?ah=?de::?G es))(v:?arf ((?cb).any (·.1)=I)):?am (?as (?cN x) ?ah pos) (JJ sp je E t):=by intro z P T d a a h;show yx (uF a r u ?_ n);show ?gu a.ok.mod.1 s (df (i pos z P T d _ a h) λa a B=>?_) q v;let(a,a,b,H,A):=B;show(b.iH,?_);show Fx c w j l y b H A
def aqB{pl:Sem Bool}(H:PE X o ta)(v:jO X.K C)(i:j1 X.K C m f)(r:lR X.1 X.w X.K X.mg X.base CX k f fd ps sp)(T:ii k X.A)(A:Binds X.K fd ps ds)(B:a_ je ds)(a0:e6 CX X E)(z:PA X (e::es) t)(d:?arf (dP (e::es) X.env=(I,dU e X.env)::dP es X.env))(P:?arf ((iS pos (dP es X.env)).any (·.1)=I))(a:dU (.Call (.Attribute o m gQ) (e::es) [] pos) X.env=(do
 let j<-dU o X.env
 uz gQ.atName
 let(f,first)<-tG [j] (vg j m pl)
 vn pos f first (iS pos (dP (e::es) X.env)) (sj pos (sf [] X.env))):=by rfl):PE X (.Call (.Attribute o m gQ) (e::es) [] pos) (FJ C m sp je E ta t):=by
 intro n c q s b b h;show DF (pl:=pl) (df (H n c q s _ b h) λa2 a1 s=>?_) a;let(x,u,c,H,a,j,j,y,w,l,j):=s;subst y;obtain rfl:a2=dR a:=H;show HH c w v i l ?_;show yw (first:=[.ref a]) (h₀:=X.base) b.ok.mod.1 i.kp (df (z pos n a1 q u _ c j) λus b c=>?_) d P;let(vs,b,d,i,b):=c;show(d.iH,?_);show Fx (us:=.ref a::us) (vs:=.ref a::vs) r T A B a0 d (.cons Z i) b
def aoC{pl:Sem Bool}(w:PE X o ta)(q:jO X.K C)(c:j1 X.K C m f)(i:lR X.1 X.w X.K X.mg X.base CX k f fd ps sp)(y:ii k X.A)(u:Binds X.K fd ps ds)(v:a_ je ds)(A:e6 CX X E)(z:dU (.Call (.Attribute o m gQ) [] [] pos) X.env=(do
 let d<-dU o X.env
 uz gQ.atName
 let(f,first)<-tG [d] (vg d m pl)
 vn pos f first (iS pos (dP [] X.env)) (sj pos (sf [] X.env))):=by rfl):PE X (.Call (.Attribute o m gQ) [] [] pos) (FJ C m sp je E ta vH):=by
 intro B a b j d n h;show DF (pl:=pl) (df (w B a b j _ n h) λd a P=>?_) z;let(x,a,b,T,a,j,j,s,r,l,H):=P;subst s;obtain rfl:d=dR a:=T;show HH b r q c l ?_;show KZ (first:=[.ref a]) b.iH c.kp (Fx (us:=[.ref a]) (vs:=[.ref a]) i y u v A b (.cons Z .nil) H)
structure Mk(a:cp)(C f:S):Prop where
 makes:af7 a C=M
 init:i_ a ?bC "__init__"=Y (Y ?bL)
 fn:Mq a ?bL=M
 kp:j5 a ?bC=M
def z_{v:VK}{us:?aX}(l:Mk X.K C f)(u:?ar CX fd ps sp)(H:?iL ?ic)(b:?a7 ds)(A:?fP)(P:?g5)(d:?bf n s c a)(q:a_ r us)(h:∀x j,c x=U->c j=U->j≠x->sp (?eJ::(r++je)) (D (D c j (.own x)) x (?cv C j)) (λz B=>z=.cT/\v ?eJ B) E):?r (px ?bC us) (EP X n s v) X.xe a:=by
 let w:=h ?N a.1.1.size (d.bU.fresh (rZ _)) (d.bU.fresh ?a2) (jS (wT _));let i:=Inv.made (C:=C) d;let y:a_ (V.ref ?N::(r++je)) (?gZ::(us++ds)):=.cons Z (q.append A);let c:(?gZ::us++ds).length=R ps:=by
  let e:=y.length;rw[u.len _ _ _ _ w]at e;show e.symm
 show yM (t_ (f:=f) d.iH l.makes l.init (beq_iff_eq.mp l.fn) (yI (u.run _ X.stack _ _ (?gZ::us,[]) (?gZ::(us++ds)) _ _ E (H.i9 C us []) (i.Bb.i9 C us []) (b _ (?gZ::us) i.iH c) y w) λq c b=>?_))
 rcases q with e|T
 .show P n s _ _ e c i b
 cases T with
 |ret c=>
  let(z,A,H,d,P,c):=i.after b;subst P;show(d,(V.ref ?N,A,H,Z,c))
 |next=>show jy b
 |brk=>show jy b
 |cont=>show jy b
def aqA(c:Mk X.K C f)(d:?ar CX fd ps sp)(w:?iL ?ic)(s:?jr x)(u:X.mg x=Y ?bC)(l:?a7 ds)(n:?fP)(y:?g5)(j:?dA)(q:?ade (?dW=I))(r:?arf (?G ?ah=?de::?G es))(v:?arf ((?cb).any (·.1)=I)):?am (?as (?cN x) ?ah pos) (Di C sp je E t):=by intro z P T i a a h;show yx (uF a s u ?_ q);show ?gu a.ok.mod.1 c.kp (df (j pos z P T i _ a h) λa a B=>?_) r v;let(a,a,b,H,A):=B;show(b.iH,?_);show z_ c d w l n y b H A
def aoA(b:Mk X.K C f)(c:?ar CX fd ps sp)(q:?iL ?ic)(l:?jr x)(n:X.mg x=Y ?bC)(d:?a7 ds)(i:?fP)(r:?g5)(j:?ade (?dW=I)):?am (?as (?cN x) [] pos) (Di C sp je E vH):=by intro v w y s u a h;show yx (uF a l n ?_ j);show KZ a.iH b.kp (z_ (us:=[]) b c q d i r a .nil h)
end
structure gy(c b:List Str)(a:jE):Prop where
 kind:a.kind=.function
 co:a.isCoroutine=I
 gen:a.isGenerator=I
 nd:c.Nodup
 pre:c.take b.length=b
 par:∀d∈b,a.names.lookup d=Y .local \/a.names.lookup d=?iC
 aso:∀e∈a.names,e.2≠.free
def YG:∀{d:?jl} {b:Str->?bH},(∀c,(a,c)∉d)->AQ f d b a=b a:=by
 intro i
 induction i with
 |nil=>
  intro _ _;show rfl
 |cons k m ih=>
  let(j,c):=k;intro b h;unfold AQ;rw[ih λl e=>h l (gY _ e)];split
  .have:a≠j:=by rintro rfl;show h c mV
   simp[this]
  rfl
def YE:∀{d:?jl} {b:Str->?bH},(∀c,(a,c)∉d)->AO f d b a=b a:=by
 intro i
 induction i with
 |nil=>
  intro _ _;show rfl
 |cons k m ih=>
  let(j,c):=k;intro b h;unfold AO;rw[ih λl e=>h l (gY _ e)];split
  .rfl
  have:a≠j:=by rintro rfl;show h c mV
  simp[this]
theorem YF{f:Str->Option rm}{k:Str}{n:J}:∀{a:?d4} {b:?aX} {i:Nat} {c:Str->?bH},a.Nodup->a[i]?=Y k->b[i]?=Y n->f k=Y .local ->AQ f (a.zip b) c k=Y n
 |[],_,_,_,_,h,_,_=>by simp at h
 |_::_,[],_,_,_,_,h,_=>by simp at h
 |j::a,o::b,0,c,m,d,e,l=>by
  simp at d e;subst d;subst e;change AQ f ((j,o)::a.zip b) c j=_;unfold AQ;rw[YG λn p=>(iu.mp m).1 (LO p).1,bz l];simp
 |j::a,o::b,i+1,c,m,d,e,l=>by
  change AQ f ((j,o)::a.zip b) c k=_;unfold AQ;show YF (i:=i) (iu.mp m).2 (by simpa using d) ?dx l
theorem YD{f:Str->Option rm}{k:Str}{n:J}:∀{a:?d4} {b:?aX} {i:Nat} {c:Str->?bH},a.Nodup->a[i]?=Y k->b[i]?=Y n->f k≠Y .local ->AO f (a.zip b) c k=Y n
 |[],_,_,_,_,h,_,_=>by simp at h
 |_::_,[],_,_,_,_,h,_=>by simp at h
 |j::a,o::b,0,c,m,d,e,l=>by
  simp at d e;subst d;subst e;change AO f ((j,o)::a.zip b) c j=_;unfold AO;rw[YE λn p=>(iu.mp m).1 (LO p).1,bp l];simp
 |j::a,o::b,i+1,c,m,d,e,l=>by
  change AO f ((j,o)::a.zip b) c k=_;unfold AO;show YD (i:=i) (iu.mp m).2 (by simpa using d) ?dx l
def start(b:?d4)(a:?au):St:=a.map Y++vU (R b-R a) U
def eJ(k:tX)(m:eP)(o:dZ)(p:cp)(t:Str->?bH)(r:dg)(q:?d4)(d:Str)(e:jE)(c:S)(b:J)(j:eV)(f:?eH)(a:aO)(h:L)(l:XK):Cx where
 prog:=m
 w:=o
 K:=p
 mg:=t
 base:=r
 A:=j.deeper ?b9
 N:=q
 ko:=a
 zP:=h
 env:=?b9
 outer:=f
 stack:=?b9::f
 ex:=[]
 f6:=M
 fn:=λ_=>M
 pn:=[]
 xe:=λn u=>bH (bQ m o) (j.deeper ?b9) (Fa ?b9 n) (λ_ i=>k f h a l n i) (λs i=>k f h a l s i) u
def ZL{a:jE}{n:Nat}(h:?ft=?iC):∃c,(mX n a.names []).lookup b=Y c:=by let d:=QQ a.names n [] (.inl h);show QJ.mp d
def YV{v:eV}{m:?au}(j:gy p l i)(s:v.handled=U)(c:zJ E b C P H v X f w)(q:R m=R l)(a0:a_ m a)(o:InCallC f f.1.1.size (AQ (fG B i f.1.1.size y x).kindOf (l.zip a) λ_=>U) (mX (Q f.1.1+1) i.names []) (AO (fG B i f.1.1.size y x).kindOf (l.zip a) λ_=>U) d):Inv (eJ e E b C P H p B i y x v X f w k) [] (start p m) w d:=by
 let a:R l<=R p:=by have:=fL R j.pre;rw[jR]at this;lia
 let(z,a,0,q):=o.done;let T:∀d:S,d∉(eJ e E b C P H p B i y x v X f w k).ex:=λd r=>?fO (show d∈([]:?aD)from r)
 show((c.mod,j.kind,Z,Z,?a2,λa r e z b=>?_,λa k=>?_,λa e _ h=>?_,λ_=>s,X6 c.frames,.inr (rfl,Z),λd r=>bK r (T d),c.bs,c.ua,λd _ _=>T d,λd r=>bK r (T d),c.rM,c.wK),rfl,c.bare,Un.kept q,(_,o.toInCall.ns,λu a r z b d=>?_),λa e h=>(_,o.cell a e h),?fi,λa e h=>?_,λd t=>?fO (show d∈([]:?H)from t),c.bU.kept q,?_)
 .show name_of_addr o.apart (rV z) (rV b)
 .let k:i.names.lookup a=?iC\/i.names.lookup a=?kb:=k;rcases k with k|k
  .show ZL k
  show bK Z (j.7 _ (rV k))
 .show yG (o.above a e (rV h))
 .let A:u<R m:=by
   unfold start at b;by_cases A:u<R m
   .show A
   rw[List.getElem?_append_right (by simpa using A)]at b
   rw[QN]at b;split at b<;>cases b
  let d:m[u]?=Y r:=by
   unfold start at b;rw[List.getElem?_append_left (by simpa using A),iC]at b
   rcases s:m[u]? with _|k
   .rw[s]at b;cases b
   rw[s]at b;cases b;rfl
  let(m,b,k):=a0.get d;let t:l[u]?=Y a:=by
   rw[<-j.pre,List.getElem?_take_of_lt ?d];show z
  let d:l.Nodup:=by rw[<-j.pre];show j.nd.sublist (List.take_sublist _ _)
  show(m,k,?_);rcases j.par a (lW t)with q|q
  .show .inl (q,YF d t b q)
  let(e,s):=ZL (n:=Q f.1.1+1) q;show .inr (.inl q,e,s,?_);let f:=o.cell a e s;rw[YD d t b (by change i.names.lookup a≠_;rw[q];decide)]at f
  show f
 .show c.bU.fresh (yG (o.above a e (rV h)))
 unfold start;change _=R p;rw[iA,ft,W5]
 lia
def ate{j:cp}{E:Nat}{name m:Str}{z kV C X l t a2:J}{a:Sp}(lk:j.lookup o=Y (a2,a3,.func (BU name m P H d z kV C X p l t),a4))(a1:TJ j l m=M)(s:gy k B d)(T:∀f b e h,a f b e h->R f=R B)(a0:∀(n:eV) (q:?eH) (c:aO) (b:L) (f:?au) (e:VK) (h:XK),ii E (n.deeper (fG m d c.1.1.size o l))->a f b e h->∃i,pF (eJ x r w j A y k m d o l n q c b h) H i/\i {nx:=λ_ H'=>e .cT H',rt:=e} (start k f) b):lR r w j A y x (E+1) o (BU name m P H d z kV C X p l t) B a:=by
 show(T,λn q c b args a4 f e h P t H a3 C=>?_);let X:=T _ _ _ _ C;let p:j.In c.1:=t.mod.1.keeps λE T z=>(t.bs E T z).1;let a2:c.1.NoLimit:=t.mod.nolimit.keeps λE T z=>(t.bs E T z).1;let E:∀a∈B.zip a4,d.names.lookup a.1=Y .local \/(d.names.lookup a.1=?iC/\((mX (Q c.1.1+1) d.names []).lookup a.1).isSome=M):=λ(B,v) a=>by
  rcases s.par B (LO a).1 with a|a
  .show ?ai
  show .inr (a,QQ _ _ _ ?ai)
 show X0 P.depth (?il lk) Z s.co s.gen Z (aeM p a1) (H _ _ _ _ ?_);show U5 s.kind E λp E p B=>?_;subst E;show(a2.keeps B.toInCall.keep,codeAny_func ?_);let(i,H,E):=a0 n q c b f e h (P.deeper _) C;let i:Inv (eJ x r w j A y k m d o l n q c b h) [] (start k f) b p:=YV s P.hd t X a3 B;show kX (H [] p (start k f) b _ i E) (λs f p=>?_) λz f p=>p;let fin:∀{C:St} {H':L} {v:V} {u:J},Inv (eJ x r w j A y k m d o l n q c b h) [] C H' f->?jq u->e v H'->CE q r w b c e u f:=
  λ{C H' v u} i X a=>(v,H',i.os,i.bare,i.base,i.bU,X,a)
 cases s with
 |ret u=>
  let(v,C,H',i,X,a):=p;show fin i X a
 |next=>
  let(C,H',i,a):=p;show fin (v:=V.cT) (u:=jL) i Z a
 |brk=>
  let(_,_,_,a):=p;show jy a
 |cont=>
  let(_,_,_,a):=p;show jy a
section
variable{X:Cx}{x:Str}{p pos:Pos}{e:dz}{es:List dz}{t:TA}{id T:String}{r:List V->L->VK->Prop}
def Qp(r:?au->L->VK->Prop)(t:TA):TE:=λf a c=>t f a λd b=>r d b c
def gq(l:qN X (.builtin id) r)(n:?jr x)(o:X.mg x=U)(u:Ao x=Y (.builtin id))(k:?dA)(q:?ade (x≠"__name__"))(m:?ade (?dW=I))(he:?arf (?G ?ah=?de::?G es))(s:?arf ((?cb).any (·.1)=I)):?am (?as (?cN x) ?ah pos) (Qp r t):=by intro b z c d j a h;show yx (wz a n o u ?_ q m);show avi (df (k pos b z c d _ a h) λB A w=>?_) he s;let(C,f,i,y,v):=w;show l b A c f C B j i y v
def yQ(l:qN X (.type T) r)(o:?jr x)(q:X.mg x=U)(v:Ao x=Y (.type T))(k:?dA)(s:?ade (x≠"__name__"))(m:?ade (?dW=I))(n:?arf (?G ?ah=?de::?G es))(u:?arf ((?cb).any (·.1)=I)):?am (?as (?cN x) ?ah pos) (Qp r t):=by intro b A c d j a h;show yx (wz a o q v ?_ s m);show Ae (df (k pos b A c d _ a h) λC B y=>?_) n u;let(E,f,i,z,w):=y;show l b B c f E C j i z w
end
end L2
namespace HT
def anT(f:eV)(h:aO)(a:Int)(d:Tok)(b:Int)(e:Tok):∃c,Xl f h (?cD d) (?dk e) c/\(c=M<->a=b):=
 ((a==b),aeO a d b e,by simp)
section
variable{dm:eP}{w:dZ}{A:eV}{E:J->aO->Prop}{s:aO}
def fX(b c:Nat):?bi->Nat
 |none=>c
 |some a=>if a<0 then(a+?cg).toNat else min a.toNat b
theorem OR(b c a:Nat):fX b c (Y ?aO)=min a b:=by change(if ?aO<0 then(?aO+?cg).toNat else min (a:Int).toNat b)=min a b;rw[bp ?d,uh]
def asG(a c:Nat)(f:c<=a)(e:?bi):fX a c e<=a:=by
 rcases e with _|b
 .show f
 change(if b<0 then(b+?aO).toNat else min b.toNat a)<=a;by_cases d:b<0
 .rw[bz d];lia
 rw[bp d];show afw _ _
def D7(a:Int)(b d:Nat):(if a<0 then max (a+?cg) 0 else min a ?cg)=((fX b d (Y a):Nat):Int):=by
 change(if a<0 then max (a+?cg) 0 else min a ?cg)=(((if a<0 then(a+?cg).toNat else min a.toNat b):Nat):Int);by_cases c:a<0
 .simp only[bz c];lia
 simp only[bp c];lia
def aky(c b:?bi)(a:Nat):QD c b 1 ?aO=(((fX a 0 c:Nat):Int),((fX a a b:Nat):Int)):=by
 let e:¬(?em<0):=by lia
 unfold QD;simp only[e,if_false];show cb ?_ ?_
 .rcases c with _|d
  .rfl
  show D7 d a 0
 rcases b with _|d
 .rfl
 show D7 d a a
theorem alj(a b:Nat):KC ?aO ?cg 1=b-a:=by
 unfold KC;let c:?em>0:=by lia
 simp only[c,if_true,Int.ediv_one];split<;>lia
def Yc{a:?bi->aO->Prop}(d:xN c b)(h:a b s):?ax (avj c) a:=by
 cases d with
 |none=>show slicePart_none h
 |int e f=>show slicePart_int h
def SZ{a:Nat}{j:Int×Int×Nat->aO->Prop}(l:s.1.IsSliceOf k f i .none)(m:xN f b)(n:xN i c)(h:j (axa ((fX a 0 b:Nat):Int) (axa 1 (fX a a c-fX a 0 b))) s):?ax (U0 ?gM (pure ?aO)) j:=by
 let⟨p,e,o,d⟩:=id l;unfold U0 avv;show bC (bC (rf e d (x:=f) Z (bC (rf e d (x:=i) Z (bC (rf e d (x:=.none) Z ?ek))))));show bC (slicePart_none ?_);change ?aE (if(?em==0)=M then _ else _) s;rw[bp ?i]
 show bC (Yc m (bC (Yc n (bC ?ek))));change ?aE (match QD b c 1 ?aO with|(axa b c)=>pure (axa b (axa ?em (KC b c 1)))) s
 rw[aky b c a];change ?aE (pure (axa ((fX a 0 b:Nat):Int) (axa ?em (KC ((fX a 0 b:Nat):Int) ((fX a a c:Nat):Int) 1)))) s;rw[alj];show dA h
theorem aoE(c:?dD)(b d:Nat):((wb d).filterMap λ(a:Nat)=>c[(?cg+?aO*1).toNat]?).toArray=((c.toList.drop b).take d).toArray:=by
 let f:(λ(a:Nat)=>c[(?cg+?aO*1).toNat]?)=λa=>c[b+a]?:=by
  funext a;have:(?cg+?aO*1).toNat=b+a:=by lia
  rw[this]
 rw[f];have:=pick_run c b d;rw[List.filterMap_map]at this;let h:((λe=>c[e]?)∘λe=>b+e)=λa=>c[b+a]?:=rfl;rw[h]at this;rw[this]
def afl{k:J->aO->Prop}(d:FA s.1 j a)(l:s.1.IsSliceOf i n o .none)(x:xN n b)(y:xN o c)(u:¬(?aW 0 b=0/\?aW a.size c=Q a))(h:k ?cs {s with heap:=s.1.push {cls:=?ay,data:=.seq ((a.toList.drop (?aW 0 b)).take ?eF).toArray}})(C:Q a<=cw):?ax (xG ?dh ?iB) k:=by
 let e:sizeOk (.seq ((a.toList.drop (?aW 0 b)).take ?eF).toArray):=by
  change((a.toList.drop (?aW 0 b)).take ?eF).toArray.size<=cw;rw[jK,jR,lC,BB]
  lia
 let B:?aW a.size c<=Q a:=asG _ _ ?a2 c;let(v,t,q,z):=id l;let p:s.TypeIs ?iB "slice":=(v,t,q);unfold xG
 try with_reducible refine wZ ?_
 first|show bC (dA ?_)|skip
 show bC (afc d.typeIs ?i ?_)
 show bC (Af (name:=mF "__getitem__") d.typeIs DA (wU DA d.typeIs entry_tuple_getitem ?_ (aeR _ _)))
 change ?aE (U1 ?dh>>=_) s;show bC (tupleItemsOf_ d ?_);show bC (Mr p ?_);rw[bz ?i]
 show bC (SZ l x y ?_);let r:¬((?fz==0&&?em==1&&?eF==a.size)=M):=by
  intro f;rw[ik,ik]at f;let H:?fz=0:=eq_of_beq f.1.1;let P:?aW a.size c-?aW 0 b=Q a:=eq_of_beq f.2;show u ?iu
 change ?aE (if(?fz==0&&?em==1&&?eF==a.size)=M then _ else _) s;rw[bp r,aoE]
 first
  |show bC (m:=KF _) (vR (dA (_,Z,dA h)) e)
  |show bC (m:=KF _) (vR (bC (dA (dA (_,Z,dA h)))) e)
  |show bC (bC (m:=KF _) (vR (dA (dA (_,Z,dA h))) e))
  |show bC (bC (m:=KF _) (vR (dA (_,Z,dA h)) e))
end
end HT
namespace L2
abbrev TO:=St->L->(?bi->L->Prop)->Prop
def PO(a:Cx)(j:Option dz)(l:TO):=
 ∀(h:?H) (i:aO) (b:St) (c:L) (e:?bi->L->Prop),?e0 h b c i->l b c e->?K (evalPart j a.env) (λm k=>bN λf d=>?e0 h b d k/\xN m f/\e f d) i
def arm:TO:=λ_ a b=>b U a
def atU(e:TE):TO:=λh b d=>e h b λf c=>∃a,f=?cD/\d (Y a) c
def intsAre_of{b:?bD}:∀{c:?aX},a_ (b.map V.int) c->yX c b:=by
 induction b with
 |nil=>intro c a;rw[DZ]at a;cases a;show .nil
 |cons e b ih=>
  intro c a;rw[iF]at a;cases a with
  |cons f h=>
   let(i,d):=f;subst d;show .cons e i (ih h)
section
variable{X:Cx}{e:dz}{te:TE}{lo hi:Option dz}{tl th:TO}{pos p2:Pos}
def Fl:PO X U arm:=by intro d f i a c b h;rw[evalPart_none];show dA (U,a,b,.none,h)
def tJ(h:?am e te):PO X (Y e) (atU te):=by intro j o q b r d i;rw[evalPart_some];show df (h j o q b _ d i) λt s m=>?_;let(u,c,f,n,l):=m;let(a,0,k):=l;let(p,0):=n;show(Y a,c,f,?cD p,k)
def JU(X:Cx)(o:V->?bi->?bi->L->VK->Prop):=
 ∀(h:?H) (a:aO) (m:St) (c:L) (l:V) (b j k:J) (lo hi:?bi) (i:S) (d:VK),?bf h m c a->RelV l b->a.1.IsSliceOf i j k .none->xN j lo->xN k hi->o l lo hi c d->bN λf n=>HD (.type f) "__getitem__"=pure (Y (.builtin n))/\a.TypeIs b f/\?r (xG b ?iB) (EP X h m d) X.xe a
def tSl(i:V->?bi->?bi->L->VK->Prop)(te:TE)(tl th:TO):TE:=λa b h=>te a b λk c=>tl a c λl d=>th a d λj f=>i k l j f h
def xD(z:JU X m)(w:?am e te)(y:PO X lo tl)(B:PO X hi th):?am (.Subscript e (.Slice lo hi U p2) pos) (tSl m te tl th):=by intro b a c n k q h;show Xm (df (w b a c n _ q h) λi d a=>?_);let(w,o,r,q,P):=a;show wpAny_Slice (df (y b d c o _ r P) λd f a=>?_);let(l,p,s,C,T):=a;show df (B b f c p _ s T) λf a n=>?_;let(o,j,t,E,m):=n;rw[evalPart_none];show ?ek;let u:?bf b c j {a with heap:=?c4}:=t.kept (t':=a.toks) λn n H=>?e1 H;let(n,n,v,A,x):=z b {a with heap:=?c4} c j w i d f l o a.1.1.size k u q (av8 ..) C E m;change ?r (Us e (.Slice lo hi U p2) i ?jk) (EP X b c k) X.xe {a with heap:=?c4};show tail_any (ops:=[?jk,i]) A v x (by with_unfolding_all rfl)
def oK(a:?au)(lo hi:?bi):?au:=(a.drop (?cc 0 lo)).take (?cc a.length hi-?cc 0 lo)
def Wu(a:?au)(lo hi:?bi):(oK a lo hi).length<=R a:=by
 unfold oK;rw[jR,lC]
 lia
def auy(f:cp):V->?bi->?bi->L->VK->Prop:=λi lo hi b h=>bN λd a=>i=?J/\cZ f b d a/\¬(?cc 0 lo=0/\?cc a.length hi=R a)/\∀c,b c=U->h ?aC (D b c (.tup (oK a lo hi)))
def asH:JU X (auy X.K):=by
 intro y k H t E A B C lo hi z u b s l q r h;let(v,a,0,n,m,d):=h;cases s;let(p,j,f,i):=b.tuple n;let c:Q p.toArray=R a:=by rw[jK];show j.length.symm
 show("tuple",_,DA.lookup,f.typeIs,?_);show HT.afl f l q r (by rw[c];show m) ?_ (by rw[c];show i)
 rw[c];show(.ref k.1.1.size,_,b.laid (t':=k.toks) (o:=.tup (oK a lo hi)) (λw x d=>?e1 d) ?a2 ?_,Z,d _ (b.bU.fresh ?a2));show(fZ (Wu a lo hi) i,_,(j.drop (?cc 0 lo)).take (?cc a.length hi-?cc 0 lo),alW _ _,_,?dd,Z)
end
def zW(b:Nat)(a:Int):?eQ:=if 0<=a then(if a<b then Y a.toNat else U)else if-?cg<=a then Y (a+b).toNat else U
def sS{b:Type}(a:List b)(c:Int):Option b:=(zW a.length c).bind λd=>a[d]?
def E6{c:Nat}{b:Int}{d:Nat}(h:zW c b=Y d):seqIndex? b c=Y d/\d<c/\-?dX<=b/\b<c:=by
 unfold zW at h;by_cases f:0<=b
 .rw[bz f]at h;by_cases a:b<c
  .rw[bz a]at h;let e:b.toNat=d:=gR h;show(by rw[Wk f a,e],by lia,by lia,a)
  rw[bp a]at h;cases h
 rw[bp f]at h;by_cases a:-?dX<=b
 .rw[bz a]at h;let e:(b+c).toNat=d:=gR h;show(by rw[Vi ?d a,e],by lia,a,by lia)
 rw[bp a]at h;cases h
def OA{f:Type}{a:List f}{b:Int}{e:f}(h:sS a b=Y e):∃c,seqIndex? b (R a)=Y c/\a[c]?=Y e/\c<R a/\-?c1<=b/\b<R a:=by
 unfold sS at h;rcases d:zW a.length b with _|c
 .rw[d]at h;cases h
 rw[d]at h;let(i,j,k,l):=E6 d;show(c,i,h,j,k,l)
def apC(c:dz):=∀b a,MI c I b a=operate [b,a] (xG b a)
def yi(a:Cx)(m:R2):=
 ∀(n i:dz) (f:?H) (h:aO) (l:St) (d:L) (j k:V) (c b:J) (e:VK),?e0 f l d h->RelV j c->RelV k b->m j k d e->MI i I c b=operate [c,b] (xG c b)->?K (Us n i c b) (EP a f l e) h
def FV(a:Cx)(l:String)(m:V->?au->L->VK->Prop):=
 ∀(d:?H) (e:aO) (k:St) (b:L) (i:V) (j:?au) (h:J) (f:?aX) (c:VK),?e0 d k b e->RelV i h->a_ j f->m i j b c->?K (px (.builtin l) (h::f)) (EP a d k c) e
section
variable{X:Cx}{a b:dz}{ta tb:TE}{pos:Pos}
def yi.or(h:yi X m)(w:yi X n):yi X (λf i c d=>m f i c d\/n f i c d):=by
 intro u r l q v c f i t s d j o p e k;rcases e with e|e
 .show h u r l q v c f i t s d j o p e k
 show w u r l q v c f i t s d j o p e k
def dJ{r:R2}(k:yi X r)(i:?am a ta)(j:?am b tb)(l:apC b):?am (.Subscript a b pos) (Kh r ta tb):=by intro m y w x f d h;show Xm (PV i j d h λt s q u v c e o p n=>k a b m q w c u v t s f e o p n ?c5)
def R9(i:cp):R2:=λk l c j=>mr λe h d f=>k=?aY/\l=?gV/\cJ i c e h/\sS h d=Y f/\j f c
def S0(i:cp):R2:=λk l c j=>mr λe h d f=>k=?aY/\l=?gV/\cZ i c e h/\sS h d=Y f/\j f c
def R_:R2:=λi j f h=>gG λc e d=>i=.str c/\j=.int e/\c.length<=cw/\sS c.cps.toList e=Y d/\h (.str ⟨#[d]⟩) f
def aqa:yi X (R9 X.K):=by
 intro c c p H q r x c c c ah k C E h n;let(c,c,f,T,0,0,y,v,A):=h;cases C;let(c,0):=E;let(z,c,i,d):=k.list y;let(o,d,s,e,t,u):=OA v;let(j,l,B):=c.get s;let w:=c.length;let e:=zu;let fin:EP X p q ah j H:=(T,r,k,B,A);by_cases m:0<=f
 .let e:f.toNat=o:=by
   rw[Wk m u]at d;show gR d
  show item_listR i.isList m ?d (by rw[e];simpa using l) fin n
 let e:(f+(z.toArray.size:Int)).toNat=o:=by
  rw[Vi ?d t]at d
  rw[jK,<-w];show gR d
 show V8 (x:=j) i.isList.typeIs slot_list_getitem.lookup (wpAny_getItem_list_neg (Q:=λc P=>c=j/\EP X p q ah c P) i.isList ?d (by rw[jK]<;>lia) ?d (by rw[e];simpa using l) (rfl,fin)) n
def ar7:yi X (S0 X.K):=by intro c c f y k l x c c c ah e v w h s;let(c,c,T,A,0,0,r,p,t):=h;cases v;let(c,0):=w;let(c,c,i,P):=e.tuple r;let(j,n,o,B,C,E):=OA p;let(d,m,u):=c.get o;let q:=c.length;let H:=zu;let fin:EP X f k ah d y:=(A,l,e,u,t);show V8 (x:=d) i.typeIs slot_tuple_getitem.lookup (getItem_tuple (j:=j) (Q:=λc z=>c=d/\EP X f k ah c z) i ?d ?d (by rw[jK,<-q];show n) ?ja (rfl,fin)) s
theorem ar6:yi X R_:=by
 intro a0 E C v a3 i a1 a2 T P x j t u h r;obtain⟨d,f,c,rfl,rfl,A,p,s⟩:=h;obtain⟨w,rfl⟩:=t;obtain⟨H,rfl⟩:=u;obtain⟨B,e,m,y,n,o⟩:=OA p;have q:d.cps.toList.length=d.length:=by simp[Str.length]
 rw[q]at e n o;have z:=zu;show tail_any (typeIs_str v d w) slot_str_getitem.lookup (getItem_str (c:=c) (by
  have k:decide (f< -(2^63:Int))=I:=gu ?d
  have l:decide (f>=2^63)=I:=gu ?d
  rw[k,l,Hb]) (by rw[e];simpa using m) (.str ⟨#[c]⟩,i,j.tok _,(_,rfl),s)) r
def dF(h:cp):R2:=λe f c d=>R9 h e f c d\/S0 h e f c d\/R_ e f c d
def dI:yi X (dF X.K):=aqa.or (ar7.or ar6)
def ala(c:?aX)(e d:Nat)(f:J):At (·.setIfInBounds d f) {cls:=?Q,data:=.seq c.toArray e}={cls:=?Q,data:=.seq (c.set d f).toArray e}:=by simp[At]
def Inv.lst(k:?bf m p i j)(h:i e=?kd):bN λ(c:?aX) (d:Nat)=>a_ f c/\j.1.get? e=Y {cls:=?Q,data:=.seq c.toArray d}/\R f<=cw:=by let(o,c,d,n,l):=k.bU e _ h;show(c,d,n,l,o)
def Inv.asm{n i:?aX}{o k:Nat}(r:?bf p q j d)(h:j c=Y (.lst z))(t:d.1.get? c=Y {cls:=?Q,data:=.seq n.toArray o})(m:f {cls:=?Q,data:=.seq n.toArray o}={cls:=?Q,data:=.seq i.toArray k})(w:a_ l i)(u:R l<=cw)(y:Nat):?bf p q (D j c (.lst l)) {d with heap:=d.1.update c f,toks:=y}:=by
 let e:(d.1.update c f).get? c=Y {cls:=?Q,data:=.seq i.toArray k}:=by
  rw[Bz f t (by rw[m]<;>rfl),m]
 show r.write (x:=c) (e:=c) (by rw[h];trivial) ?aG (λb A s v=>(QO _ _ (bI s)).trans v) (_,e) ?_
 show(u,i,k,w,e)
def atw:V->V->V->L->(L->Prop)->Prop:=λk j l e i=>mr λc d h f=>k=?aC/\j=.int h/\e c=Y (.lst d)/\zW d.length h=Y f/\i (D e c (.lst (d.set f l)))
def am:at7 X atw:=by
 intro A k T w c c H c c v c l C B E h;let(s,P,j,c,0,0,q,x,t):=h;cases C;let(d,0):=B;let(r,z,u,i,y):=l.lst q;let(d,e,o,p):=E6 x;let f:=u.length;let e:=zu;let m:?bf A T (D w s (.lst (P.set c H))) {k with heap:=k.1.update s (At (·.setIfInBounds c v))}:=
  l.asm q i (ala r z c v) (u.set E c) (by rw[BL];show y) k.toks
 by_cases n:0<=j
 .let e:j.toNat=c:=by
   rw[Wk n p]at d;show gR d
  show PySem.W.ki_setAt i n ?d (by rw[jK,<-f];show p) (by rw[e];show(_,m,t))
 let e:(j+(r.toArray.size:Int)).toNat=c:=by
  rw[Vi ?d o]at d
  rw[jK,<-f];show gR d
 show PySem.W.ki_setBack i ?d (by rw[jK,<-f];show o) ?d (by rw[e];show(_,m,t))
def aiX(e d:?bi)(c:Nat):(Cb e d U c).1=((HT.fX c 0 e:Nat):Int)/\(Cb e d U c).2.1=((HT.fX c c d:Nat):Int)/\(Cb e d U c).2.2=1:=by
 show(?_,?_,Z)
 .rcases e with _|f
  .simp[Cb,HT.fX]
  simp only[Cb,HT.fX,afz,show ?em>0 by decide,if_true]
  by_cases h:f<0
  .simp only[h,if_true]<;>lia
  simp only[h,if_false]<;>lia
 rcases d with _|f
 .simp[Cb,HT.fX]
 simp only[Cb,HT.fX,afz,show ?em>0 by decide,if_true]
 by_cases h:f<0
 .simp only[h,if_true]<;>lia
 simp only[h,if_false]<;>lia
theorem ahL(c:?aX)(d e:?bi):slicePick c.toArray d e U=((c.drop (?gv 0 d)).take (?gv c.length e-?gv 0 d)).toArray:=by let(f,h,i):=aiX d e c.toArray.size;unfold slicePick;rw[f,h,i];simp only[sliceRange_one,pick_run,jK]<;>rfl
def aux(f:cp):V->?bi->?bi->L->VK->Prop:=λk j i c h=>bN λa e=>k=?s/\cJ f c a e/\∀d,c d=U->h ?J (D c d (.lst (oK e j i)))
def CH:JU X (aux X.K):=by
 intro y l H u E A B C d f z v e t n r s h;let(a,c,0,p,i):=h;cases t;let(w,k,j,q):=e.list p;let m:=k.length;show("list",_,slot_list_getitem.lookup,j.isList.typeIs,?_);show wpAny_getItem_list_slice j.isList n r s .none ?c ?_ (by rw[jK]<;>lia)
 rw[ahL,<-m];show(.ref l.1.1.size,_,e.laid (t':=l.toks) (o:=.lst (oK c d f)) (λb x i=>?e1 i) ?a2 ?_,Z,i _ (e.bU.fresh ?a2));show(fZ (Wu c d f) q,_,0,(k.drop (?gv 0 d)).take (?gv c.length f-?gv 0 d),?dd)
def qp:V->Bool
 |.cT=>M
 |.bl _=>M
 |.int _=>M
 |.str _=>M
 |_=>I
def qW:V->V->Bool
 |.cT,.cT=>M
 |.bl a,.bl b=>a==b
 |.bl a,?dk=>(if a then 1 else 0)==b
 |.int a,.bl b=>a==(if b then 1 else 0)
 |.int a,?dk=>a==b
 |.str a,.str b=>a==b
 |_,_=>I
def arN(i:RelV j k)(c:RelV f l)(n:qp j=M)(h:qp f=M):Xl m o k l (qW j f):=by
 cases j with
 |cT=>
  cases i;cases f with
  |cT=>cases c;show Xl.same _
  |bl b=>cases c;show Xl.none_bool b
  |int b=>let(d,0):=c;show Xl.none_int b d
  |str b=>let(d,0):=c;show Xl.none_str b d
  |_=>show ?er
 |bl a=>
  cases i;cases f with
  |cT=>cases c;show Xl.bool_none a
  |bl b=>cases c;show Xl.bool_bool a b
  |int b=>let(d,0):=c;show Xl.bool_int a b d
  |str b=>let(d,0):=c;show Xl.bool_str a b d
  |_=>show ?er
 |int a=>
  let(e,0):=i;cases f with
  |cT=>cases c;show Xl.int_none a e
  |bl b=>cases c;show Xl.int_bool a e b
  |int b=>let(d,0):=c;show aeO a e b d
  |str b=>let(d,0):=c;show aeP a e b d
  |_=>show ?er
 |str a=>
  let(e,0):=i;cases f with
  |cT=>cases c;show Xl.str_none a e
  |bl b=>cases c;show Xl.str_bool a e b
  |int b=>let(d,0):=c;show aeQ a e b d
  |str b=>let(d,0):=c;show Xl.str_str a e b d
  |_=>show ?er
 |_=>show bK (show I=M from n) kU
def ub(c:V)(e:J):Bool:=match e with
 |.none=>qW .cT c
 |.bool b=>qW (.bl b) c
 |.int d _=>qW ?gV c
 |.str f _=>qW (.str f) c
 |_=>I
def Fq(c:RelV d e)(h:qp d=M):ub f e=qW d f:=by
 cases d with
 |cT=>cases c;rfl
 |bl b=>cases c;rfl
 |int j=>let(i,0):=c;rfl
 |str k=>let(i,0):=c;rfl
 |_=>show ?er
def Oz(h:a_ d e):d.all qp=M->e.any (ub f)=d.any λj=>qW j f:=by
 induction h with
 |nil=>intro _;rfl
 |cons i k ih=>
  intro c;rw[um,ik]at c;rw[rX,rX,Fq i c.1,ih c.2]
def ET(o:RelV f k)(n:qp f=M)(h:a_ l j):l.all qp=M->∀e∈j,Xl m p e k (ub f e):=by
 induction h with
 |nil=>intro _ e c;cases c
 |cons i r ih=>
  intro d q c;rw[um,ik]at d;rcases bM.mp c with rfl|c
  .rw[Fq i d.1];show arN i o d.1 n
  show ih d.2 q c
def Dt(c:V)(d:?au):Bool:=d.any λe=>qW e c
def rIn(h:cp)(j:Bool):R2:=λf k d i=>bN λe c=>k=?aY/\(cJ h d e c\/cZ h d e c)/\qp f=M/\c.all qp=M/\i (.bl (if j then !Dt f c else Dt f c)) d
def Zf:ly X (nU .In) (rIn X.K I):=by
 intro v w B n c A y x t i q s h;let(u,z,0,d,o,j,p):=h;cases s;rcases d with d|d
 .let(e,f,l,r):=i.list d;show SeqAt.in_listAt (ub c) l.isList (λm k=>ET q o f j m (by simpa using k)) (.bl _,n,i,Z,?_)
  rw[show e.toArray.any (ub c)=e.any (ub c)by simp,Oz f j]
  show p
 let(e,f,l,r):=i.tuple d;show SeqAt.in_tupleAt (ub c) l (λm k=>ET q o f j m (by simpa using k)) (.bl _,n,i,Z,?_)
 rw[show e.toArray.any (ub c)=e.any (ub c)by simp,Oz f j]
 show p
def jx:qN X ?jw (λp c m=>bN λi d=>p=[?iB]/\(cJ X.K c i d\/cZ X.K c i d)/\m (.int d.length) c):=by
 intro v o y c p x m f s h;let(i,d,0,e,n):=h;let(w,0,t):=vals1 s;cases t;let u:=zu;rcases e with e|e
 .let(r,l,k,q):=f.list e;let j:=l.length;show Calls.call_len_list k.isList (by simp only[jK]<;>lia) ?jb
 let(r,l,k,q):=f.tuple e;let j:=l.length;show len_tuple k (by simp only[jK]<;>lia) ?jb
theorem ah7:qN X ?jw (λf d e=>∃c,f=[.str c]/\c.length<=cw/\e (.int c.length) d):=by intro n o s d f r e i k h;obtain⟨c,rfl,m,j⟩:=h;obtain⟨q,rfl,p,rfl⟩:=vals1 k;have l:=zu;show len_str ?d (.int c.length,d,i.tok _,(_,rfl),j)
def ahl:qN X ?ay (λu c k=>bN λd e=>u=[?J]/\((cJ X.K c d e/\∀l,c l=U->k ?bk (D c l (.tup e)))\/(cZ X.K c d e/\k ?J c))):=by
 intro t j v c u H k f z h;let(d,e,0,h):=h;let(E,0,A):=vals1 z;cases A;rcases h with⟨m,p⟩|⟨m,p⟩
 .let(n,q,o,s):=f.list m;let B:=q.length;show call_tuple_list o.isList (λi y=>?_) (by simp only[jK]<;>lia)
  let r:?bf t v c {j with heap:=i}:=f.kept (t':=j.toks) y;let w:?bf t v (D c i.1.size (.tup e)) {j with heap:=i.push {cls:=?ay,data:=.seq n.toArray}}:=
   r.laid (t':=j.toks) (λb C x=>?e1 x) ?a2 (show ?g3 _ _ _ (.tup e)from(s,n,q,alW _ _,_,?dd,Z))
  show(.ref i.1.size,_,w,Z,p _ (r.bU.fresh ?a2))
 let(n,q,o,s):=f.tuple m;show call_tuple_same o (?J,c,f,Z,p)
def Qq(i:cp)(c:String)(l:V)(e:L):Prop:=match l with
 |.str _=>c="str"
 |.int _=>c="int"
 |.ref d=>(c="list"/\∃m,cJ i e d m)\/(c="tuple"/\∃h,i.lookup d=Y h/\h.cls=?ay/\h.dict=U)\/(c="dict"/\((∃f,e d=Y (.dK f))\/∃f,e d=Y (.dT f)))\/(c="set"/\bN λj k=>e d=Y (.set j k))
 |_=>False
def N_(h:?bf B C t i)(o:RelV r q)(l:Qq X.K k r t):i.TypeIs q k/\∀a,q=?s->∃u,i.1.get? a=Y u/\u.dict=U:=by
 cases r with
 |str s=>
  let(p,0):=o;cases(show k="str" from l);show(typeIs_str i s p,λ_ c=>nomatch c)
 |int y=>
  let(p,0):=o;cases(show k="int" from l);show(typeIs_int i y p,λ_ c=>nomatch c)
 |ref j=>
  cases o;rcases l with⟨rfl,T,x⟩|⟨rfl,d,e,w,n⟩|⟨rfl,e⟩|⟨rfl,E,A,e⟩
  .let(P,_,v,_):=h.list x;show(v.isList.typeIs,λa c=>?_);cases c;let(d,A,c,H,n,_):=v;show(d,c,n)
  .show((d,h.iH j d e,w),λa c=>?_);cases c;show(d,h.iH _ d e,n)
  .let s:∃d,i.1.get? j=Y d/\d.ExactDict:=by
    rcases e with⟨z,e⟩|⟨z,e⟩
    .let(_,_,_,_,d,_,_,c,f,_):=h.bU j _ e;show(d,c,f)
    let(_,_,_,_,d,_,_,c,f,_):=h.bU j _ e;show(d,c,f)
   let(d,c,f):=s;show((d,c,f.1),λa m=>?_);cases m;show(d,c,f.2.1)
  let(d,_,_,_,c,f,_):=h.bU j _ e;show((d,c,f.1),λa m=>?_);cases m;show(d,c,f.2.1)
 |_=>show jy l
def auE(f:cp)(i:String)(j:V->?au->L->VK->Prop)(k:TE):TE:=λl e h=>k l e λd c=>Qq f i d c/\j d [] c h
def tBM(i:cp)(k:String)(l:V->?au->L->VK->Prop)(n:TE)(m:TA):TE:=λe f j=>n e f λd c=>Qq i k d c/\m e c λo h=>l d o h j
variable{o e:dz}{es:List dz}{to:TE}{t:TA}{name:Str}{gQ gF:Pos}{T id:String}{r:V->List V->L->VK->Prop}
def M9(x:PlainAttrs T)(C:Slot T name id)(w:Jh (.builtin id)=?gw)(u:FV X id r)(v:?am o to)(q:?arf (yF o name X.env (?V o)=?V o))(s:?arf ((gQ.endLine==gF.line)=M)):?am (?as (?dq name gQ) [] gF) (auE X.K T r to):=by intro d A i j m l h;show wpAny_Call_method0_late q s (df (v d A i j _ l h) λH B z=>?_);let(P,k,c,f,E,y):=z;let(n,p):=N_ c f E;show(T,id,x,C,w,n,p,KJ Z (PySem.evalArgs_none (u d B i k P [] H [] m c f .nil y)))
def kO(P:PlainAttrs T)(q:Slot T name id)(H:Jh (.builtin id)=?gw)(A:FV X id r)(B:?am o to)(w:?dA)(x:?arf (yF o name X.env (?V o)=?V o))(y:?arf (((iS gF (?G ?ah)).all (λc=>!c.1)&&(?bG gF).all (λc=>c.1.isSome)&&?ey)=M))(z:?arf ((gQ.endLine==gF.line)=M))(E:?arf (?G ?ah=?de::?G es))(C:?arf ((iS gF (?G es)).any (·.1)=I)):?am (?as (?dq name gQ) ?ah gF) (tBM X.K T r to t):=by
 intro d i f l s p h;show V9 x y z Z (df (B d i f l _ p h) λx n j=>?_);let(c,m,i,k,p,l):=j;let(u,v):=N_ i k p;show(T,id,P,q,H,u,v,?_);let j:=w gF d n f m _ i l;rw[E]at j ⊢;show KJ (by change(I||(iS gF (?G es)).any (·.1))=I;rw[C]<;>rfl) (Rc ?_)
 show df j λp m j=>?_;let(u,n,q,l,i):=j;show A d m f n c u x p s q k l i
end
def Bg(a:Cx)(l:String)(m:V->?au->L->VK->Prop):=
 ∀(d:?H) (e:aO) (k:St) (b:L) (i:V) (j:?au) (h:J) (f:?aX) (c:VK),?e0 d k b e->RelV i h->a_ j f->m i j b c->?K (px (.builtin l) (h::f)) (EP a d k c) e
def a_.one(h:a_ [c] b):∃a,b=[a]/\RelV c a:=by
 cases h with
 |cons d e=>cases e;show(_,Z,d)
def a_.zero(h:a_ [] a):a=[]:=by cases h;rfl
def a_.dropLast(h:a_ b a):a_ b.dropLast a.dropLast:=by
 induction h with
 |nil=>show .nil
 |cons c d ih=>
  rcases d with _|⟨e,f⟩
  .show .nil
  show .cons c ih
theorem akS(l:List e):l.eraseIdx (R l-1)=l.dropLast:=by
 induction l with
 |nil=>rfl
 |cons c a ih=>
  rcases a with _|⟨b,a⟩
  .rfl
  let d:(c::b::a).length-1=((b::a).length-1)+1:=by
   let f:(c::b::a).length=R a+2:=rfl;let h:(b::a).length=R a+1:=rfl
   lia
  rw[d,List.eraseIdx_cons_succ,ih]
  all_goals rfl
section
variable{X:Cx}{ap:List (S×Obj)}{σ:St}{H:L}{s:aO}{l b:S}{xs ys zs:List V}
def Inv.JO{d qv:?aX}{o:Nat}{a:?dD->?dD}{p:Nat}(f:?f H s)(h:H l=?j2)(e:s.1.get? l=Y {cls:=?Q,data:=?gx o})(j:a d.toArray=qv.toArray)(m:a_ ys qv)(n:R ys<=cw):?f (D H l (.lst ys)) {s with heap:=s.1.update l (At a),toks:=p}:=by
 let c:=PySem.IsL.update e a;rw[j]at c;show f.write (x:=l) (e:=l) (by rw[h];show trivial) ?aG (λq r i k=>(QO s.1 (At a) (bI i)).trans k) (_,c) ?_
 show(n,qv,_,m,c)
def Inv.auo{t':Nat}(c:?f H s)(d:a_ ys a)(e:R ys<=cw):?f (?jM H (.lst ys)) {s with heap:=s.1.push {cls:=?Q,data:=?bT},toks:=t'}:=
 c.laid (λ_ _ f=>?e1 f) ?a2 (e,a,0,d,?dd)
theorem Inv.fresh(a:?f H s):H ?O=U:=a.bU.fresh ?a2
def Inv.Be(e:?f H s)(h:H l=?j2):?fH<=cw/\bN λ(a:?aX) (c:Nat)=>a_ xs a/\?fH=R a/\s.1.get? l=Y {cls:=?Q,data:=?bT c}:=by let(i,a,c,d,f):=e.bU l _ h;show(i,a,c,d,d.length,f)
def u6{a:Nat}(h:a<=cw):Gm a=I:=by unfold Gm;show gu ?d
end
section
variable{X:Cx}
def G2:V->?au->L->VK->Prop:=λf e b d=>gG λl a c=>f=?bk/\e=[c]/\b l=Y (.lst a)/\R a<cw/\d .cT (D b l (.lst (a++[c])))
def oZ:Bg X "list.append" G2:=by
 intro s t B o x w v u p b n m h;let(l,y,z,0,0,c,r,i):=h;cases n;let(e,0,k):=m.one;let(A,d,f,j,q,a):=b.Be c;show El F.slot_list_append (_,a,Z) F.entry_list_append (F.args_list_append_2 _ _) (PySem.list_append l d.toArray f e (by rw[jK];lia)) (a,?_)
 show(.cT,_,b.JO (qv:=d++[e]) c a ?c (j.append (?c2 k)) ?_,Z,i)
 rw[iA,List.length_singleton]
 lia
def aqH:V->?au->L->VK->Prop:=λh f a e=>mr λl d b c=>h=?bk/\f=[?J]/\a l=Y (.lst b)/\a d=Y (.lst c)/\R b+R c<=cw/\e .cT (D a l (.lst (b++c)))
def yP:Bg X "list.extend" aqH:=by
 intro A B a v T P H E w c u t h;let(l,f,a,a,0,0,e,j,z,p):=h;cases u;let(C,0,s):=t.one;cases s;let(a,a,n,q,x,d):=c.Be e;let(b,b,o,r,y,i):=c.Be j;let m:Q a.toArray+Q b.toArray<=cw:=by rw[jK,jK];lia
 let k:¬?jc=M:=by
  rw[u6 m,GX];show kU
 show El vN (_,d,Z) Y7 (X8 _ _) (AutoSeq1.list_extend_list_list_0 l a.toArray n f b.toArray o k (by rw[jK];lia) ?d) (d,i,?_)
 show(.cT,_,c.JO (qv:=a++b) e d ?c (q.append r) ?_,Z,p)
 rw[iA]
 lia
def auv:V->?au->L->VK->Prop:=λf e b d=>gG λl a c=>f=?bk/\e=[]/\b l=Y (.lst a)/\a[R a-1]?=Y c/\d c (D b l (.lst a.dropLast))
def M5:Bg X "list.pop" auv:=by
 intro w x H u B A z y v d s r h;let(l,C,t,0,0,e,m,p):=h;cases s;let k:=r.zero;subst k;let(E,a,o,f,i,b):=d.Be e;let(c,j,q):=f.get m;let n:a.toArray[Q a.toArray-1]?=Y c:=by
  change a.toArray[R a-1]?=Y c;rw[<-DE,<-i];show j
 show El F.slot_list_pop (_,b,Z) F.entry_list_pop (F.args_list_pop_1 _) (MeetsSeq.list_pop_last l a.toArray o c n (by rw[jK];lia)) (b,?_)
 show(t,_,d.JO (qv:=a.dropLast) e b ?_ f.dropLast ?_,q,p)
 .change a.toArray.eraseIdxIfInBounds (Q a.toArray-1)=a.dropLast.toArray;rw[jK,List.eraseIdxIfInBounds_toArray,akS]
 rw[Y0]
 lia
def aut:R2:=λh i a f=>mr λl e c d=>h=?bk/\i=?aY/\a l=Y (.lst c)/\a e=Y (.lst d)/\R c+R d<=cw/\∀b,a b=U->f ?av (D a b (.lst (c++d)))
def Pg:ly X (yR .Add) aut:=by
 intro z q a r C H B A s a o p h;let(l,t,E,b,0,0,j,i,w,k):=h;cases o;cases p;let(P,b,x,m,u,d):=a.Be j;let(T,c,y,n,v,e):=a.Be i;show PySem.P.add_list d e ?_ (by rw[jK,jK];lia)
 let f:b.toArray++c.toArray=(b++c).toArray:=by simp
 rw[f];show(.ref _,_,a.auo (t':=q.toks) (m.append n) (by rw[iA];lia),Z,k _ a.fresh)
end
def a_.Qn:∀{b:List Bool} {a:?aX},a_ (b.map V.bl) a->a=b.map yL:=by
 intro c
 induction c with
 |nil=>
  intro a h;rw[DZ]at h;cases h;rfl
 |cons f b ih=>
  intro a h;rw[iF]at h;cases h with
  |cons d e=>
   cases d;rw[ih e,iF]
def a_.JQ(a:a_ [V.ref b] c):c=[dR b]:=by
 cases a with
 |cons a d=>
  cases d;cases a;rfl
section
variable{X:Cx}
def E3{b:?au}(c:b.all qp=M){d:Nat}(h:b[d]?=Y a):qp a=M:=nO.mp c a (lW h)
end
def r_{a:aO}{l:S}{d:J->aO->Prop}(c:a.1.IsList l e)(h:∀b:aO,b={a with heap:=a.1.push {cls:=.type "list_iterator",data:=.fields #[?bk,?dN 0]}}->(b.1.IsListIter a.1.1.size l 0/\b.1.IsList l e)->l≠?b0->d ?jk b):bH (bQ m n) f (Jg ?bk) d i a:=by
 let k:l<?b0:=by let(_,j,_):=c;show fS j
 show afb c (h _ Z ((_,?dd,Z,Z),c.push _) (jS k))
def Xe{b:List Bool}(k:c=b.map yL):TruthOf p r h (λa d=>c.toArray[a]?=Y d) (λa=>b.getD a I):=λa d q i s o n=>by
 let f:c[a]?=Y d:=by simpa using o
 rw[k,iC]at f;let(j,l,0):=QP.mp f;let m:b.getD a I=j:=by rw[wO,l]<;>rfl
 let e:i (b.getD a I) q:=n;rw[m]at e;show vS e
theorem any_range:∀a:List Bool,(wb a.length).any (λb=>a.getD b I)=a.any id:=by
 intro c
 induction c with
 |nil=>
  show rfl
 |cons d a ih=>
  rw[lO,V5,rX,ahQ,rX,<-ih]
  all_goals rfl
theorem all_range:∀a:List Bool,(wb a.length).all (λb=>a.getD b I)=a.all id:=by
 intro c
 induction c with
 |nil=>
  show rfl
 |cons d a ih=>
  rw[lO,V5,um,Vb,um,<-ih]
  all_goals rfl
section
variable{X:Cx}
def R6(d:cp):?au->L->VK->Prop:=λf a e=>bN λ(b:S) (c:List Bool)=>f=[V.ref b]/\cJ d a b (c.map V.bl)/\e (.bl (c.any id)) a
def R5(d:cp):?au->L->VK->Prop:=λf a e=>bN λ(b:S) (c:List Bool)=>f=[V.ref b]/\cJ d a b (c.map V.bl)/\e (.bl (c.all id)) a
def arJ(l:X.f6=M):qN X (.builtin "any") (R6 X.K):=by
 intro z B T e P H w a t h;let(f,x,0,p,s):=h;let(q,u,n,_):=a.list p;rw[a_.JQ t];let d:=u.Qn;show call_any_walk (r_ n.isList λC k v o=>?_);subst k;show ?eO;show(.bl _,e,a.kept λi r c=>m i r (λb=>?_) (?e1 c),?_,s)
 .rcases ?i3 with j|b
  .show ?b2 (j▸fS c)
  cases b
 change yL _=yL _;rw[<-any_range,d,jK,ft]
def arI(l:X.f6=M):qN X (.builtin "all") (R5 X.K):=by
 intro z B T e P H w a t h;let(f,x,0,p,s):=h;let(q,u,n,_):=a.list p;rw[a_.JQ t];let d:=u.Qn;show call_all_walk (r_ n.isList λC k v o=>?_);subst k;show ?eO;show(.bl _,e,a.kept λi r c=>m i r (λb=>?_) (?e1 c),?_,s)
 .rcases ?i3 with j|b
  .show ?b2 (j▸fS c)
  cases b
 change yL _=yL _;rw[<-all_range,d,jK,ft]
end
mutual
inductive Dp(b:cp)(a:L):V->xO->Prop
 |cT:Dp b a .cT .none
 |bl (f:Bool):Dp b a (.bl f) (.bool f)
 |int (i:Int):Dp b a (.int i) (.int i)
 |str (l:Str):Dp b a (.str l) (.str l)
 |lst {d:S} {e:?au} {c:List xO}:cJ b a d e->xT b a e c->Dp b a ?J (.list c)
 |tup {d:S} {e:?au} {c:List xO}:cZ b a d e->xT b a e c->Dp b a ?J (.tuple c)
inductive xT(b:cp)(a:L):List V->List xO->Prop
 |nil:xT b a [] []
 |cons {j:V} {k:?au} {h:xO} {c:List xO}:Dp b a j h->xT b a k c->xT b a (j::k) (h::c)
end
section
variable{X:Cx}{ap:List (S×Obj)}{σ:St}{H:L}{s:aO}
mutual
theorem Dp.reads(c:?f H s):∀(e:xO) (t:V) (q:J),Dp X.K H t e->RelV t q->∃d,Reads s.1 q e d
 |.none,_,_,h,a=>by
  cases h;cases a;show(_,Reads.none)
 |.bool v,_,_,h,a=>by
  cases h;cases a;show(_,Reads.bool v)
 |.int y,_,_,h,a=>by
  cases h;let(p,0):=a;show(_,Reads.int y p)
 |.str T,_,_,h,a=>by
  cases h;let(p,0):=a;show(_,Reads.str T p)
 |.list b,_,_,h,a=>by
  cases h with
  |lst m f=>
   cases a;let(n,o,(A,z,k,i,_,j),_):=c.list m;let(d,l):=Dp.j4 c b _ n f o;show(_,Reads.list k i j l)
 |.tuple b,_,_,h,a=>by
  cases h with
  |tup m f=>
   cases a;let(n,o,(A,k,i,z,j),_):=c.tuple m;let(d,l):=Dp.j4 c b _ n f o;show(_,Reads.tuple k i j l)
 |.dict _,_,_,h,_=>by cases h
theorem Dp.j4(c:?f H s):∀(b:List xO) (u:?au) (r:?aX),xT X.K H u b->a_ u r->∃d,ReadsAll s.1 r b d
 |[],_,_,h,a=>by
  cases h;cases a;show(_,ReadsAll.nil)
 |e::b,_,_,h,a=>by
  cases h with
  |cons w x=>
   cases a with
   |cons E P=>
    let(d,B):=Dp.reads c e _ _ w E;let(a,C):=Dp.j4 c b _ _ x P;show(_,ReadsAll.cons B C)
end
end
section
variable{X:Cx}
def Qe(c:cp):R2:=λe f H d=>bN λa b=>Dp c H e a/\Dp c H f b/\xh a=M/\xh b=M/\d (.bl (wc a b)) H
def Qg(c:cp):R2:=λe f H d=>bN λa b=>Dp c H e a/\Dp c H f b/\xh a=M/\xh b=M/\d (.bl (!wc a b)) H
def zx(f:X.A.units+64<pS):ly X (nU .Eq) (Qe X.K):=by intro ap s σ H r t q p u a l m h;let(b,c,d,e,n,o,i):=h;let(v,j):=Dp.reads a b r q d l;let(w,k):=Dp.reads a c t p e m;show SeqAt.compareEq_shaped j k n o f (.bl _,H,a,Z,i)
def Ft(f:X.A.units+64<pS):ly X (nU .NotEq) (Qg X.K):=by intro ap s σ H r t q p u a l m h;let(b,c,d,e,n,o,i):=h;let(v,j):=Dp.reads a b r q d l;let(w,k):=Dp.reads a c t p e m;show SeqAt.compareNe_shaped j k n o f (.bl _,H,a,Z,i)
end
abbrev K4(h:dg)(a:S)(b:?bH):Prop:=h.IsCell a b
def auz(c b:jE):jE:=
 {c with names:=c.names.map λ(a,k)=>if(k==.free&&b.kind==.function&&b.names.lookup a==?iC)then(a,.cell)else(a,k)}
def ng(b:?bM):?j7->?bM->?bM
 |[],a=>a
 |(c,e)::d,a=>if e==.free then ng b d ((c,(b.lookup c).getD 0)::a)else ng b d a
theorem Vn(d:Env)(j:Str×rm->?bM->Sem (ForInStep ?bM))(l:∀b f a,j (b,f) a=if f==.free then(do let m<-cellOf d b;pure (.yield ((b,m)::a)))else pure (.yield a)):∀(names:?j7) (c:?bM),(∀i∈names,i.2=.free->∃a,d.cells.lookup i.1=Y a)->forIn names c j=pure (ng d.cells names c)
 |[],c,_=>by rw[agH];rfl
 |(b,f)::q,c,h=>by
  rw[List.forIn_cons,l];have ih:=λc=>Vn d j l q c λi p=>h i (gY _ p);unfold ng;by_cases e:(f==DW)=M
  .rw[bz e,bz e];let(a,k):=h (b,f) mV ?dx
   let n:cellOf d b=pure a:=by unfold cellOf;rw[k]
   rw[n];let o:(d.cells.lookup b).getD 0=a:=by rw[k];rfl
   rw[o];show ih _
  rw[bp e,bp e];show ih _
def akG{b:jE}{a:Env}(h:∀d∈b.names,d.2=.free->∃c,a.cells.lookup d.1=Y c):closureFor b a=pure (ng a.cells b.names []):=by simp only[closureFor];rw[Vn a _ (λf e c=>rfl) b.names [] h];rfl
theorem mem_lookup{b:Type}:∀{l:List (Str×b)} {a:Str} {c:b},(a,c)∈l->∃d,l.lookup a=Y d
 |(i,k)::j,a,c,h=>by
  rw[BI];rcases f:a==i with _|_
  .rcases ?fb with e|h
   .cases e;simp at f
   show mem_lookup h
  show ?f0
def Hw:∀{names:?j7} {b:?bM} {a:Str} {c:S},(a,c)∈ng i names b->(a,c)∈b\/((a,.free)∈names/\c=(i.lookup a).getD 0):=by
 intro l
 induction l with
 |nil=>
  intro _ _ _ h;show .inl h
 |cons m o ih=>
  let(n,k):=m;intro b a c h;unfold ng at h;split at h
  .rename_i f;let f:k=.free:=by simpa using f
   rcases ih h with h|⟨d,e⟩
   .rcases ?fb with j|h
    .cases j;show .inr (f▸mV,Z)
    show .inl h
   show .inr (gY _ d,e)
  rcases ih h with h|⟨d,e⟩
  .show .inl h
  show .inr (gY _ d,e)
def MK:∀{names:?j7} {a:?bM} {p:Str×S},p∈a->p∈ng b names a:=by
 intro c
 induction c with
 |nil=>
  intro _ _ h;show h
 |cons d i ih=>
  let(f,e):=d;intro a p h;unfold ng;split
  .show ih (gY _ h)
  show ih h
theorem ML{uM:?bM}:∀{names:?j7} {cy:?bM} {a:Str},(a,.free)∈names->(a,(uM.lookup a).getD 0)∈ng uM names cy
 |(d,c)::e,cy,a,h=>by
  unfold ng;rcases ?fb with b|h
  .cases b;show MK mV
  split
  .show ML h
  show ML h
def Ez:∀{names:?j7} {h:dg} {e:?bM} {x:Str} {c:S},(x,c)∈mX h.1.size names e->(x,c)∈e\/((x,.cell)∈names/\Q h.1<=c/\K4 (Av h names) c U):=by
 intro l
 induction l with
 |nil=>
  intro _ _ _ _ h;show .inl h
 |cons m n ih=>
  let(o,k):=m;intro h e x c a;unfold mX at a;unfold Av;split at a
  .rename_i b;rw[bz b];let b:k=.cell:=by simpa using b
   rw[<-qb h {cls:=.type "cell",data:=.cell U}]at a;rcases ih a with a|⟨f,d,i⟩
   .rcases bM.mp a with j|a
    .cases j;show .inr (b▸mV,?a2,_,LR n _ _ _ ?dd,Z)
    show ?ai
   rw[qb]at d;show .inr (gY _ f,Lw d,i)
  rename_i b;rw[bp b];rcases ih a with a|⟨f,d,i⟩
  .show ?ai
  show .inr (gY _ f,d,i)
def HP:∀{names:?j7} {n:Nat} {a:?bM} {p:Str×S},p∈a->p∈mX n names a:=by
 intro b
 induction b with
 |nil=>
  intro _ _ _ h;show h
 |cons c f ih=>
  let(e,d):=c;intro n a p h;unfold mX;split
  .show ih (gY _ h)
  show ih h
theorem NC:∀{names:?j7} {n:Nat} {cy:?bM} {x:Str},(x,.cell)∈names->∃a,(x,a)∈mX n names cy
 |(d,c)::e,n,cy,x,h=>by
  unfold mX;rcases ?fb with b|h
  .cases b;show(n,HP mV)
  split
  .show NC h
  show NC h
def ND:∀{names:?j7} {h:dg} {d:?bM} {x y:Str} {c:S},(∀m∈d,m.2<Q h.1)->(∀x y c,(x,c)∈d->(y,c)∈d->x=y)->(x,c)∈mX h.1.size names d->(y,c)∈mX h.1.size names d->x=y:=by
 intro p
 induction p with
 |nil=>
  intro _ _ _ _ _ _ i b a;show i _ _ _ b a
 |cons q t ih=>
  let(s,r):=q;intro h d x y c j i b a;unfold mX at b a;split at b
  .rename_i k;rw[bz k]at a;rw[<-qb h {cls:=.type "cell",data:=.cell U}]at b a;show ih (h:=h.push _) (λm l=>?_) (λx y c e f=>?_) b a
   .rw[qb];rcases bM.mp l with rfl|l
    .show wT _
    show Lx (j m l)
   rcases bM.mp e with n|e<;>rcases bM.mp f with o|f
   .cases n;cases o;rfl
   .cases(n);show ?b2 (j _ f)
   .cases(o);show ?b2 (j _ e)
   show i _ _ _ e f
  rename_i k;rw[bp k]at a;show ih j i b a
def aj8{a:aO}{d:Env->aO->Prop}(h:d (newEnv b a.1.1.size k (mX ?N b.names c) l j i (Y e) f) {a with heap:=Av (a.1.push {cls:=?fv,data:=.dict #[]}) b.names}):bH o m (newFunctionEnv b k c [] l j i (Y e) f) d n a:=by simp only[newFunctionEnv,aeK,if_true];show bC (wpAny_alloc ?_);show bC (wpAny_layCells _ (λr q p=>rfl) b.names c _ _ ?_);rw[show({a with heap:=a.1.push {cls:=?fv,data:=.dict #[]}}:aO).1.1.size=?b0+1 from qb ..];rw[agH];show bC (dA (dA h))
theorem MR{c:jE}:∀{names:?j7} {x:Str} {k:rm},(names.map λ(b,k)=>if(k==DW&&c.kind==.function&&c.names.lookup b==?iC)then(b,Uq)else(b,k)).lookup x=Y k->∃i,names.lookup x=Y i/\(k=i\/(i=.free/\k=.cell))
 |[],_,_,h=>by simp at h
 |(b,f)::j,x,k,h=>by
  have ih:=@MR c j x k;let a:vX x ((if ?df=M then(b,Uq)else(b,f))::(j.map _))=Y k:=h;rcases e:x==b with _|_
  .simp only[BI,e];by_cases d:?df=M
   .rw[bz d]at a;simp only[BI,e]at a;show ih a
   rw[bp d]at a;simp only[BI,e]at a;show ih a
  simp only[BI,e];by_cases d:?df=M
  .rw[bz d]at a;simp only[BI,e]at a;cases a;simp only[ik,jT]at d;show(f,Z,.inr (d.1.1,Z))
  rw[bp d]at a;simp only[BI,e]at a;cases a;show(_,Z,?aG)
structure FD(c:List Str)(f b:jE)(d:List (Str×Nat)):Prop where
 kind:b.kind=.function
 n9:∀a∈b.names,b.names.lookup a.1=Y a.2
 ix:∀e∈d,c[e.2]?=Y e.1
 free:∀a∈b.names,a.2=.free->?f4=?iC\/?f4=?kb
 own:∀a∈b.names,a.2=.local \/a.2=.cell->a.1∈d.map (·.1)\/a.1∉c
def b7(a:St):?dK->St
 |[]=>a
 |b::c=>(b7 a c).set b U
theorem MV(b:St):∀a:List Nat,(b7 b a).length=R b
 |[]=>rfl
 |c::a=>by unfold b7;rw[BL,MV b a]
def NS{a:Nat}:∀{b:?dK},(b7 d b)[a]?=Y (Y i)->d[a]?=Y (Y i)/\a∉b:=by
 intro m
 induction m with
 |nil=>
  intro h;show(h,by simp)
 |cons f b ih=>
  intro h;unfold b7 at h;by_cases c:f=a
  .subst c;by_cases e:f<(b7 d b).length
   .rw[DC e]at h;cases h
   rw[Gp ?dx]at h;cases h
  rw[Re c]at h;let(k,l):=ih h;show(k,by simp only[bM,iw];show(λj=>c j.symm,l))
abbrev Cx.JX(a:Cx)(e:aO)(b:L)(f:jE)(c:Env)(d:?aD):Cx:={a with ko:=e,zP:=b,env:=c,outer:=a.stack,ex:=d,fn:=λh=>f.names.lookup h==?iC,pn:=[],xe:=λ_ _=>False}
section
variable{X:Cx}{ap:List (S×Obj)}{σ:St}{H:L}{s:aO}
def aje(e:?f H s)(v:?jx f a)(a8:X.N.Nodup)(A:∀i∈m,sJ X ap H i/\i<?O):Inv (X.JX s H f (?fC f (mX ?gi f.names ?dT) s.1.1.size) m) [] (b7 σ (a.map (·.2))) H {s with heap:=Av ?ad f.names}:=by
 let b:∀y∈f.names,y.2=.free->∃c,X.env.cells.lookup y.1=Y c:=λy p a=>by
  rcases v.free y p a with h|h
  .show e.ok.has _ (.inl h)
  show e.ok.has _ (.inr h)
 generalize T:?fC f (mX ?gi f.names ?dT) s.1.1.size=d;let a3:∀i E,s.1.get? i=Y E->(Av ?ad f.names).get? i=Y E:=λi E a=>LR _ _ _ _ (?e1 a);let a1:d.2=?O:=by rw[<-T];rfl
 let x:d.cells=mX ?gi f.names ?dT:=by rw[<-T];rfl
 let a5:d.scope=auz f X.env.scope:=by rw[<-T];rfl
 rw[<-qb s.1 {cls:=?fv,data:=.dict #[]}]at x;let P:∀{y c},(y,c)∈?dT->X.env.cells.lookup y=Y c/\c<?O:=λ{y c} l=>by
  rcases Hw l with l|⟨j,rfl⟩
  .cases l
  let(c,k):=b _ j Z;rw[k];let(a4,b):=e.cell _ _ k;show(rfl,b.lt)
 let a6:∀{y c},?cV=Y c->(X.env.cells.lookup y=Y c/\c<?O)\/(?O+1<=c/\K4 (Av ?ad f.names) c U):=λ{y c} a=>by
  rw[x]at a;rcases Ez (rV a)with l|⟨_,o,k⟩
  .show .inl (P l)
  rw[qb]at o;show .inr (o,k)
 let a7:∀{y},?g6=?kb->∃c,?cV=Y c/\X.env.cells.lookup y=Y c:=λ{y} a2=>by
  let p:(y,DW)∈f.names:=rV a2;let(a0,k):=mem_lookup (HP (names:=f.names) (n:=(?ad).1.size) (ML (uM:=X.env.cells) (cy:=[]) p));rw[<-x]at k;show(a0,k,?_);rw[x]at k;rcases Ez (rV k)with l|⟨j,_,_⟩
  .show(P l).1
  have:=v.2 _ j;rw[a2]at this;cases this
 let a9:(X.JX s H f d m).Ok:=by
  show(e.ok.mod,by change d.scope.kind=_;rw[a5];show v.kind,by change d.globals=_;rw[<-T];show e.ok.i7,by change d.builtins=_;rw[<-T];show e.ok.blt,by change ?O<=d.2;rw[a1];show ?a2,λy b c q r=>?_,λy p=>?_,λy c b a=>?_,e.ok.hd,e.ok.frames,?aG,λi t=>(?_,λy c a b=>?_),e.bs,fZ e.ok.ua e.sz,λi E a t=>?_,λi t b=>?_,e.stack,e.Fn)
  .let q:?cV=Y c:=q;let r:d.cells.lookup b=Y c:=r;rw[x]at q r;show ND (λw B=>?_) (λy b c m i=>e.ok.inj y b c (P m).1 (P i).1) (rV q) (rV r);rw[qb];show Lx (P (y:=w.1) (c:=w.2) B).2
  .change∃c,?cV=Y c;let C:∀h,d.kindOf y=Y h->(h=.cell\/h=.free)->∃c,?cV=Y c:=λh z T=>by
    unfold Env.kindOf at z;rw[a5]at z;let(u,a,P):=MR z;have:u=.cell\/u=.free:=by
     rcases P with rfl|⟨rfl,_⟩
     .show T
     show .inr Z
    rcases this with rfl|rfl
    .let(c,l):=NC (n:=(?ad).1.size) (cy:=?dT) (rV a);let(a0,k):=mem_lookup l;show(a0,by rw[x];show k)
    let(c,j,_):=a7 a;show(c,j)
   rcases p with p|p
   .show C _ p ?aG
   show C _ p (.inr Z)
  .let b:(?g6==Y Uq)=M:=b;let b:?g6=?iC:=by simpa using b
   let a:?cV=Y c:=a;rw[x]at a;rcases Ez (rV a)with l|⟨_,o,_⟩
   .rcases Hw l with l|⟨j,_⟩
    .cases l
    let l:=v.2 _ j;rw[b]at l;cases l
   rw[qb]at o;show Lw o
  .change i≠d.2;rw[a1];show jS (A i t).2
  .let a:?cV=Y c:=a;rcases a6 a with⟨j,_⟩|⟨j,_⟩
   .show(A i t).1.2.2.2.2.1 y c j b
   let o:?O+1<=i:=by rw[<-b];show j
   show ?b2 (jw (A i t).2 (Lw o))
  .rcases(A i t).1.2.2.2.1 with b|b
   .show e.ok.Bf i E a b
   show ?b2 (jw (fS a) (fZ e.ok.ua b))
  rcases bM.mp (e.Pn i b)with b|b
  .show(A i t).1.2.1 b
  show(A i t).1.2.2.1 b
 show(a9,Z,e.bare,Un.kept a3,(λ_=>U,?_,λa9 y t q r m=>?_),λy c a=>?_,?_,λy c a=>?_,λw B=>?_,e.bU.kept a3,by rw[MV];show e.len)
 .change dg.Ns _ d.2 _;rw[a1];show dg.Ns.keeps (dg.Ns.new ..) λi E a=>LR _ _ _ _ a
 .let(r,A):=NS r;let i:?g6=?kb/\(d.kindOf y=?iC\/d.kindOf y=?kb):=by
   let C:∀h,d.scope.names.lookup y=Y h->h=.local \/h=.cell\/h=.free->?g6=?kb/\(d.kindOf y=?iC\/d.kindOf y=?kb):=λh z T=>by
    let f:=z;rw[a5]at z;let(u,a,P):=MR z;let p:¬(u=.local \/u=.cell):=λx=>by
     rcases v.own _ (rV a) x with k|k
     .let(w,B,x):=eM.mp k;let m:=v.ix w B;have:w.1=y:=x;rw[this]at m;show A (eM.mpr (w,B,Oh a8 m q))
     show k (lW q)
    rcases P with rfl|⟨rfl,rfl⟩
    .rcases T with rfl|rfl|rfl
     .show bK ?aG p
     .show bK (.inr Z) p
     show(a,.inr f)
    show(a,.inl f)
   let m:Dq d.scope y:=m;rcases m with m|m|m
   .show C _ m ?aG
   .show C _ m (.inr ?aG)
   show C _ m (.inr (.inr Z))
  let(f,f,a2):=e.loc;let f:Dq X.env.scope y:=(v.free _ (rV i.1) Z).elim (λh=>.inr (.inl h)) (λh=>?jP);let(a4,P,l):=a2 a9 y t q r f;show(a4,P,.inr (i.2,?_));let(c,j,o):=a7 i.1;rcases l with⟨h,_⟩|⟨_,a0,k,b⟩
  .let h:X.env.scope.names.lookup y=Y .local :=h;rcases v.free _ (rV i.1) rfl with u|u<;>rw[show X.env.scope.names.lookup y=_ from u]at h<;>cases h
  rw[o]at k;cases k;show(c,j,b.keeps a3)
 .let a:?cV=Y c:=a;rcases a6 a with⟨j,_⟩|⟨_,b⟩
  .let(a4,b):=e.cell y c j;show(a4,b.keeps a3)
  show(_,b)
 .change H d.2=U;rw[a1];show e.bU.fresh ?a2
 .let a:?cV=Y c:=a;rcases a6 a with⟨j,_⟩|⟨j,_⟩
  .show e.8 y c j
  show e.bU.fresh (Lw j)
 show ?fO (show w∈([]:?H)++[]from B)
def arC{e:J->aO->Prop}(d:?f H s)(f:H a=Y (.lst c))(r:R c<cw)(w:RelV l b)(h:∀k,?f (?j3 (.lst (c++[l]))) k->e .none k):?r (px (.builtin "list.append") [?s,b]) e m s:=by
 let(z,t,u,j,o):=d.bU a _ f;let y:=j.length;show append_at (hsz:=by rw[jK];lia) o λp x i=>?_
 show h {s with heap:=p} (d.write (t':=s.toks) (by rw[f];trivial) ?aG (λn A q v=>(x.2 n q).trans v) (_,i) (by rw[iA];show r,t++[b],u+1,j.append (?c2 w),?_))
 rw[i];simp
def FY(X:Cx)(d:List dz)(f:TT):=
 ∀(ap:?H) (s:aO) (σ:St) (H:L) (a:Bool->L->Prop),?f H s->f σ H a->?r (forIn d M λb c=>if c=M then do let e<-CJ b X.env (dU b X.env);pure (LM e)else pure (LM c)) (TP X ap σ a) X.xe s
def vI:TT:=λ_ H a=>a M H
def sr:FY X [] vI:=λ_ _ _ H _ a h=>wpAny_tests_nil (H,a,h)
def aqG(h:PT X a b):FY X [a] b:=λap s σ H d c e=>wpAny_tests_one (h ap s σ H d c e)
end
def Qj{j:Type}{i:Sem j}{d e:j->aO->Prop}(h:bH c b i d (λ_ _=>False) a)(l:∀f a,d f a->e f a):bH c b i e k a:=kX h l λ_ _ m=>jy m
def aib{j:Fo->aO->Prop}{v:List dz}{pos:Pos}(n:Nat->aO->Prop)(turn:∀k l,n k l->?ih (zp r) (λm w=>match m with
 |none=>j (.ok .next) w
 |some y=>?ih (LQ s r y) (λ_ H=>?ih (Jf s b y) (λ_ P=>
  ?ih (forIn v M λz m=>if m=M then do let p<-CJ z b (dU z b);pure (LM p)else pure (LM m)) (λp x=>
   if p=M then ?ih (dU u b) (λq T=>
    ?ih (px (.builtin "list.append") [t,q]) (λ_ X=>∃o,o<k/\n o X) ?a6 T) ?a6 x else∃o,o<k/\n o x) ?a6 P) ?a6 H) ?a6 w) ?a6 l)(k:Nat)(h:n k l):vp (bQ c d) a (.compLoop (?eV u [(s,C,v,0)] E) 0 r t b) j l:=by
 show codeAny_loop Z n (λk l c=>?_) k h;change bH _ a ((compTurn (?eV u [(s,C,v,0)] E) 0 r t b).onRaise (λq=>do vh q b;theTreesLotGoes q)) _ _ l;show wpAny_noted ?_;rw[compTurn_list];show bC (Am (bC (kX (turn k l c) (λm w A=>?_) λ_ _ f=>f)));rcases m with _|y
 .show dA A
 show bC (kX A (λ_ H a=>?_) λ_ _ f=>f);show bC (kX a (λ_ P a=>bC (kX a (λp x B=>?_) λ_ _ f=>f)) λ_ _ f=>f);rcases p with _|_
 .show dA (rfl,B)
 show bC (bC (kX B (λq T a=>bC (kX a (λ_ X a=>dA (dA (rfl,a))) λ_ _ f=>f)) λ_ _ f=>f))
section
variable{X:Cx}
def Du(v:TI)(g:TG)(u:TT)(t:TE)(i:?dK):TE:=λj a r=>v j a λf l=>∀b,l b=U->∃W:Nat->Nat->L->Prop,(∃e,W 0 e (D l b ?M))/\∀d e a,W d e a->(f.stop d a/\r ?av a)\/(f.go d a/\∃Nx:L->Prop,(∀c,Nx c->∃o,o<e/\W (d+1) o c)/\∀p c,f.2 d a p c->g p (b7 j i) c λk q=>b7 k i=b7 j i/\u k q λs m=>
 if s=M then t k m λw n=>∃h,n b=Y (.lst h)/\R h<cw/\Nx (D n b (.lst (h++[w])))else Nx m)
def Jd{d:jE}{pos c:Pos}{l:Nat}{a:Env}(j:a.scope.kind=.function)(n:a.scope.names.lookup b=Y .local)(m:(c.line==pos.line)=M)(h:(d.names.any λ(p,k)=>p==b&&(k==.local ||k==.cell))=I):vi (?eV e f d) (Y (.Name b c)) l a=pure M:=by
 let o:a.kindOf b=Y .local :=n;let i:a.blockKind=.function:=by unfold Env.blockKind;rw[j];rfl
 unfold vi;simp only[i,o,h,show(dz.ListComp e f d pos).pos=pos from rfl,show(dz.Name b c).pos=c from rfl,m];rfl
end
def t8{o:Int}{c:Nat}{g:TG}{A:TT}{z:TE}{w:L->Prop}(e:Nat->L->Prop)(B:e 0 (D v k ?M))(E:∀a b,a<c->e a b->g (.int (o+a)) (b7 p l) b λj q=>b7 j l=b7 p l/\A j q λr m=>
 if r=M then z j m λi n=>∃f,n k=?kd/\R f<cw/\e ?aN (D n k (.lst (f++[i])))else e ?aN m)(C:∀b,e c b->w b):∃W:Nat->Nat->L->Prop,(∃h,W 0 h (D v k ?M))/\∀a h b,W a h b->((yh o c).stop a b/\w b)\/((yh o c).go a b/\∃Nx:L->Prop,(∀d,Nx d->∃x,x<h/\W ?aN x d)/\∀u d,(yh o c).2 a b u d->g u (b7 p l) d λj q=>b7 j l=b7 p l/\A j q λr m=>
 if r=M then z j m λi n=>∃f,n k=?kd/\R f<cw/\Nx (D n k (.lst (f++[i])))else Nx m):=by
 show(λa h b=>h=c-a/\a<=c/\e a b,(c,by simp,gI _,B),?_)
 intro a h b ξ;let(0,P,y):=ξ;by_cases t:a<c
 .show .inr (t,e ?aN,λd H=>(c-?aN,by lia,Z,t,H),λu d i=>?_)
  let(s,i):=i;subst s i;show E a _ t y
 let s:a=c:=by lia
 subst s;show .inl (?a2,C b y)
def Fh{K:cp}{a:S}{xs:?au}{g:TG}{y:TT}{x:TE}{H1:L}{u:L->Prop}(d:Nat->L->Prop)(z:d 0 (?j6 ?M))(C:∀b c,b<=?fH->d b c->cJ K c a xs)(E:∀b i c,xs[b]?=Y i->d b c->g i (b7 o l) c λk p=>b7 k l=b7 o l/\y k p λq m=>
 if q=M then x k m λj n=>∃f,n aE=?kd/\R f<cw/\d ?a4 (D n aE (.lst (f++[j])))else d ?a4 m)(A:∀c,d xs.length c->u c):∃W:Nat->Nat->L->Prop,(∃h,?c3 h)/\∀b h c,W b h c->((sP K a).stop b c/\u c)\/((sP K a).go b c/\∃Nx:L->Prop,(∀e,Nx e->∃w,w<h/\W ?a4 w e)/\∀i e,(sP K a).2 b c i e->g i (b7 o l) e λk p=>b7 k l=b7 o l/\y k p λq m=>
 if q=M then x k m λj n=>∃f,n aE=?kd/\R f<cw/\Nx (D n aE (.lst (f++[j])))else Nx m):=by
 show(λb h c=>h=?fH-b/\b<=?fH/\d b c,(xs.length,by simp,gI _,z),?_)
 intro b h c ξ;let(0,B,s):=ξ;let t:=C b c B s;by_cases v:b<?fH
 .show .inr ((xs,xs[b],t,by simp[v]),d ?a4,λe H=>(?fH-?a4,by lia,Z,v,H),λi e j=>?_)
  let(r,j):=j;subst r;show E b i _ (j xs t) s
 let r:b=?fH:=by lia
 subst r;show .inl ((xs,t,?a2),A c s)
def M0{xs:?au}{g:TG}{z:TT}{y:TE}{H1:L}{v:L->Prop}(c:Nat->L->Prop)(A:c 0 (?j6 ?M))(E:∀a b,a<=?fH->c a b->cZ n b o xs)(H:∀a h b,xs[a]?=Y h->c a b->g h (b7 p k) b λj q=>b7 j k=b7 p k/\z j q λr l=>
 if r=M then y j l λi m=>∃e,m aE=Y (.lst e)/\R e<cw/\c ?aN (D m aE (.lst (e++[i])))else c ?aN l)(B:∀b,c xs.length b->v b):∃W:Nat->Nat->L->Prop,(∃f,?c3 f)/\∀a f b,W a f b->((sQ n o).stop a b/\v b)\/((sQ n o).go a b/\∃Nx:L->Prop,(∀d,Nx d->∃x,x<f/\W ?aN x d)/\∀h d,(sQ n o).2 a b h d->g h (b7 p k) d λj q=>b7 j k=b7 p k/\z j q λr l=>
 if r=M then y j l λi m=>∃e,m aE=Y (.lst e)/\R e<cw/\Nx (D m aE (.lst (e++[i])))else Nx l):=by
 show(λa f b=>f=?fH-a/\a<=?fH/\c a b,(xs.length,by simp,gI _,A),?_)
 intro a f b ξ;let(0,C,t):=ξ;let u:=E a b C t;by_cases w:a<?fH
 .show .inr ((xs,xs[a],u,by simp[w]),c ?aN,λd P=>(?fH-?aN,by lia,Z,w,P),λh d i=>?_)
  let(s,i):=i;subst s;show H a h _ (i xs u) t
 let s:a=?fH:=by lia
 subst s;show .inl ((xs,u,?a2),B b t)
def lq2{c:Type}{l:List c}(h:R l=2):bN λa b=>l=[a,b]:=by
 rcases l with _|⟨a,_|⟨b,_|⟨d,l⟩⟩⟩<;>try(cases h;done)
 show(a,b,Z)
def lq3{d:Type}{l:List d}(h:R l=3):gG λa b c=>l=[a,b,c]:=by
 rcases l with _|⟨a,l⟩<;>try(cases h;done)
 let(b,c,0):=lq2 (ahV h);show(a,b,c,Z)
def lq6{i:Type}{l:List i}(h:R l=6):vJ λa b c d e f=>l=[a,b,c,d,e,f]:=by
 rcases l with _|⟨a,_|⟨b,_|⟨c,l⟩⟩⟩<;>try(cases h;done)
 let(d,e,f,0):=lq3 (ahV (ahV (ahV h)));show(a,b,c,d,e,f,Z)
def Q_(c:?d4)(f b:jE)(d:List (Str×Nat)):Bool:=
 decide (b.kind=.function)&&(b.names.all λa=>decide (b.names.lookup a.1=Y a.2))&&(d.all λe=>decide (c[e.2]?=Y e.1))&&(b.names.all λa=>decide (a.2=.free->?f4=?iC\/?f4=?kb)&&decide (a.2=.local \/a.2=.cell->a.1∈d.map (·.1)\/a.1∉c))
def rq{sc e:jE}(h:Q_ aM sc e d=M):FD aM sc e d:=by unfold Q_ at h;simp only[ik,nO,ja]at h;show(h.1.1.1,h.1.1.2,h.1.2,λc b a=>(h.2 c b).1 a,λc b a=>(h.2 c b).2 a)
section
variable{κ:Type}[DecidableEq κ]
def eQ(c:?gK)(a:κ):?gP:=(c.find? λb=>decide (b.1=a)).map (·.2)
def b_(c:?gK)(b:κ)(d:V):?gK:=
 if(c.any λa=>decide (a.1=b))=M then c.map (λa=>if a.1=b then(a.1,d)else a)else c++[(b,d)]
def qo(c:?gK)(a:κ):?gK:=c.filter λb=>decide (b.1≠a)
def Oq{a:κ×V}{d:?gK}{b:κ}(c:a.1=b):eQ (a::d) b=Y a.2:=by simp[eQ,yC,c]
def Op{b:κ×V}{c:?gK}{a:κ}(d:¬b.1=a):eQ (b::c) a=eQ c a:=by simp[eQ,yC,d]
theorem B9(b:κ):∀c:List (κ×V),(c.any λd=>decide (d.1=b))=(eQ c b).isSome
 |[]=>rfl
 |e::f=>by
  rw[rX];by_cases a:e.1=b
  .simp only[Oq a,im a,Bool.true_or,aeK]
  rw[Op a,gu a,BR];show B9 b f
def Wz(a:?gK)(b:κ)(c:V):(b_ a b c).length<=R a+1:=by
 unfold b_;split
 .rw[ft];lia
 rw[iA,lO,uX];lia
def on.EB(c:on b a):b.isSome=a.isSome:=by
 cases b with
 |none=>cases a with
  |none=>rfl
  |some _=>show(show False from c).elim
 |some _=>cases a with
  |none=>show(show False from c).elim
  |some _=>rfl
theorem KV.val(k:KV j l)(a:κ):on (eQ j a) (AC l a):=by
 unfold KV at k
 induction k with
 |nil=>show yK
 |@cons n b p f h q ih=>
  let(i,m):=h;by_cases c:n.1=a
  .let e:b.1=a:=i.symm.trans c;let d:AC (b::f) a=Y b.2:=by simp[AC,yC,e]
   rw[Oq c,d];show m
  let e:¬b.1=a:=λo=>c (i.trans o);let d:AC (b::f) a=AC f a:=by simp[AC,yC,e]
  rw[Op c,d];show ih
def KV.any(d:KV c e)(b:κ):(c.any λa=>decide (a.1=b))=e.any λa=>decide (a.1=b):=by
 unfold KV at d
 induction d with
 |nil=>rfl
 |cons h f ih=>rw[rX,rX,ih,h.1]
def KV.Qh(f:KV e j)(d:κ)(n:RelV k i):KV (e.map λa=>if a.1=d then(a.1,k)else a) (j.map λa=>if a.1=d then(a.1,i)else a):=by
 unfold KV at f ⊢
 induction f with
 |nil=>show .nil
 |@cons m q p r h s ih=>
  rw[iF,iF];show .cons ?_ ih;let(c,l):=h;by_cases b:m.1=d
  .rw[bz b,bz (c.symm.trans b)];show(c,n)
  rw[bp b,bp (λo=>b (c.trans o))];show(c,l)
def KV.put(b:KV d c)(a:κ)(f:RelV i h):KV (b_ d a i) (stored c a h):=by
 unfold b_ stored;rw[b.any a];by_cases e:(c.any λj=>decide (j.1=a))=M
 .rw[bz e,bz e];show b.Qh a f
 rw[bp e,bp e];show ai5 b (rfl,f)
theorem KV.length(c:KV a b):R a=R b:=vV c
end
def Dg(i:RelV (kV e) b):(pM c f).is e b=M:=by
 rcases e with h|j
 .let(a,d):=(show∃a,b=yO h a from i);subst d;show aj0 c f h a
 let(a,d):=(show∃a,b=Ny j a from i);subst d;show aj1 c f j a
def YX:∀{b:?dg} {c:?aX},a_ (b.map kV) c->ItemsAre (pM d i) b c:=by
 intro e
 induction e with
 |nil=>
  intro _ a;rw[DZ]at a;cases a;show .nil
 |cons j b ih=>
  intro _ a;rw[iF]at a;cases a with
  |cons h f=>show .cons (Dg h) (ih f)
abbrev KT(c:L):?j4->List (?dg×S×J)->Prop:=jb λa b=>a.1=b.1/\c b.2.1=Y (.tup (a.1.map kV))/\RelV a.2 b.2.2
theorem KT.val(o:KT l j k)(a:?dg):on (eQ j a) ((zB k a).map (·.2)):=by
 induction o with
 |nil=>show yK
 |@cons n b q f h r ih=>
  let(i,_,m):=h;by_cases c:n.1=a
  .let e:b.1=a:=i.symm.trans c;let d:zB (b::f) a=Y b.2:=by simp[zB,yC,e]
   rw[Oq c,d];show m
  let e:¬b.1=a:=λp=>c (i.trans p);let d:zB (b::f) a=zB f a:=by simp[zB,yC,e]
  rw[Op c,d];show ih
def KT.Qh(o:KT e i k)(c:?dg)(p:RelV l j):KT e (i.map λd=>if d.1=c then(d.1,l)else d) (k.map (putAt c j)):=by
 induction o with
 |nil=>show .nil
 |@cons n s r t h u ih=>
  rw[iF,iF];show .cons ?_ ih;let(b,f,m):=h;unfold putAt;by_cases a:n.1=c
  .rw[bz a,bz (b.symm.trans a)];show(b,f,p)
  rw[bp a,bp (λq=>a (b.trans q))];show(b,f,m)
def KT.put(h:KT d f c)(a:?dg)(m:d i=Y (.tup (a.map kV)))(j:RelV l k):KT d (b_ f a l) (storedH c a i k):=by
 let e:(f.any λn=>decide (n.1=a))=(zB c a).isSome:=by
  rw[B9,(h.val a).EB,RS]
 unfold b_ storedH;rw[e];by_cases b:(zB c a).isSome=M
 .rw[bz b,bz b];show h.Qh a j
 rw[bp b,bp b];show ai5 h (rfl,m,j)
def KT.keeps{b c:L}(j:KT b e f)(i:∀d h,b d=Y (.tup h)->c d=Y (.tup h)):KT c e f:=
 jb.lu j λ_ _ a=>(a.1,i _ _ a.2.1,a.2.2)
section
variable{P:eP}{w:dZ}{H:L}{h:dg}{a:S}
def P8(d:?bS)(c:Rd H a b):?eh a b:=c.ok d
def De(e:?bS)(d:Rd H a (.dK b)):R b<=cw/\(a==nS)=I/\∃c,KV b c/\h.DictOf (pM P w) a c:=
 show ?eh a (.dK b)from P8 e d
def atb(e:?bS)(d:H a=Y (.dK b)):R b<=cw/\(a==nS)=I/\∃c,KV b c/\h.DictOf (pM P w) a c:=De e (.inl d)
def CQ{b:?dg}(l:?bS)(c:H a=Y (.tup (b.map kV))):(Ew (pM P w)).is h b a:=by let(_,i,m,(k,d,e,j,f),_):=(show ?eh a (.tup (b.map kV))from l a _ c);show(k,i.toArray,j,d,e,f,by simpa using YX m)
def zE(k:?bS)(f:Rd H a (.dT d)):R d<=cw/\(a==nS)=I/\∃e,KT H d e/\h.DictOfH (Ew (pM P w)) a e:=by
 let(z,y,e,n,x,q,p,r,s,t,u,v):=(show ?eh a (.dT d)from P8 k f);show(z,y,e,n,x,q,p,r,s,t,u,λc b=>?_,v);let o:∀{l:?j4} {i:List (?dg×S×J)},KT H l i->∀c∈i,(Ew (pM P w)).is h c.1 c.2.1:=by
  intro l i m
  induction m with
  |nil=>intro c b;show nomatch b
  |@cons A m B C j E ih=>
   intro c b;rcases ?i3 with f|b
   .subst f;show CQ k (by rw[<-j.1];show j.2.1)
   show ih c b
 show o n c b
def O8(e:?bS)(d:H a=Y (.dT b)):R b<=cw/\(a==nS)=I/\∃c,KT H b c/\h.DictOfH (Ew (pM P w)) a c:=zE e (.inl d)
end
def lY(c:L)(d:S)(h:V)(f:?gP):=
 (bN λb a=>Rd c d (.dK b)/\h=kV a/\f=eQ b a)\/gG λb a e=>Rd c d (.dT b)/\h=?aY/\c e=Y (.tup (a.map kV))/\f=eQ b a
def tQ(b:L)(d:S)(i h:V)(e:L):=
 (bN λa c=>b d=Y (.dK a)/\i=kV c/\R a<cw/\e=D b d (.dK (b_ a c h)))\/
 gG λa c f=>b d=Y (.dT a)/\i=?bL/\b f=Y (.tup (c.map kV))/\R a<cw/\e=D b d (.dT (b_ a c h))
theorem lY.k{b:L}{k:Key}(d:b c=Y (.dK a)):lY b c (kV k) (eQ a k):=.inl (a,k,.inl d,Z,Z)
theorem lY.t{a:L}{k:?dg}(e:a d=Y (.dT c))(f:a b=Y (.tup (k.map kV))):lY a d ?av (eQ c k):=.inr (c,k,b,.inl e,Z,f,Z)
theorem tQ.k{b:L}{k:Key}(e:b c=Y (.dK a))(f:R a<cw):tQ b c (kV k) d (D b c (.dK (b_ a k d))):=.inl (a,k,e,Z,f,Z)
theorem tQ.t{a:L}{k:?dg}(f:a c=Y (.dT b))(h:a d=Y (.tup (k.map kV)))(i:R b<cw):tQ a c ?J e (D a c (.dT (b_ b k e))):=.inr (b,k,d,f,Z,h,i,Z)
section
variable{X:Cx}{ap:List (S×Obj)}{σ:St}{H:L}{s:aO}{a:S}{y v:V}{u r:J}{o:Option V}{A:eV}{E:J->aO->Prop}
def Inv.big(b:?f H s):nS<?O:=by let h:Ca<?O:=(b.mod.i7.keeps b.bk).lt;show Nat.lt_trans ?i h
def al7{n:J->aO->Prop}(C:A.units+1<pS)(c:?f H s)(g:lY H a y (Y v))(p:RelV y u)(h:∀b q,?f H q->?jq b->n b q):?cM ?u (xG ?s u) n:=by
 rcases g with⟨P,d,f,i,l⟩|⟨P,d,t,f,i,w,l⟩
 .subst i;let(n,x,T,k,e):=De c.bU f;let(b,j,m):=on.j8 (v:=v) (o:=AC T d) (by rw[l];show k.val d)
  show afF (Dg p) e.mapOf j (h b _ (c.tok _) m)
 subst i;cases(show u=dR t from p);let(n,x,i,k,e):=zE c.bU f;let(b,j,m):=on.j8 (v:=v) (o:=(zB i d).map (·.2)) (by rw[l];show k.val d)
 let(d,z,B):=QP.mp j;show wpAny_getItem_heap (GG C) (CQ c.bU w) e z ?_;rw[B];show h b _ (c.tok _) m
def aug{k:J->aO->Prop}(w:A.units+1<pS)(b:?f H s)(g:lY H a y o)(n:RelV y u)(h:∀p,?f H p->k (.bool o.isSome) p):?cM ?u (nU .In u ?s) k:=by
 rcases g with⟨x,i,d,e,l⟩|⟨x,i,q,d,e,t,l⟩
 .subst e;let(z,f,B,j,c):=De b.bU d;show wpAny_in_of (Dg n) f c.mapOf ?_;rw[<-(j.val i).EB,<-l];show h _ (b.tok _)
 subst e;cases(show u=dR q from n);let(z,f,C,j,c):=zE b.bU d;show wpAny_in_heap (GG w) (CQ b.bU t) f c ?_;let m:=(j.val i).EB;rw[RS]at m;rw[<-m,<-l];show h _ (b.tok _)
def apU{k:J->aO->Prop}(w:A.units+1<pS)(b:?f H s)(g:lY H a y o)(n:RelV y u)(h:∀p,?f H p->k (.bool (!o.isSome)) p):?cM ?u (nU .NotIn u ?s) k:=by
 rcases g with⟨x,i,d,e,l⟩|⟨x,i,q,d,e,t,l⟩
 .subst e;let(z,f,B,j,c):=De b.bU d;show wpAny_notIn_of (Dg n) f c.mapOf ?_;rw[<-(j.val i).EB,<-l];show h _ (b.tok _)
 subst e;cases(show u=dR q from n);let(z,f,C,j,c):=zE b.bU d;show wpAny_notIn_heap (GG w) (CQ b.bU t) f c ?_;let m:=(j.val i).EB;rw[RS]at m;rw[<-m,<-l];show h _ (b.tok _)
def OF{m:Nat}{ob:HO}(d:?f H s)(k:zS (H a))(j:xf a s.1 b)(i:∃c,b.get? a=Y c)(l:?g3 (?j3 ob) b a ob):?f (?j3 ob) {s with heap:=b,toks:=m}:=
 d.write (x:=a) (e:=a) k ?aG (λf c h n=>(j.2 f h).trans n) i l
def arK{e:dg}{b:?jY}(l:R b<=cw)(j:(a==nS)=I)(k:KV b c)(i:e.DictOf (pM d f) a c):jt d f h e a (.dK b):=(l,j,c,k,i)
def al9{C:Unit->aO->Prop}(a2:A.units+1<pS)(e:?f H s)(g:tQ H a y v B)(a0:RelV y u)(T:?jq r)(h:∀b,?f B b->C () b):?cM ?u (setItem ?s u r) C:=by
 rcases g with⟨f,b,c,q,l,p⟩|⟨f,b,C,c,q,P,l,p⟩
 .subst q p;let(j,t,d,i,n):=atb e.bU c;let z:R d<=cw:=by rw[<-i.length];show j
  let w:(b_ f b v).length<=cw:=by have:=Wz f b v;lia
  show wpAny_setItem_pairs (hsz:=z) (Dg a0) n λB k x=>h _ ?_;let a1:∃d,B.get? a=Y d:=let(d,_,_,m,_):=k;(d,m)
  show OF e (by rw[c];show yK) x a1 (arK w t (i.put b T) k)
 subst q p;cases(show u=dR C from a0);let(j,t,p,i,n):=O8 e.bU c;let z:R p<=cw:=by rw[<-vV i];show j
 let w:(b_ f b v).length<=cw:=by have:=Wz f b v;lia
 show wpAny_setItem_heap (hsz:=z) (GG a2) (CQ e.bU P) n λB k x=>h _ ?_;let(d,n,f,m,p,q,z,_,B):=k;show OF e (by rw[c];show yK) x (d,m) (w,t,_,(i.put b P T).keeps λb b T=>?_,d,n,f,m,p,q,z,B)
 rw[cY (gW T c (λj=>nomatch j))];show T
end
def PR(c:dz):=∀b a,MI c I b a=operate [b,a] (xG b a)
def I_{pos:Pos}(v:HD (.type q) "__getitem__"=pure (Y (.builtin z)))(w:PR j)(h:?gE (dU p m) (λc t=>?gE (dU j m) (λi k=>k.TypeIs c q/\?gE (xG c i) l k) t) s):?gE (dU (.Subscript p j pos) m) l s:=by
 show Xm (kX h (λc t x=>kX x (λi k n=>?_) λ_ _ f=>f) λ_ _ f=>f);let(r,n):=n;unfold Us;show ?ju;rw[getitemInPython_of_ne r.not_modules];show bC (GU r v ?_);let fin:?gE (MI j I c i) (λo u=>?gE (letTemporaryGo p c o>>=λ_=>pure o) l u) k:=by
  rw[w c i];show wpAny_operating (kX n (λo u y=>bC (wpAny_letTemporaryGo (dA y))) λ_ _ f=>f)
 first
  |show dA (bC fin)
  |show bC (dA (bC fin))
  |show bC fin
def ajL(d:Inv h l n c f)(g:lY c e m k):f.TypeIs ?aY "dict":=by
 rcases g with⟨j,i,b,_,_⟩|⟨j,i,o,b,_,_,_⟩
 .let(_,_,p,_,a):=De d.bU b;show a.typeIs
 let(_,_,q,_,a):=zE d.bU b;show a.typeIs
def atK(i j:TE):TE:=λd e h=>i d e λk f=>j d f λl a=>bN λb c=>k=?av/\lY a b l (Y c)/\h c a
def auH(j i:TE):TE:=λd e h=>j d e λl f=>i d f λk a=>bN λb c=>k=?av/\lY a b l c/\h (.bl c.isSome) a
def arl(j i:TE):TE:=λd e h=>j d e λl f=>i d f λk a=>bN λb c=>k=?av/\lY a b l c/\h (.bl (!c.isSome)) a
def atx(j l k:TE):TS:=λd a e=>k a e λm f=>j a f λn h=>l a h λo i=>bN λc b=>n=?aC/\tQ i c o m b/\d.nx a b
section
variable{X:Cx}{o i e kG:dz}{pos ou qU:Pos}{td ty tv:TE}
def so(t:X.A.units+1<pS)(r:?am o td)(q:?am i ty)(s:PR i):?am (.Subscript o i pos) (atK td ty):=by intro b B c d P k h;show I_ PySem.F.slot_dict_getitem.lookup s (df (r b B c d _ k h) λE C v=>?_);let(a,f,l,z,u):=v;show df (q b C c f _ l u) λT a w=>?_;let(a,j,a,A,n,H,p,g,x):=w;subst p;obtain rfl:E=dR n:=z;show(ajL a g,al7 t a g A λa a m y=>(H,j,m,y,x))
def Ju(s:X.A.units+1<pS)(q:?am i ty)(r:?am o td):PC X .In i o (auH ty td):=by intro a A b c E j h;show df (q a A b c _ j h) λH B v=>?_;let(c,d,k,z,u):=v;show df (r a B b d _ k u) λC P w=>?_;let(a,f,l,y,n,t,p,g,x):=w;subst p;obtain rfl:C=dR n:=y;show aug s l g z λT m=>(.bl t.isSome,f,m,Z,x)
def EE(s:X.A.units+1<pS)(q:?am i ty)(r:?am o td):PC X .NotIn i o (arl ty td):=by intro a A b c E j h;show df (q a A b c _ j h) λH B v=>?_;let(c,d,k,z,u):=v;show df (r a B b d _ k u) λC P w=>?_;let(a,f,l,y,n,t,p,g,x):=w;subst p;obtain rfl:C=dR n:=y;show apU s l g z λT m=>(.bl (!t.isSome),f,m,Z,x)
def Fm(v:X.A.units+1<pS)(t:?am o td)(s:?am i ty)(w:?am kG tv)(u:?fB kG (Y (.Subscript o i ou))=pure I):PS X (.Assign [.Subscript o i ou] kG pos) (atx td ty tv):=by intro b T a c d k h;show wpAny_Assign_Subscript (df (w b T a c _ k h) λc c y=>?_) u;let(d,d,l,E,x):=y;show df (t b c a d _ l x) λd c z=>?_;let(f,f,m,H,B):=z;show df (s b c a f _ m B) λb b A=>?_;let(b,b,n,P,q,j,r,g,C):=A;subst r;obtain rfl:d=dR q:=H;show al9 v n g P E λb p=>(a,j,p,C)
end
def anO(h:dg)(c:nS<Q h.1):?iZ (.dK []):=
 (gI _,beq_eq_false_iff_ne.mpr (bI (jS c)),[],.nil,dg.DictOf.new h)
def anP(h:dg)(c:nS<Q h.1):?iZ (.dT []):=
 (gI _,beq_eq_false_iff_ne.mpr (bI (jS c)),[],.nil,_,#[],0,?dd,(rfl,Z,Z),Z,Z,DT)
def asY:TE:=λ_ b c=>∀a,b a=U->c ?s (D b a (.dK []))
def asZ:TE:=λ_ b c=>∀a,b a=U->c ?s (D b a (.dT []))
section
variable{X:Cx}{pos:Pos}
def v6:?am (.Dict [] [] pos) asY:=λi b j e f c h=>
 afC (.ref b.1.1.size,_,c.laid (a:=b.1.1.size) (o:=.dK []) (t':=b.toks) (λ_ _ d=>?e1 d) ?a2 (anO b.1 c.big),Z,h _ ?fi)
def Ip:?am (.Dict [] [] pos) asZ:=λi b j e f c h=>
 afC (.ref b.1.1.size,_,c.laid (a:=b.1.1.size) (o:=.dT []) (t':=b.toks) (λ_ _ d=>?e1 d) ?a2 (anP b.1 c.big),Z,h _ ?fi)
end
structure M1(a:Cx)(d:dz)(h:Str)(f:Pos)(c:dz)(b:Pos):Prop where
 base:yF d h a.env (dU d a.env)=dU d a.env
 gM:((iS b (dP [c] a.env)).all (λe=>!e.1)&&(sj b (sf [] a.env)).all (λe=>e.1.isSome)&&decide (([c]:List dz).length+([]:List EY).length+(if([]:List EY).isEmpty then 0 else 1)<30))=M
 line:(f.endLine==b.line)=M
 aF:iS b (dP [c] a.env)=[(I,dU c a.env)]
def IsD(b:L)(c:S):=(∃a,Rd b c (.dK a))\/∃a,Rd b c (.dT a)
def ar5(m:Inv n q r l k)(o:IsD l c):k.TypeIs ?aC "dict"/\(∀d,dR c=?J->∃a,k.1.get? d=Y a/\a.dict=U)/\(c==nS)=I:=by
 rcases o with⟨p,e⟩|⟨p,e⟩
 .let(_,i,s,_,b):=De m.bU e;show(b.typeIs,λd j=>?_,i);cases j;let(a,_,_,f,h,_):=b;show(a,f,h.2.1)
 let(_,i,t,_,b):=zE m.bU e;show(b.typeIs,λd j=>?_,i);cases j;let(a,_,_,f,h,_):=b;show(a,f,h.2.1)
def agL:Ao "reversed"=Y (.type "reversed"):=by decide+kernel
section
variable{X:Cx}{ap:List (S×Obj)}{σ:St}{H:L}{s:aO}{h':dg}
def Inv.aro{t':Nat}{ch:?aD}(l:?f H s)(i:∀a c,a∉ch->?b5=Y c->?jf=Y c)(h:∀a∈ch,sJ X ap H a):?f H {s with heap:=h',toks:=t'}:=by
 let n:∀a j,H a=Y j->a∉ch:=λa j b f=>by
  let e:=(h a f).1;rw[e]at b;cases b
 show l.step (g':=s.gens) (d':=s.drawn) (ch:=ch) (λa k=>((h a k).2.2.2.1,(h a k).2.1,(h a k).2.2.2.2.1,(h a k).2.2.2.2.2)) (λa c _ _ d b _=>i a c d b) (λa c _ _ d b _=>(c.slots,i a c d b)) (λ_ _ _ _ t=>t) (λa c d b=>(c,i a c d b)) (λ_ _ b=>b) (λ_ _ _ b=>b) (λa x b=>(#[],by rw[b];simp)) (λw q=>?_) (λa j b=>?_) l.bare
 .let(c,p,o,r,u):=q;show(c,p,o,i _ c (λf=>(h _ f).2.1 Z) r,u)
 show(l.bU a j b).qx (λm v d e=>i m v ?_ e) (λ_ e=>e) λ_ _ e=>e;rcases d with f|f
 .rw[f];show n a j b
 show n m _ f
def Inv.NQ{t':Nat}{ch:?aD}(n:?f H s)(m:∀a c,a∉ch->?b5=Y c->?jf=Y c)(j:∀a∈ch,sJ X ap H a)(q:?O<=i)(y:?g3 (D H i p) h' i p):?f (D H i p) {s with heap:=h',toks:=t'}:=by
 let l:H i=U:=n.bU.fresh q;let r:∀a k,H a=Y k->a∉ch:=λa k b h=>by
  let d:=(j a h).1;rw[d]at b;cases b
 show n.step (g':=s.gens) (d':=s.drawn) (ch:=ch) (λa e=>((j a e).2.2.2.1,(j a e).2.1,(j a e).2.2.2.2.1,(j a e).2.2.2.2.2)) (λa c _ _ f b _=>m a c f b) (λa c _ _ f b _=>(c.slots,m a c f b)) (λa c _ b x=>?_) (λa c f b=>(c,m a c f b)) (λa B b=>?_) (λa c k b=>?_) (λa E b=>(#[],?_)) (λC v=>?_) (λa k b=>?_) n.bare
 .rw[cY (jS (?f8 q))];show x
 .rw[cY (fO b l)];show b
 .rw[cY (fO b l)];show b
 .rw[cY (fO b l),b];simp
 .let(c,u,t,w,z):=v;show(c,u,t,m _ c (λh=>(j _ h).2.1 Z) w,z)
 by_cases e:a=i
 .subst e;rw[bD]at b;cases b;show y
 rw[cY e]at b;show(n.bU a k b).qx (λo A f d=>m o A ?_ d) (λo d=>by rw[cY (fO d l)];show d) λo B d=>by rw[cY (fO d l)];show d
 rcases f with h|h
 .rw[h];show r a k b
 show r o _ h
def Inv.R3(l:?f H s)(h:H b=Y d)(i:zS (Y d)):∃c,?f (D H b (.eI c d)) s:=by
 let x:=l.bU b d h;let m:∃c,?fh=Y c:=by
  cases d with
  |lst q=>let(_,_,_,_,e):=x;show(_,e)
  |dK n=>let(_,_,_,_,f,_,_,e,_):=x;show(f,e)
  |dT n=>let(_,_,_,_,f,_,_,e,_):=x;show(f,e)
  |set t w=>let(f,_,_,_,e,_):=x;show(f,e)
  |ins r u v=>let(_,_,_,e,_):=x;show(_,e)
  |ext y=>let(_,(_,e),_):=x;show(_,e)
  |_=>show jy i
 let(c,e):=m;let o:?g3 (D H b (.eI c d)) s.1 b (.eI c d):=by
  show(e,x.qx (λj p _ a=>a) (λj a=>?_) λj q a=>?_)
  .rw[cY (λk=>by rw[k,h]at a;cases a;show i)];show a
  rw[cY (λk=>by rw[k,h]at a;cases a;show i)];show a
 show(c,l.write (x:=b) (e:=b) (t':=s.toks) (h':=s.1) (by rw[h];show i) ?aG (λj p _ a=>a) (c,e) o)
def Inv.JG(f:?f H s)(h:H a=Y e)(j:zS (Y e)):∀b c,X.9 a≠Y (.eI b c):=λb c i=>by
 let d:=f.base.6 a b c i;rw[h]at d;cases d;show j
def Inv.k_(d:?f H s)(h:H j=Y (.eI z u))(v:∀p q,X.9 j≠Y (.eI p q)):?f (D H j u) s:=by
 let k:∀c i,H c=Y i->(∀p q,i≠.eI p q)->c≠j:=λc i a w e=>by
  rw[e,h]at a;cases a;show w _ _ Z
 let n:∀c,H c=U->c≠j:=λc a e=>by rw[e,h]at a;cases a
 show(d.ok,d.os,d.bare,(d.base.keep,d.base.slot,λc i a m t=>?_,d.base.there,λc r a=>?_,λc i l a=>?_,λc B a=>?_),d.loc,d.cell,?_,λl f a=>?_,λA x=>?_,λc i a=>?_,d.len)
 .rw[cY (n c (d.base.free c i a m t))];show d.base.free c i a m t
 .let b:=d.base.5 c r a;rw[cY (?cO c)];show b
 .let b:=d.base.6 c i l a;rw[cY (λe=>by rw[e]at a;show v _ _ a)];show b
 .let(y,b):=d.base.7 c B a;show(y,by rw[cY (?cO c)];show b)
 .rw[cY (n _ d.free)];show d.free
 .rw[cY (n f (d.8 l f a))];show d.8 l f a
 .let(a,m,C):=d.pin A x;show(a,by rw[cY (n _ m)];show m,C)
 by_cases o:c=j
 .rw[o,bD]at a;cases a;rw[o];let(_,l):=d.bU j _ h;show l.qx (λf E _ b=>b) (λf b=>by rw[cY (?cO f)];show b) λf r b=>by rw[cY (?cO f)];show b
 rw[cY o]at a;show(d.bU c i a).qx (λf E _ b=>b) (λf b=>by rw[cY (?cO f)];show b) λf r b=>by rw[cY (?cO f)];show b
end
def atO(i:TS):TS:=λf k h=>bN λc b=>h c=Y b/\zS (Y b)/\∀d,i (λe a=>a c=Y (.eI d b)/\f.nx e (D a c b),λj a=>a c=Y (.eI d b)/\f.rt j (D a c b),λe a=>a c=Y (.eI d b)/\f.bk e (D a c b),λe a=>a c=Y (.eI d b)/\f.ct e (D a c b)) k (D h c (.eI d b))
section
variable{X:Cx}
def IX(h:PS X l m):PS X l (atO m):=by
 intro q s u w v e k;let(x,z,f,i,k):=k;let(p,n):=e.R3 f i;show df (h q s u _ _ n (k p)) λo y a=>?_;cases o with
 |next=>let(d,j,b,c,a):=a;show ?jJ
 |brk=>let(d,j,b,c,a):=a;show ?jJ
 |cont=>let(d,j,b,c,a):=a;show ?jJ
 |ret A=>let(t,d,j,b,r,c,a):=a;show(t,d,_,b.k_ c (e.JG f i),r,a)
def Fv{h:It->L->Prop}{tk:Nat}(c:?bf k m b a)(j:Obj)(n:i6 X.1 X.w X.K l d [a.1.1.size] a.1.1.size f)(q:f 0 (a.1.push j))(p:h d b):Qm X k m l h ?jk {a with heap:=a.1.push j,toks:=tk}:=by
 show(a.1.1.size,[a.1.1.size],f,d,b,Z,c.kept λi r e=>?e1 e,n,q,λi o=>?_,p);let e:i=?b0:=by simpa using o
 subst e;show c.yf ?a2 ?fi
end
def zQ(f e:Int)(b:Nat):It:=(λa _=>a<b,λa c h d=>d=c/\h=.int (f+?dn*e),λa _=>b<=a)
def akt{w:dZ}(c:S)(o i:Int)(n:Nat):i6 d w b e (zQ o i n) [c] c (λa h=>MF h c (o+?dn*i) ((n:Int)-?dn) i)where
 mem:=by simp
 obj:=λa h b d e=>by
  let j:d=c:=by simpa using e
  subst j;show(_,b,λC f=>nomatch f)
 keep:=λa h l b f=>f c ?c _ b
 item:=by
  intro k y B x z a H s X p E f m b A;subst y B x;let(q,r,a1,t,u,v):=m c ?c
  let W:=aja (prog:=k.1) (w:=k.w) (f.ok.hd z) c o i n;show W.item a s _ _ A b λC l T C P a2=>?_;let(a3,0):=C;let a0:Inv k H X p {s with heap:=l,toks:=T}:=f.turned (λd C e j=>a2 d C ?dx j) q r t u v
  show(_,Z,AV (s:={s with heap:=l,toks:=T}) (n:="range_iterator") P Z Z ?i (.int (o+?dn*i),p,a0,(a3,Z),(rfl,Z),P,λd e=>(m d e).1))
 done:=by
  intro k y B x z a H s X p E f m b A;subst y B x;let(q,r,a1,t,u,v):=m c ?c
  show W0 (f.ok.hd z) b (by have:n<=a:=A;lia) λl c=>(rfl,f.turned (t':=s.toks) (λd C e j=>c d C e j) q r t u v)
 self:=λc a s a E b h=>V_ b h
def JT(b c a:Int)(d:Nat):=a≠0/\a.natAbs<1073741824/\Y5 b c a=M/\Gn b c a=d
def atl(i:TA):TI:=λk e h=>i k e λj f=>mr λ(b c a:Int) (d:Nat)=>j=[?dk,?f3,?cD]/\JT b c a d/\h (zQ b a d) f
section
variable{X:Cx}{tg:dz}
def Zk{P pos:Pos}(B:?jr "range")(C:X.mg "range"=U)(A:PA X [f,a,d] o)(H:?arf (?G [f,a,d]=(I,?V f)::?G [a,d]))(E:?arf ((?g4 (?G [a,d])).any (·.1)=I)):PI X tg (?as (.Name "range" P) [f,a,d] pos) (atl o):=by
 intro n b p q c l h;show AN (wz l B C boot_range (Ae (df (A pos n b p q _ l h) λb i b=>?_) H E));let(c,r,s,e,d):=b;let(b,m,c,k,j,(u,v,w,x),T):=d;subst j;cases e with
 |cons d e=>
  cases e with
  |cons f e=>
   cases e with
   |cons l e=>
    cases e;let(e,0):=d;let(t',0):=f;let(d,0):=l;show call_range_3 u ?_ (.inl (V7 v));show aeS (ai4 ..) w ?_;let t:?bf n p r {i with heap:=i.1.push {cls:=.type "range",data:=.fields #[?dk e,.int m t',?f3 d]}}:=s.kept (t':=i.toks) λa a j=>?e1 j;show Fv (tk:=i.toks) t _ (akt _ b c k) ?_ T;let y:b+?eX*c=b:=by simp
    let z:(k:Int)-?eX=Gn b m c:=by rw[x];simp
    change MF _ _ (b+?eX*c) ((k:Int)-?eX) c;rw[y,z];show ?dd
end
def akV{k j:Int}{d:Nat}{g:TG}{v:TS}{i:h_}{c:St}{b:L}(f:Nat->St->L->Prop)(w:f 0 c b)(y:∀a c b,a<d->f a c b->g (.int (k+?dn*j)) c b λs l=>v {i with nx:=f ?aN,ct:=f ?aN,bk:=i.nx} s l)(x:∀c b,f d c b->i.nx c b):∃W:Nat->Nat->St->L->Prop,(∃h,W 0 h c b)/\∀a h c b,W a h c b->((zQ k j d).stop a b/\i.nx c b)\/((zQ k j d).go a b/\∃m:St->L->Prop,(∀r e,m r e->∃t,t<h/\W ?aN t r e)/\∀p e,(zQ k j d).2 a b p e->g p c e λs l=>?fQ):=by
 show(λa h c b=>h=d-a/\a<=d/\f a c b,(d,by simp,gI _,w),?_)
 intro a h c b ξ;let(0,A,u):=ξ;by_cases o:a<d
 .show .inr (o,f ?aN,λr e z=>(d-?aN,by lia,Z,o,z),λp e q=>?_)
  let(n,q):=q;subst n q;show y a c _ o u
 let n:a=d:=by lia
 subst n;show .inl (?a2,x c b u)
def zR(b:Str):It:=(λa _=>a<Q b.cps,λa d f e=>e=d/\∃c,b.cps[a]?=Y c/\f=.str ⟨#[c]⟩,λa _=>Q b.cps<=a)
def B5(c:S)(k:Str)(x:Tok)(o:String)(w:o="str_ascii_iterator"\/o="str_iterator"):i6 b f a e (zR k) [c] c (λd h=>h.IsStrIter c o k x d)where
 mem:=by simp
 obj:=λd h b f i=>by
  let a:f=c:=by simpa using i
  subst a;let(e,a,z,l):=b;show(e,a,λT j=>by rw[l]at j;cases j)
 keep:=λd h m b l=>let(e,j,n):=b;(e,l c ?c e j,n)
 item:=by
  intro l C H B n d X s A y P j v b E;subst C H B;let(p,q,a2,r,t,u):=v c ?c
  let W:Walks l.1 l.w l.A c [c] [c] k.cps.size (SignAt k) (λd h=>h.IsStrIter c o k x d):=by
   rcases w with a|a
   .rw[a];show Walks.strAscii (j.ok.hd n) c k x
   .rw[a];show Walks.strWide (j.ok.hd n) c k x
  let a4:["enumerate","zip","dict_itemiterator","dict_reverseitemiterator","odict_iterator","itertools.zip_longest","itertools.pairwise"].contains o=I:=by
   rcases w with a|a
   .rw[a];decide
   .rw[a];decide
  show W.item d s _ _ E b λT m x T o a0=>?_;let(z,a5,a3,0):=T;let T:Inv l X A y {s with heap:=m,toks:=x}:=j.turned (λf e i a=>a0 f e ?i9 a) p q r t u
  let(a0,a,a0,a1):=id o;show(_,Z,AV (s:={s with heap:=m,toks:=x}) a a0 a1 a4 (.str ⟨#[z]⟩,y,T,(a5,Z),(rfl,z,a3,Z),o,λf i=>(v f i).1))
 done:=by
  intro l C H B n d X s A y P j v b E;subst C H B;let(p,q,a2,r,t,u):=v c ?c
  let T:k.cps[d]?=U:=Go E;rcases w with a|a
  .rw[a]at b;show wpAny_pyNext_ascii_end (j.ok.hd n) b T λm A=>(rfl,?dE (λf e i a=>A f e i a) p q r t u)
  .rw[a]at b;show wpAny_pyNext_wide_end (j.ok.hd n) b T λm A=>(rfl,?dE (λf e i a=>A f e i a) p q r t u)
 self:=λc d s c P b h=>by
  rcases w with a|a
  .rw[a]at b;show wpAny_pyIter_striter_ascii b h
  .rw[a]at b;show wpAny_pyIter_striter_wide b h
def auk(e:TE):TI:=λh b d=>e h b λf c=>∃a,f=.str a/\d (zR a) c
def N0(o:PE c d k):PI c t d (auk k):=by
 intro p s u l w m h;show df (o p s u l _ m h) λx i q=>?_;let(y,v,b,r,a,n,f):=q;subst n;let(j,0):=r;cases e:a.cps.all (· <128)
 .show wpAny_pyIter_wide e (Fv (tk:=i.toks) b _ (B5 _ a j "str_iterator" (.inr Z)) (_,?dd,Z,Z) f)
 show wpAny_pyIter_ascii e (Fv (tk:=i.toks) b _ (B5 _ a j "str_ascii_iterator" ?aG) (_,?dd,Z,Z) f)
section
variable{dm:eP}{w:dZ}{A:eV}{E:J->aO->Prop}{s:aO}
def NG{f:Nat}{e:J->aO->Prop}(l:(a==nS)=I)(d:?b5=Y b)(k:b.ExactDict)(i:b.data=.dict h f)(j:e ?cs {s with heap:=s.1.push {cls:=.type "dict_keyiterator",data:=.fields #[?s,?dN 0,.int h.size 0,.int f 0]}}):?ax (Jg ?s) e:=by
 let c:s.TypeIs ?s "dict":=(b,d,k.1);show RY c afp (wU afp c F.entry_dict_iter ?_ (F.args_dict_iter_1 _));unfold Builtin.«dict.__iter__»;show ?ju;unfold avt;show bC (X4 c ?_);change ?aE (pure (dR a)) s;show ?ek;change ?aE (W1 a>>=_) s;unfold W1;rw[bp (by rw[l];show kU)]
 show bC ?ek;show bC (DN d i ?_);show bC (Ti d i ?_);show bC (vR (dA (_,Z,"dict_keyiterator",_,(_,?dd,Z),Bs.lookup,?_)));simpa[nX]using j
def UC{a i e:Nat}{l:?bH->aO->Prop}(b:s.1.IsKeyIter c d a i e)(p:s.1.get? d=Y q)(n:q.data=.dict f e)(y:Q f=i)(z:f[a]?=Y m)(r:∀j,j.IsKeyIter c d ?aN i e->xf c s.1 j->l (Y m.key) {s with heap:=j}):?ax (zp ?aC) l:=by
 let(B,k,t,h):=id b;unfold zp;show bC (Mi (?ei b.typeIs Bs (wU Bs b.typeIs T6 ?_ (T4 _))))
 show bC ?ek;show ?ju;show ?ju
 first|show bC (Kx b.typeIs (dA ?_))|show bC (KG b.typeIs (dA ?_))
 show bC (wpAny_fieldsOf k h ?_);let x:T7 "dict_keyiterator"=I:=by decide
 simp-iota only[x,yt,if_false];change ?aE (if(dR d==jL)=M then _ else _) s;rw[bp (show¬((dR d==jL)=M)from kU)];show bC ?ek;show bC (DN p n ?_);rw[bp (by rw[y];simp)]
 show bC ?ek;show bC (Ti p n ?_);rw[bp ?c]
 show ?ek;let(v,u):=yp.mp z;simp only[show¬(?aO<0)from by lia,if_false,uh,Bu v]
 show ?ju
 first|show bC (Kx b.typeIs (dA ?_))|show bC (KG b.typeIs (dA ?_))
 show bC (X2 b.typeIs ?_);change ?aE (setField ?aC 1 (nX (?aO+1))>>=_) s;show bC (wX k h ?c ?_)
 let o:(?jg).IsKeyIter c d ?aN i e:=
  (_,Bz _ k (Gr (yu h _)),(Ly ..).trans t,by rw[yu h];simp[nX])
 show bC (wZ ?_);show bC (X2 (s:={s with heap:=?jg}) o.typeIs ?_);change ?aE (pure f[a].key) _;rw[u];show dA (dA (_,Z,dA (r _ o (Gz ..))))
def My{e i k:Nat}{j:?bH->aO->Prop}(y:A.handled=U)(c:s.1.IsKeyIter f d e i k)(q:s.1.get? d=Y t)(o:t.data=.dict h k)(r:Q h=i)(v:i<=e)(u:∀l,Wi f s.1 l->j U {s with heap:=l}):?ax (zp ?bL) j:=by
 let(C,p,B,n):=id c;unfold zp;show bC (Mi (?ei c.typeIs Bs (wU Bs c.typeIs T6 ?_ (T4 _))))
 show bC ?ek;show ?ju;show ?ju
 first|show bC (Kx c.typeIs (dA ?_))|show bC (KG c.typeIs (dA ?_))
 show bC (wpAny_fieldsOf p n ?_);let z:T7 "dict_keyiterator"=I:=by decide
 simp-iota only[z,yt,if_false];change ?aE (if(dR d==jL)=M then _ else _) s;rw[bp (show¬((dR d==jL)=M)from kU)];show bC ?ek;show bC (DN q o ?_);rw[bp (by rw[r];simp)]
 show bC ?ek;show bC (Ti q o ?_);rw[bp ?c]
 show ?ek;let x:Q h<=e:=by rw[r];show v
 simp only[show¬((e:Int)<0)from by lia,if_false,uh,Go x]
 show ?ju
 first|show bC (Kx c.typeIs (dA ?_))|show bC (KG c.typeIs (dA ?_))
 change ?aE (setField ?bL 0 .none>>=_) s;show bC (wX p n ?c ?_)
 change ?aE (newExc (.type "StopIteration") []>>=_) _;show ?ju;simp only[newExc,newTuple];show bC ?im
 show ?fj
 show ?im
 simp only[Ib];show bC (Ut ?_);rw[show A.in1.handled=U from y];show bC (dA (MJ ?_));show bC (Sz (T:="StopIteration") (b:=M) (_,?dd,Z) isSubtype_stop ?_);show dA (u _ (((Gz ..).extBut.push _).push _))
end
def ash{c:Type}{d:List (c×V)}{i:List (c×J)}(h:KV d i):∀{b:Nat} {k:c} {v:V},d[b]?=Y (k,v)->∃f,i[b]?=Y (k,f)/\?jq f:=by
 unfold KV at h
 induction h with
 |nil=>intro b k v a;simp at a
 |@cons l j n o e p ih=>
  intro b k v a;rcases b with _|m
  .simp only[QM,BG]at a;subst a;show(j.2,?_,e.2);simp only[QM];show fL Y (cb e.1.symm rfl)
  simp only[Bw]at a ⊢;show ih a
def pK{i j:Type}{G:i->j->Prop}{e:List i}{f:List j}(h:jb G e f):∀{b:Nat} {c:i},e[b]?=Y c->∃d,f[b]?=Y d/\G c d:=by
 induction h with
 |nil=>intro b c a;simp at a
 |@cons c d e f k n ih=>
  intro b l a;rcases b with _|m
  .simp only[QM,BG]at a;subst a;show(d,Z,k)
  simp only[Bw]at a ⊢;show ih a
def aoM(h:zG b c=M):RelV (kV b) c:=by
 rcases vY h with⟨d,a,rfl,rfl⟩|⟨e,a,rfl,rfl⟩
 .show(a,Z)
 show(a,Z)
section
variable{X:Cx}{ap:List (S×Obj)}{σ:St}{H:L}{s:aO}{d:S}{o:Obj}
def Inv.PX(n:?f H s)(h:H d=Y (.eI o (.dK e))):(d==nS)=I/\s.1.get? d=Y o/\o.ExactDict/\gG λ(a:Array rj) (c:Nat) (b:List (Key×J))=>o.data=.dict a c/\Q a=R e/\KV e b/\s.1.DictAt (pM X.1 X.w) d b c:=by
 let(f,u,p,b,l,t,a,c,j,k,i,m):=n.bU d _ h;rw[f]at j;cases j;show(p,f,k,a,c,b,i,?_,l,o,a,f,k,i,m);let q:=m.2.1.length;let r:R e=R b:=vV l;rw[BB]at q
 lia
def Inv.PY(r:?f H s)(h:H d=Y (.eI o (.dT e))):(d==nS)=I/\s.1.get? d=Y o/\o.ExactDict/\bN λ(a:Array rj) (f:Nat)=>o.data=.dict a f/\Q a=R e/\∀(c:Nat) (i:?dg) (p:V),e[c]?=Y (i,p)->bN λ(j:rj) (b:S)=>a[c]?=Y j/\j.key=?av/\H b=Y (.tup (i.map kV)):=by
 let(k,P,y,q,n,E,a,f,m,z,x,l,_):=r.bU d _ h;rw[k]at m;cases m;show(y,k,z,a,f,x,?_,λc i p u=>?_)
 .let B:Q a=R q:=GT l;let C:R e=R q:=vV n
  lia
 let(t,w,A,v,_):=pK n u;let b:=entry_at l c;rw[w]at b;show(_,t.2.1,b,Z,v)
end
def Itk(d:S)(f:Obj)(c:?jY):It:=
 (λb a=>a d=Y (.eI f (.dK c))/\b<R c,λb a j h=>h=a/\bN λe i=>c[b]?=Y (e,i)/\j=kV e,λb a=>a d=Y (.eI f (.dK c))/\R c<=b)
def FL(d:S)(f:Obj)(c:?j4):It:=
 (λb a=>a d=Y (.eI f (.dT c))/\b<R c,λb a k i=>i=a/\gG λ(e:?dg) (j:V) (h:S)=>c[b]?=Y (e,j)/\k=?dM/\a h=Y (.tup (e.map kV)),λb a=>a d=Y (.eI f (.dT c))/\R c<=b)
def IJ{f:Obj}{a b:Nat}(h:f.data=.dict c a)(e:f.data=.dict d b):d=c/\b=a:=by rw[h]at e;cases e;show(rfl,Z)
section
variable{P:eP}{w:dZ}{K:cp}{tg:dz}{d:S}{o:Obj}{es:Array rj}{ep:Nat}
def ano(e:S)(a8:o.data=.dict es ep):i6 P w K tg (Itk d o k) [e] e (λc h=>h.IsKeyIter e d c k.length ep)where
 mem:=by simp
 obj:=λc h b f i=>by
  let a:f=e:=by simpa using i
  subst a;let(q,a,a2,t):=b;show(q,a,λb4 b6=>by rw[t]at b6;cases b6)
 keep:=λc h l b m=>b.at λq a=>m e ?c q a
 item:=by
  intro a1 B T A a3 c b2 s c0 r a0 j p b E;subst B T A;let(C,H):=E;let(u,v,c5,x,y,z):=p e ?c
  let(c7,a4,d1,c4,c3,b5,n,a9,X,a7):=j.PX C;let(0,0):=IJ a8 n;let((m,b4),a5):∃d2,k[c]?=Y d2:=(k[c],gv H);let(d7,d0,d6):=ash X a5;let a6:R k=R b5:=vV X;rw[a6]at b;show wpAny_pyNext_dict_item b a7 d0 λb0 l c6 b3 d3=>?_;let c1:Inv a1 b2 c0 r {s with heap:=l}:=?dE (λf b1 i a=>(d3.2 f i).trans a) u v x y z;let(q,a,a2,t):=id b3;show(b0,Z,?jt a2 t ?i (kV m,r,c1,aoM (show zG m b0=M from c6),(rfl,m,b4,a5,Z),?_,λf i=>(p f i).1))
  change l.IsKeyIter e d (c+1) k.length _;rw[a6];show b3
 done:=by
  intro a1 B T A a3 c b2 s c0 r a0 j p b E;subst B T A;let(C,H):=E;let(u,v,c5,x,y,z):=p e ?c
  let(c7,a4,d1,c4,c3,b5,n,a9,X,a7):=j.PX C;let(0,0):=IJ a8 n;show My (j.ok.hd a3) b a4 n a9 H λl c2=>(rfl,?dE (λf b1 i a=>c2 f b1 i a) u v x y z)
 self:=λd4 c s d5 a0 b h=>wpAny_pyIter_keyiter b h
def alR(e:S)(a8:o.data=.dict es ep):i6 P w K tg (FL d o p) [e] e (λc h=>h.IsKeyIter e d c p.length ep)where
 mem:=by simp
 obj:=λc h b f i=>by
  let a:f=e:=by simpa using i
  subst a;let(q,a,a4,t):=b;show(q,a,λa1 j=>by rw[t]at j;cases j)
 keep:=λc h l b n=>b.at λq a=>n e ?c q a
 item:=by
  intro a3 B a0 A a6 c a9 s b2 r a2 j m b E;subst B a0 A;let(C,T):=E;let(u,v,c0,x,y,z):=m e ?c
  let(c3,H,c4,b6,b5,k,X,a5):=j.PY C;let(0,0):=IJ a8 k;let((n,a1),a7):∃b0,p[c]?=Y b0:=(p[c],gv T);let(b4,b0,p,c1,c2):=a5 c n a1 a7;show UC b H k X p λl b1 c5=>?_;let b3:Inv a3 a9 b2 r {s with heap:=l}:=?dE (λf p i a=>(c5.2 f i).trans a) u v x y z;let(q,a,a4,t):=id b1;show(b4.key,Z,?jt a4 t ?i (.ref b0,r,b3,c1,(rfl,n,a1,b0,a7,Z,c2),b1,λf i=>(m f i).1))
 done:=by
  intro a3 B a0 A a6 c a9 s b2 r a2 j m b E;subst B a0 A;let(C,T):=E;let(u,v,c0,x,y,z):=m e ?c
  let(c3,H,c4,b6,b5,k,X,a5):=j.PY C;let(0,0):=IJ a8 k;show My (j.ok.hd a6) b H k X T λl k=>(rfl,?dE (λf p i a=>k f p i a) u v x y z)
 self:=λa c s a a2 b h=>by
  show RY b.typeIs Ky (wU Ky b.typeIs T5 ?_ (T2 _));change ?aE (ret ?aY) s;show dA (_,Z,"dict_keyiterator",_,b.typeIs,Bs.lookup,h)
end
def atj(h:TE):TI:=λj f e=>h j f λi c=>bN λa d=>i=?s/\((∃b,c a=Y (.eI d (.dK b))/\e (Itk a d b) c)\/∃b,c a=Y (.eI d (.dT b))/\e (FL a d b) c)
section
variable{X:Cx}{tg e:dz}{td:TE}{gQ gF:Pos}
def IW(s:?am e td):PI X tg e (atj td):=by
 intro u x z m B n h;show df (s u x z m _ n h) λy l v=>?_;let(a,A,c,w,o,P,r,b):=v;subst r;obtain rfl:y=dR o:=w;rcases b with⟨t,d,b⟩|⟨t,d,b⟩
 .let(i,f,k,q,p,T,a,j,H,E):=c.PX d;show NG i f k a (Fv (tk:=l.toks) c _ (ano _ a) (_,?dd,Z,?_) b);rw[j]<;>rfl
 let(i,f,k,q,p,a,j,C):=c.PY d;show NG i f k a (Fv (tk:=l.toks) c _ (alR _ a) (_,?dd,Z,?_) b);rw[j]<;>rfl
end
def FT(e:cp)(h:S):It:=
 (λc b=>bN λ(a:?au) (d:V)=>cJ e b h a/\a[c]?=Y d,λc b j i=>bN λf d=>j=?bL/\b f=U/\i=D b f (.tup [.int (c:Nat),d])/\∀a,cJ e b h a->a[c]?=Y d,λc b=>∃a:List V,cJ e b h a/\R a<=c)
def ann{i:Nat}(c j e:S):i6 d l b (.Tuple f i k) (FT b c) [j,e] j (λa h=>(∃o,Je h j e ((a:Nat):Int) o)/\h.IsListIter e c a/\j≠e)where
 mem:=by simp
 obj:=λa h k d f=>by
  let((o,i),(n,H,C,l),_):=k;let w:d=j\/d=e:=by simpa using f
  rcases w with c|c
  .rw[c];show(_,i,λm b=>nomatch b)
  .rw[c];show(n,H,λm b=>by rw[l]at b;cases b)
 keep:=λa h y k l=>let((o,i),p,m):=k;((o,l j (by simp) _ i),p.at λn b=>l e (by simp) n b,m)
 item:=by
  intro p B P A C a a4 s a5 v a1 l q k E;subst B P A;let((o,i),r,m):=k;let(b4,x,t,T):=E;let(b2,a0,X,b1):=l.list t;let(u,z,b3):=a0.get T;let a3:j<Q s.1.1:=fS i;let a8:e<Q s.1.1:=by let(_,b,_):=r;show fS b
  show wpAny_pyNext_enum_item i r X.isList (x:=u) (by simpa using z) m λy H a9 a6 z b0=>?_
  show(_,Z,U4 (s:={s with heap:=y,toks:=s.toks+1}) H λz a7 H=>?_);let a2:z.get? (Q s.1.1)=Y {cls:=.type "tuple",data:=.seq #[.int a s.toks,u]}:=(H.2 _ (Hh a3)).trans a6;let a6:jt p.1 p.w (D v s.1.1.size (.tup [.int (a:Nat),x])) z s.1.1.size (.tup [.int (a:Nat),x]):=
   (by change 2<=cw;decide,[.int a s.toks,u],.cons (_,Z) (.cons b3 .nil),(_,a2,Z,_,Z),_,a2,Z)
  let a2:Inv p a4 a5 (D v s.1.1.size (.tup [.int (a:Nat),x])) {s with heap:=z,toks:=s.toks+1}:=
   l.NQ (ch:=[j,e]) (λd z f b=>(H.2 d (λc=>f (by simp[c]))).trans (b0 d z (λc=>f (by simp[c])) (λc=>f (by simp[c])) b)) q (dQ _) a6
  show(.ref s.1.1.size,_,a2,Z,(_,x,Z,l.bU.fresh (dQ _),Z,λz z=>by rw[l.Ik z t];show T),((u,?_),a9.at λn b=>(H.2 e (bI m)).trans b,m),λd f=>?_)
  .let u:((a+1:Nat):Int)=(a:Int)+1:=by lia
   rw[u];show a7
  .let u:d<Q s.1.1:=by
    let w:d=j\/d=e:=by simpa using f
    rcases w with c|c
    .rw[c];show a3
    .rw[c];show a8
   rw[cY (jS u)];show(q d f).1
 done:=by
  intro p B P A C a a4 s a5 v a1 l q k E;subst B P A;let((o,i),r,m):=k;let(b4,t,T):=E;let(b2,a0,X,b1):=l.list t;let(j,m,c,o,p,t):=q e (by simp)
  let c:=a0.length;show wpAny_pyNext_enum_end (l.ok.hd C) i r X.isList (by simp;lia) λy c=>(rfl,l.turned (t':=s.toks) (λd n f b=>c d n f b) j m o p t)
 self:=λb a s a a1 k h=>let((_,i),_):=k;LA i h
def ati(c:cp)(f:TA):TI:=λj d e=>f j d λh b=>bN λa i=>h=[?s]/\cJ c b a i/\e (FT c a) b
def F9{P pos a:Pos}{H:Nat}(y:Gl b "enumerate")(B:b.mg "enumerate"=U)(w:PA b [d] n)(E:?arf (dP [d] b.env=[(I,dU d b.env)])):PI b (.Tuple t H a) (?as (.Name "enumerate" P) [d] pos) (ati b.K n):=by
 intro m a o p c j h;show AN (wz j y B boot_enumerate (Ae (df (w pos m a o p _ j h) λa a e=>?_) E Z));let(c,i,c,f,d):=e;let(r,e,u,C,X):=d;subst u;cases f with
 |cons d e=>
  cases e;cases d;let(d,d,T,d):=c.list C;show call_enumerate_list T.isList λv k z d A=>LA k ?_;let q:Inv b m o i {a with heap:=v}:=c.kept (t':=a.toks) A;show(?b0+1,[?b0+1,a.1.1.size],_,_,i,Z,q,ann r ?N a.1.1.size,((.none,k),z,afy _),λe x=>?_,X);let s:e=?b0+1\/e=?b0:=by simpa using x
  let l:?b0<=e:=by
   rcases s with f|f
   .rw[f];show BJ _ _
   rw[f];show ?a2
  show c.yf l (c.bU.fresh l)
def al3:Ao "zip"=Y (.type "zip"):=by decide+kernel
def Itz(e:cp)(j k:S):It:=
 (λb a=>mr λ(c d:?au) (f h:V)=>cJ e a j c/\cJ e a k d/\c[b]?=Y f/\d[b]?=Y h,λb a m l=>gG λi f h=>m=?iB/\a i=U/\l=D a i (.tup [f,h])/\(∀c,cJ e a j c->c[b]?=Y f)/\∀d,cJ e a k d->d[b]?=Y h,λb a=>bN λ(c d:?au)=>cJ e a j c/\cJ e a k d/\(R c<=b\/R d<=b))
def apq{j:Nat}{a b i TI TO m n:S}(e:ZipApart i TI TO m n a b):i6 d p c (.Tuple f j o) (Itz c a b) [i,TI,TO,m,n] i (λk h=>IsZip h i TI TO .none/\IsPair h TI (.ref m) (.ref n)/\(bN λx y=>IsPair h TO x y)/\h.IsListIter m a k/\h.IsListIter n b k)where
 mem:=by simp
 obj:=λk h p b A=>by
  let(r,j,(x,y,q),(f,a1,_,c),(o,a2,_,d)):=p;let a0:b=i\/b=TI\/b=TO\/b=m\/b=n:=by simpa using A
  rcases a0 with a|a|a|a|a
  .rw[a];show(_,r,λX a=>nomatch a)
  .rw[a];show(_,j,λX a=>nomatch a)
  .rw[a];show(_,q,λX a=>nomatch a)
  .rw[a];show(f,a1,λX a=>by rw[c]at a;cases a)
  .rw[a];show(o,a2,λX a=>by rw[d]at a;cases a)
 keep:=λk h X p w=>by
  let(r,j,(x,y,q),t,u):=p;show(w i (by simp) _ r,w TI (by simp) _ j,(x,y,w TO (by simp) _ q),t.at λo a=>w m (by simp) o a,u.at λo a=>w n (by simp) o a)
 item:=by
  intro z a4 a7 a3 A k c1 s c2 w b2 d B p a5;subst a4 a7 a3;let(r,j,(d1,d3,q),t,u):=p;let(d2,d4,x,y,E,H,b3,b4):=a5;let(b6,b0,a8,_):=d.list E;let(c0,b1,a9,_):=d.list H;let(P,c,c7):=b0.get b3;let(T,f,d0):=b1.get b4;let b5:i<Q s.1.1:=fS r;show wpAny_pyNext_zip_item e r j q t u a8.isList a9.isList (x:=P) (y:=T) (by simpa using c) (by simpa using f) λX c c3 c4 c5 a6 f C=>?_
  show(_,Z,wpAny_letOwnedTupleGo_zip (s:={s with heap:=X}) c λc d5 v=>?_);let f:c.get? (Q s.1.1)=Y {cls:=.type "tuple",data:=.seq #[P,T]}:=(v.2 _ (Hh b5)).trans a6;let c6:jt z.1 z.w (D w s.1.1.size (.tup [x,y])) c s.1.1.size (.tup [x,y]):=
   (by change 2<=cw;decide,[P,T],.cons c7 (.cons d0 .nil),(_,f,Z,_,Z),_,f,Z)
  let a6:Inv z c1 c2 (D w s.1.1.size (.tup [x,y])) {s with heap:=c}:=
   d.NQ (t':=s.toks) (ch:=[i,TI,TO,m,n]) (λb o f a=>(v.2 b (λc=>f (by simp[c]))).trans (C b o (λc=>f (by simp[c])) (λc=>f (by simp[c])) (λc=>f (by simp[c])) (λc=>f (by simp[c])) a)) B (dQ _) c6
  show(.ref s.1.1.size,_,a6,Z,(_,x,y,Z,d.bU.fresh (dQ _),Z,λl a6=>by rw[d.Ik a6 E];show b3,λl a6=>by rw[d.Ik a6 H];show b4),(d5,?_,(P,T,?_),?_,?_),λb P=>?_)
  .show(v.2 _ e.TIz).trans (C _ _ e.TIz e.TITO e.TIi1 e.TIi2 j)
  .show(v.2 _ e.TOz).trans c3
  .show c4.at λo a=>(v.2 _ e.i1z).trans a
  .show c5.at λo a=>(v.2 _ e.i2z).trans a
  .let v:b<Q s.1.1:=by
    let a0:b=i\/b=TI\/b=TO\/b=m\/b=n:=by simpa using P
    rcases a0 with a|a|a|a|a
    .rw[a];show b5
    .rw[a];show fS j
    .rw[a];show fS q
    .rw[a];let(_,a1,_):=t;show fS a1
    .rw[a];let(_,a2,_):=u;show fS a2
   rw[cY (jS v)];show(B b P).1
 done:=by
  intro z a4 a7 a3 A k c1 s c2 w b2 d B p a5;subst a4 a7 a3;let(r,j,(d1,d3,q),t,u):=p;let(d2,d4,E,H,w):=a5;let(b6,b0,a8,_):=d.list E;let(c0,b1,a9,_):=d.list H;let v:=b0.length;let v:=b1.length;let v:b6.toArray[k]?=U\/c0.toArray[k]?=U:=by
   rcases w with a|a
   .show .inl (by simp;lia)
   .show .inr (by simp;lia)
  show wpAny_pyNext_zip_end (d.ok.hd A) e r j q t u a8.isList a9.isList v λX C=>(rfl,d.aro (t':=s.toks) (ch:=[i,TI,TO,m,n]) (λb o f a=>
   C b o (λc=>f (by simp[c])) (λc=>f (by simp[c])) (λc=>f (by simp[c])) (λc=>f (by simp[c])) a) B)
 self:=λa k s a b2 p h=>afH p.1 h
def aul(b:cp)(h:TA):TI:=λl e f=>h l e λi a=>mr λc d j k=>i=[?aC,?J]/\cJ b a c j/\cJ b a d k/\f (Itz b c d) a
def asu{j pos k:Pos}{e:Nat}(X:Gl b "zip")(a:b.mg "zip"=U)(P:PA b [i,f] t)(d:?arf (dP [i,f] b.env=(I,dU i b.env)::dP [f] b.env))(c:?arf ((?g4 (dP [f] b.env)).any (·.1)=I)):PI b (.Tuple y e k) (?as (.Name "zip" j) [i,f] pos) (aul b.K t):=by
 intro s e u v f l h;show AN (wz l X a al3 (Ae (df (P pos s e u v _ l h) λa a i=>?_) d c));let(c,k,e,j,f):=i;let(m,n,c,c,z,c,d,i):=f;subst z;cases j with
 |cons f j=>
  cases j with
  |cons l j=>
   cases j;cases f;cases l;let(f,f,q,_):=e.list c;let(c,c,r,_):=e.list d;let d:m<?b0:=q.lt;let f:n<?b0:=r.lt;show call_zip_2 q.isList r.isList λA p E H B C c c=>afH p ?_;let w:Inv b s u k {a with heap:=A}:=e.kept (t':=a.toks) c;show(?b0+4,[?b0+4,?b0+2,?b0+3,a.1.1.size,?b0+1],_,_,k,Z,w,apq (PySem.W.ktu_apart a.1.1.size m n d f),(p,E,(_,_,H),B,C),λd T=>?_,i);let x:d=?b0+4\/d=?b0+2\/d=?b0+3\/d=?b0\/d=?b0+1:=by simpa using T
   let o:?b0<=d:=by
    rcases x with c|c|c|c|c
    .rw[c];show BJ _ _
    .rw[c];show BJ _ _
    .rw[c];show BJ _ _
    .rw[c];show ?a2
    rw[c];show BJ _ _
   show e.yf o (e.bU.fresh o)
end L2
section
namespace Bits
def ZH{a b:Int}(c:0<=a)(d:0<=b):Mg a b=((a.toNat|||b.toNat:Nat):Int):=by
 let e:=nat_or_add_and a.toNat b.toNat;rw[bitOr_and,bitAnd_pp c d]
 lia
end Bits
end
namespace L2
def c8(c:bY)(b:Nat):bY:=match c with
 |.ClassDef _ _ _ a _ _ _ _ _ _ _=>a.getD b (.Pass (0,0,0,0))
 |_=>.Pass (0,0,0,0)
def OG(b:bY):Yn:=match b with
 |.FunctionDef _ a _ _ _ _ _ _ _ _=>a
 |_=>{posonlyargs:=[],args:=[],vararg:=U,kwonlyargs:=[],kw_defaults:=[],kwarg:=U,defaults:=[]}
def zh(b:bY):List bY:=match b with
 |.FunctionDef _ _ a _ _ _ _ _ _ _=>a
 |_=>[]
def eO(a:bY):jE:=match a with
 |.FunctionDef _ _ _ _ _ _ b _ _ _=>b
 |_=>{kind:=.function,names:=[],isGenerator:=I,isCoroutine:=I}
abbrev CX0:tX:=λ_ _ _ _ _ _=>False
abbrev E0:XK:=λ_ _ _=>False
structure tY(a:cp)(o f:Str)(b:bY)(d:S)(e:oG):Prop where
 ex:Ex9 λ(k:J) (l:?iD) (kV j n:J) (h:?iD) (c i:J) (m:Array ?bH)=>
  e=BU o f (OG b) (zh b) (eO b) .none kV j n h c i/\a.lookup d=Y (k,l,.func e,m)/\TJ a c f=M
 kp:j5 a ?J=M
section
variable{P:eP}{w:dZ}{K:cp}{mg:Str->Option J}{cu:dg}
def tY.g0{i:?d4}(n:tY K m l a o k)(h:∀(kV e f:J) (b:?iD) (c d:J) (j:?aX),R j=R i->bindArgs (BU m l (OG a) (zh a) (eO a) .none kV e f b c d) (j,[])=pure (i.zip j)):?ej K k i:=by let(q,r,kV,e,f,b,c,d,s,0,lk,p):=n.ex;show .all (h kV e f b c d)
end
def lc{c:Nat}(b:ii c a):a.units+1<pS:=aeJ (Nat.add_le_add_left (by decide:1<=64) _) b.units
section
variable{X:Cx}
def N(b:Nat){pos:Pos}(c:?arf (X.N[b]?=Y a))(f:?anc (Dq X.env.scope a))(e:?ade ((a==?F)=I))(d:?ade ((a==("__classdict__":Str))=I)):?am (.Name a pos) (Do b):=ast c f e d
end
def jY(h:a):if I=M then b else a:=by rw[bp kU];show h
def kQ(h:a):if M=M then a else b:=by rw[?eZ];show h
section
variable{κ:Type}[DecidableEq κ]
def amc{b:κ×V}{c:?gK}{a:κ}(d:b.1=a):qo (b::c) a=qo c a:=by unfold qo;rw[afs,bp ?fn]
def YM{b:κ×V}{c:?gK}{a:κ}(d:¬b.1=a):qo (b::c) a=b::qo c a:=by unfold qo;rw[afs,bz ?fn]
def ZN:∀{b:?gK} {k:κ},¬k∈b.map (·.1)->qo b k=b:=by
 intro e
 induction e with
 |nil=>
  intro _ _;show rfl
 |cons i l ih=>
  intro k h;let c:¬k∈l.map (·.1):=λf=>by
   let(j,d,a):=eM.mp f;show h (eM.mpr (j,bM.mpr (cX d),a))
  rw[YM λa=>h (eM.mpr (i,bM.mpr (db Z),a)),ih c]
end
def xH{a b:HO}{d:Prop}(h:a=b)(c:?arf ((Nat.beq a.ctorIdx b.ctorIdx)=I)):d:=by subst h;rw[Nat.beq_refl]at c;cases c
end L2
namespace L2
def hJ(h:dg)(c:S)(d:J)(f:?iD)(i e:J):=
 bN λa b=>?jp=Y a/\a.cls=d/\a.dict=f/\a.data=.fields b/\b[1]?=Y i/\b[2]?=Y e
def mR(h:dg)(d a:S)(e:J):=
 a≠d/\bN λb c=>?ap=Y b/\b.data=.fields c/\c[3]?=Y e
structure FG(d:List S)(e:S)(j:J)(h c:dg):Prop where
 keep:∀a b,?ap=Y b->a≠e->j≠?s->a∉d->?jv=Y b
 slot:∀a b,?ap=Y b->a∈d->∃i,?jv=Y {b with slots:=i}
 there:∀a b,?ap=Y b->∃f,?jv=Y f
section
variable{bZ:sD}{A:eV}{E:J->aO->Prop}{s:aO}{a:S}{c tb cx:J}{d:Option S}{dW:Env}{outer:List Env}{cu:dg}{bg:S}{ah:Unit->aO->Prop}
def oF{h:dg}(e:Obj->Obj)(i:b≠f):(h.update f e).get? b=?ep:=QO h e (bI i)
def AH{h:dg}(b:Nat)(f:J)(k:h.get? i=Y e)(j:e.data=.fields l):(h.update i (vb (·.setIfInBounds b f))).get? i=Y (e.mapFields (·.setIfInBounds b f)):=
 Bz _ k (Gr (yu j (·.setIfInBounds b f)))
theorem TW(b:Obj)(e:?dD->?dD):(b.mapFields e).dict=b.dict:=by let(h,i,f,j):=b;cases f<;>rfl
def Oc(o:?dO s.1 ?av)(x:mR s.1 a b p)(r:∀f,(∀e,e≠b->f.get? e=s.1.get? e)->?dO f ?av->mR f a b .none->ah () {s with heap:=f}):?cM bZ (Cj ?s U) ah:=by
 let(w,z,l,u,v,k,i):=o;let(m,B,y,j,h,q):=x;let n:3<Q y:=(yp.mp q).1;unfold Cj;show bC (rf l k i.1 ?_);rw[bz (show(dR b !=jL)=M from rfl)];show wX j h n (r _ (λe t=>oF _ t) (w,z,?_,u,v,k,i) (m,_,_,AH 3 _ j h,yu h _,?_))
 .rw[oF _ (bI m)];show l
 rw[Kv n];rfl
end
section
variable{bZ:sD}{A:eV}{E:J->aO->Prop}{s:aO}{a:S}{c tb cx:J}{d:Option S}{dW:Env}{outer:List Env}{cu:dg}{bg:S}{ah:Unit->aO->Prop}
def OH(m:A.frames=Y ?cn)(x:?io)(j:dW.frame=Y bg)(e:?dO s.1 tb)(q:∀o p,FG (iO ?cn) a .none s.1 o->?dO o ?jV->mR o a p (nX bg)->?O<=p->ah () {s with heap:=o}):bH bZ A (do
 let f<-frameOf dW;let k<-entryPlaceOf bg i;let b<-Y6 tb f .none (nX bg) .none k
 setField ?s 1 b) ah E s:=by
 let(i,X,y,p,a0,l,v):=e;let o:1<Q X:=(yp.mp v.1).1;let P:a∉iO ?cn:=λe=>by
  let(_,f,z,f):=x.mem e;rw[y]at z;cases z;show f X l
 show bC (wpAny_frameOf_fun m x j λe m=>?_);show bC (wpAny_entryPlaceOf λk C=>?_);unfold Y6 newFields;show bC (vR ?_ (C.sizeOk5 _ _ _ _ _));let B:e.get? a=Y i:=(m.2.1 a P).trans y;generalize w:({cls:=.type "traceback",dict:=U,data:=?eC}:Obj)=n;let x:n.data=?eC:=by rw[<-w]
 let f:n.isFreed=I:=by rw[<-w];rfl
 let t:=iZ (h:=e) n B;let k:(e.push n).get? (Q e.1)=Y n:=ae1 Z f;let H:Q e.1≠a:=Hh (fS B);let u:∀b f,e.get? b=Y f->b≠a->((e.push n).update a (vb (·.setIfInBounds 1 (.ref e.1.size)))).get? b=Y f:=λb f i j=>by
  rw[oF _ j];show ?e1 i
 show wX t l o (q _ e.1.size (λb f i j _ r=>?_,λb f i r=>?_,λb f i=>?_) (_,_,AH 1 _ t l,?_,?_,yu l _,?_) (H,n,_,?_,x,?_) ?_)
 .show u b f ((m.2.1 b r).trans i) j
 .let(T,q):=m.2.2 b f i;show(T,u b _ q λe=>P (e▸r))
 .by_cases j:b=a
  .subst j;show(_,AH 1 _ t l)
  let(T,q):=m.2.2 b f i;show(_,u b _ q j)
 .rw[Ly];show p
 .rw[TW];show a0
 .show(Kv o,by rw[S9 ?i];show v.2)
 .rw[oF _ H];show k
 .rcases C with rfl|⟨_,_,_,_,_,_,_,rfl⟩<;>simp
 show Ea m.1.symm
def M7(B:A.frames=Y ?cn)(q:?io)(p:dW.frame=Y bg)(t:?dO s.1 tb)(b:tb=.none\/∃e,tb=?aY/\mR s.1 a e .none)(y:∀j e,FG (iO ?cn) a tb s.1 j->?dO j ?aY->mR j a e (nX bg)->?O<=e->ah () {s with heap:=j}):?cM bZ (vh ?s dW) ah:=by
 let(X,r,C,m,o,z,w):=id t;unfold vh;simp only[p];show bC (rf C z w.1 ?_);rcases b with rfl|⟨e,rfl,T,b,P,l,n,x⟩
 .rw[bp ?i]
  show OH B q p t y
 rw[bz (show(dR e !=jL)=M from rfl)];show bC (rf l n x ?_);rw[bp (show¬((jL==nX bg)=M)from by simp[nX])]
 let b:3<Q P:=(yp.mp x).1;show bC (wX l n b ?_);let H:∀b f,?fh=Y f->(∀r,f.data≠.fields r)->b≠e:=λb f h k i=>by
  subst i;rw[l]at h;cases h;show k P n
 let t:(?a8 e).FunFrames cu ?cn:=q.of_keeps λb f h k=>(f,by rw[oF _ (H b f h k)];show h,Z)
 let v:∀b∈iO (dW::outer),b≠e:=λb h=>by
  let(_,f,u,k):=q.mem h;show H b f u k
 show OH (s:={s with heap:=?a8 e}) B t p (X,r,by rw[oF _ (bI T)];show C,m,o,z,w) λj u o k p T=>y j u (λb f h j X m=>?_,λb f h m=>?_,λb f h=>?_) k p ?_
 .show o.keep b f (by rw[oF _ (λi=>X (by rw[i]))];show h) j (λi=>nomatch i) m
 .show o.slot b f (by rw[oF _ (v b m)];show h) m
 .by_cases i:b=e
  .subst i;show o.there b _ (AH 3 _ l n)
  show o.there b f (by rw[oF _ i];show h)
 let v:(?a8 e).1.size<=u:=T;rw[afq]at v;show v
def aqk(x:A.frames=Y ?cn)(y:?io)(w:dW.frame=Y bg)(p:?dO s.1 tb)(H:tb=.none\/∃b,tb=?av/\mR s.1 a b .none)(t:∀k b,FG (iO ?cn) a tb s.1 k->?dO k ?av->mR k a b .none->?O<=b->ah () {s with heap:=k}):?cM bZ (Fa dW ?s) ah:=by
 unfold Fa;show bC (M7 x y w p H λq b n z P j=>?_);show Oc (s:={s with heap:=q}) z P λr o B T=>t r b (λe i f v u m=>?_,λe i f m=>?_,λe i f=>?_) B T j
 .let h:e≠b:=jS (jw (fS f) j);show(o e h).trans (n.keep e i f v u m)
 .let h:e≠b:=jS (jw (fS f) j);let(C,l):=n.slot e i f m;show(C,(o e h).trans l)
 let h:e≠b:=jS (jw (fS f) j);let(X,l):=n.there e i f;show(X,(o e h).trans l)
end
def jt.get{h:dg}{a:S}(x:jt f k e h a c):∃d,?ap=Y d:=by
 cases c with
 |lst l=>let(_,_,_,_,b):=x;show(_,b)
 |tup l=>let(_,_,_,(_,b,_),_):=x;show(_,b)
 |dK j=>let(_,_,_,_,c,_,_,b,_):=x;show(_,b)
 |dT j=>let(_,_,_,_,c,_,_,b,_):=x;show(_,b)
 |set o s=>let(c,_,_,_,b,_):=x;show(_,b)
 |ins n p i=>let(_,_,_,b,_):=x;show(_,b)
 |own m=>show x
 |xd i=>let(_,(_,_,_,b,_),_):=x;show(_,b)
 |Kf lo r=>let(_,_,_,b):=x;show(_,b)
 |eI t d=>let(b,_):=x;show(_,b)
 |zZ u=>show(_,x)
 |met q m=>show(_,x)
 |ext v=>let(_,b,_):=x;show b
def iN.Py{h j:dg}(p:iN f k e h)(n:∀b d,e b≠U->?ep=Y d->j.get? b=Y d):iN f k e j:=λl o i=>
 (p l o i).qx (λb d m c=>n b d (by rcases m with a|a<;>rw[a]<;>first|(rw[i];show λa=>nomatch a)|show λa=>nomatch a) c) (λ_ c=>c) λ_ _ c=>c
def fz(l:eP)(o:dZ):tX:=λn k e h m b=>vJ λ(c f j d:S) (a:L) (i:J)=>m=?aC/\b.os=e.os/\yW b.gens/\Un (iO n) [] k a e.1 b.1/\iN l o a b.1/\hJ b.1 c ?bL (Y j) ?J i/\mR b.1 c d .none/\a c=U/\a d=U/\Q e.1.1<=c/\Q e.1.1<=d/\h ?bL (Y j) a/\(i=.none\/h .none U a)
section
variable{P:eP}{w:dZ}{K:cp}{mg:Str->Option J}{cu:dg}{aM:List Str}{bX:Str}{aX:jE}{f:S}{cd:J}{A:eV}{outer:List Env}{s:aO}{H:L}{E:XK}
def m9(h:Inv (?e aX f cd A outer s H E) b2 c2 i o)(a0:hJ o.1 k (.ref t) (Y v) r u)(B:r=.none\/∃j,r=?dh/\mR o.1 k j .none/\i j=U/\?O<=j)(X:i k=U)(C:?O<=k)(a3:E (.ref t) (Y v) i)(a4:u=.none\/E .none U i):(?e aX f cd A outer s H E).xe ?gM o:=by
 let b6:=h.stack;let a7:∀a∈iO (fG bX aX s.1.1.size f cd::outer),i a=U:=h.Fn;change ?iK (A.deeper ?an) (Fa ?an ?gM) _ _ o;show aqk (cu:=cu) (outer:=outer) (bg:=s.1.1.size) h.ok.frames b6 Z a0 (B.imp_right λ(j,b,x,_)=>(j,b,x)) λc3 j q b4 c0 T=>?_;let n:Un (iO outer) [] H i s.1 o.1:=h.base;let b0:∀a c,?b5=Y c->a≠k:=λa c b d=>by
  subst d;show ?b2 (?f8 C)
 let b1:∀a c,?b5=Y c->r≠?s:=λa c b d=>by
  rcases B with m|⟨a1,m,_,_,b3⟩
  .rw[m]at d;cases d
  rw[m]at d;cases d;show ?b2 (?f8 b3)
 let a8:∀a c,?b5=Y c->a∉iO outer->a∉iO ?eG:=λa c b e z=>by
  let z:a∈s.1.1.size::iO outer:=z;rcases bM.mp z with d|d
  .rw[d]at b;show ?b2 (fS b)
  show e d
 let a5:∀a,a∈iO outer->a∈iO ?eG:=λa e=>gY s.1.1.size e;show(k,t,v,j,i,u,Z,h.os,h.bare,(λa c b p e l=>?_,λa c b p e l=>?_,λa c b p l=>n.free a c b p l,λa c b l=>?_,n.5,n.6,n.7),h.bU.Py λa c1 e b=>?_,b4,c0,X,h.bU.fresh T,C,fZ h.sz T,a3,a4)
 .show q.keep a c (n.keep a c b p e l) (b0 a c b) (b1 a c b) (a8 a c b e)
 .let(c4,y):=n.slot a c b p e l;let(b5,a2):=q.slot a _ y (a5 a e);show(b5,a2)
 .let(a9,y):=n.there a c b l;show q.there a a9 y
 show q.keep a c1 b (λd=>e (by rw[d];show X)) (λd=>?_) λd=>e (a7 a d)
 rcases B with m|⟨a1,m,_,a6,_⟩
 .rw[m]at d;cases d
 rw[m]at d;cases d;show e a6
def tO:e6 (fz P w) (?e aX f cd A outer s H E) E:=by
 intro r B T v a u a k;let(X,C,b,e,c,b,0,n,m,y,o,t,x,q,p,i,h,j,l):=k;let d:Inv (?e aX f cd A outer s H E) r B c u:=a.Dd (ch:=[]) n y o m λb z=>?fO z
 let b:?O<=Q v.1.1:=a.sz;show m9 d t (.inr (e,Z,x,p,fZ b h)) q (fZ b i) j l
def lZ:Yt ?iT (?e aX f cd A outer s H E).A (?e aX f cd A outer s H E).env (?e aX f cd A outer s H E).xe:=
 Yt.leaving (Q₁:=λa b=>fz P w outer H s E a b)
end
open PySem.W (Looks)
def IU:?aX->Bool
 |.ref _::a=>IU a
 |l=>l==[?d9,?ca,?gX]
def IK(b:cp)(a:S):Bool:=(PySem.W.clsIn b a).any λc=>IU c.mro
theorem Xw(self:J):∀{l:?aX},IU l=M->refuseLoop self "__setattr__" l=pure ()
 |.ref e::b,a=>by
  rw[refuseLoop_ref];show Xw self (l:=b) (by cases b<;>first|show a|cases a)
 |.type c::b,a=>by
  let d:(xp c::b)=[?d9,?ca,?gX]:=beq_iff_eq.mp a;rw[d];show PySem.F.store_Exception.passes self
 |[],a=>by cases a
 |.none::_,a=>by cases a
 |.bool _::_,a=>by cases a
 |.int _ _::_,a=>by cases a
 |.float _ _::_,a=>by cases a
 |.str _ _::_,a=>by cases a
 |.bytes _ _::_,a=>by cases a
 |.builtin _::_,a=>by cases a
theorem E2:∀{l:?aX},IU l=M->l.contains ?gX=M
 |.ref e::b,a=>by
  rw[wR,E2 (l:=b) (by cases b<;>first|show a|cases a),DY]
 |.type c::b,a=>by
  let d:(xp c::b)=[?d9,?ca,?gX]:=beq_iff_eq.mp a;rw[d];decide
 |[],a=>by cases a
 |.none::_,a=>by cases a
 |.bool _::_,a=>by cases a
 |.int _ _::_,a=>by cases a
 |.float _ _::_,a=>by cases a
 |.str _ _::_,a=>by cases a
 |.bytes _ _::_,a=>by cases a
 |.builtin _::_,a=>by cases a
section
variable{dm:eP}{w:dZ}{A:eV}{E:J->aO->Prop}{s:aO}{K:cp}{x C:S}{name:Str}{v:J}
def ary(h:dg):?iD->Option Obj->Prop
 |some a,Y b=>?ap=Y b
 |none,U=>True
 |_,_=>False
def Px{od:Option Obj}(i:hJ s.1 x ?bC b h d)(l:ary s.1 b od):∃c,LY s.1 x c C od/\c.dict=b/\∃a,c.data=.fields a/\a[1]?=Y h/\a[2]?=Y d:=by
 let(n,a,m,k,f,e,j):=i;show(n,(m,k,by unfold PySem.W.notCls;rw[e],?_),f,a,e,j)
 rw[f];cases b<;>cases od<;>show l
def P6{b:Fo->aO->Prop}(i:K.In s.1)(f:LY s.1 x u C t)(p:IK K C=M)(q:?gs name=Y U)(h:bH ?fu A.in1 (avg ?eJ ?bC (.str name e) name v I) (λfin d=>match fin with|.done n=>b (.ok n) d|.again k=>k.quiet=M/\vp ?fu A k b d) (λm d=>b (.error m) d) s):vp ?fu A (.call ?b6 ([?eJ,.str name e,v],[])) b s:=by
 let a:=PySem.F.store_object;let(j,l,c):=LG p;let r:j.mro.isEmpty=I:=by
  rcases y:j.mro with _|⟨_,_⟩
  .rw[y]at c;cases c
  rfl
 let z:rG ?fu s.1 (isInstance ?eJ ?gX) M:=
  f.type.andThen (Z0 i (by unfold Ur;rw[l,LF,bp (by rw[r];decide),E2 c]))
 show Rh a.slot.plain a.entry (@aeL ?fu _ _ s "object.__setattr__" "object" "__setattr__" ?eJ [.str name e,v] [] _ a.kind a.split z (a.args ?eJ (.str name e) v) ?_)
 let o:rG ?fu s.1 (mroOf ?bC) j.mro:=(La i l).andThen .now;rw[PySem.W.osa_eq,refuse_eq];show bC (bC (f.type.here (bC (o.here ?_))));rw[Xw _ c];show dA (bC (f.type.here (bC ((Gw i q).here (bC ?ek)))));show h
def atz{n:Unit->aO->Prop}(j:K.In s.1)(z:hJ s.1 x ?bC U y o)(m:?gs "__setattr__"=Y (Y ?b6))(d:IK K C=M)(p:?gs name=Y U)(l:DM K C=M)(h:∀c,hJ c x ?bC (Y s.1.1.size) y o->c.Ns1 s.1.1.size (λe=>if e=name then Y v else U)->(∀b a,b≠x->?fh=Y a->c.get? b=Y a)->n () {s with heap:=c,toks:=s.toks+2}):?ax (Fd ?eJ name v) n:=by
 let(e,f,k,n,i,T):=Px (od:=U) z trivial;show RU j f m (P6 (s:={s with toks:=s.toks+1}) j f d p ?_);let(d,X,d):=LG l;let m:=f.at_;let q:=f.cls;show bC (dA (bC (bC (TN m ?_))));rw[q];show bC (?gn (La j X));rw[d,k];let d:e.isFreed=I:=Gr i;let u:x≠?O:=jS (fS m);rw[bp ?i]
 dsimp only;rw[bp (by simp[typeHasDict]),i]
 dsimp only;let p:(?ad).get? x=Y e:=?e1 m;show bC (wpAny_alloc ?_);show bC (wpAny_update (s:={s with heap:=?ad,toks:=s.toks+1}) p ?_);show ?ek;generalize l:((?ad).update x λa=>{cls:=a.cls,dict:=Y s.1.1.size,data:=a.data,slots:=a.slots})=g;let P:g.get? x=Y {cls:=e.cls,dict:=Y s.1.1.size,data:=e.data,slots:=e.slots}:=by
  rw[<-l];show Bz _ p (Gr i)
 let B:g.get? ?O=Y {cls:=?fv,data:=.dict #[]}:=by
  rw[<-l,oF _ (bI u)];show ae1 Z Z
 let H:∀b a,b≠x->?fh=Y a->g.get? b=Y a:=λb a k d=>by
  rw[<-l,oF _ k];show ?e1 d
 let f:g.Ns s.1.1.size (λ_=>U):=(_,#[],_,B,Z,λd e=>?fO e,λ_=>rfl)
 change ?aE (Kw s.1.1.size (.str name s.toks) name v) _;unfold Kw S_;show bC (dA (bC (Vj (s:={s with heap:=g,toks:=s.toks+1}) (ae0 f) λc r t=>?_)));let(e,e,e,j,f,e):=r.count (RV name v awk);show bC (SA j (by rw[f];show Sy (fZ e (by rw[lO,uX,fU];lia))) ?_)
 show dA (h c (_,n,(t.2 x u).trans P,q,Z,i,T) r λb a k d=>(t.2 b (jS (fS d))).trans (H b a k d))
def atA{i:Unit->aO->Prop}(e:K.In s.1)(u:hJ s.1 x ?bC (Y a) r j)(p:s.1.Ns1 a f)(a0:a≠x)(n:?gs "__setattr__"=Y (Y ?b6))(m:IK K C=M)(o:?gs name=Y U)(k:DM K C=M)(z:Hk f q)(d:R q<cw)(h:∀b,hJ b x ?bC (Y a) r j->b.Ns1 a (λt=>if t=name then Y v else f t)->(∀c,c≠a->b.get? c=s.1.get? c)->i () {s with heap:=b,toks:=s.toks+2}):?ax (Fd ?eJ name v) i:=by
 let(od,f,_):=NH p;let(i,d,l,j,X,y):=Px (od:=Y od) u f;show RU e d n (P6 (s:={s with toks:=s.toks+1}) e d m o ?_);let(f,B,P):=LG k;let o:=d.at_;let k:=d.cls;show bC (dA (bC (bC (TN o ?_))));rw[k];show bC (?gn (La e B));rw[P,l,bp ?i]
 show ?ek;change ?aE (Kw a (.str name s.toks) name v) _;unfold Kw S_;show bC (dA (bC (Vj (s:={s with toks:=s.toks+1}) p λb m n=>?_)));let(a,a,a,a,T,H):=m.count (RV name v z);show bC (SA a (by rw[T];show Sy (fZ H (by rw[lO];lia))) ?_)
 show dA (h b (i,j,(n.2 x (bI a0)).trans o,k,l,X,y) m λc z=>n.2 c z)
end
open PySem.W (Looks)
def excIn(d:cp)(c:S):Bool:=(d.lookup c).any λb=>match b.data with
 |.cls a=>b.cls==.type "type"&&(a.mro.head?==Y ?aC&&(!a.hasDel&&(b.slots.toList.length==6&&(b.slots.toList[4]?==Y (Y (.builtin "Exception.__new__"))&&(a.mro.tail.contains ?ca&&(a.mro.tail.contains ?d9&&(!a.mro.tail.contains (.type "AttributeError")&&!a.mro.tail.contains (.type "NameError"))))))))
 |_=>I
structure ww(h:dg)(a:S)(b:Obj)(bm:List J):Prop where
 at_:?ap=Y b
 shape:at6 λp q c e j r s d f i k l m n o=>b=excClassObj p q a c e bm j r s d f i k l m n o "Exception.__new__"
 base:bm.contains ?ca=M
 exc:bm.contains ?d9=M
 bc:bm.contains (.type "AttributeError")=I
 name:bm.contains (.type "NameError")=I
def OI{c:cp}{h:dg}(i:c.In h)(a:excIn c b=M):bN λe bm=>ww h b e bm:=by
 unfold excIn at a;rcases d:c.lookup b with _|e
 .rw[d]at a;cases a
 rw[d]at a;let(b,p,o,⟨l⟩):=e;cases o with
 |cls m=>
  let(E,k,C,H,P,s,T,X,j,n,del):=m;simp only[Option.any_some,ik,jT,GL]at a;let(0,f,0,u,w,r,t,q,v):=a;rcases C with _|⟨b,bm⟩
  .cases f
  cases f;rcases l with _|⟨x,_|⟨y,_|⟨z,_|⟨A,_|⟨b,_|⟨B,_|⟨b,l⟩⟩⟩⟩⟩⟩⟩<;>try(simp at u;done)
  cases w;show(_,bm,(i _ _ d,(E,P,H,k,s,T,X,j,n,p,x,y,z,A,B,Z),r,t,q,v))
 |_=>cases a
section
variable{bZ:sD}{A:eV}{E:J->aO->Prop}{h:dg}{g:Array EJ}{d:Drawn}{t:Nat}{os:OsState}{C:S}{o:Obj}{bm:List J}
def arw{rest:?aX}{c:Unit->aO->Prop}(e:ww h C o bm)(j:c () (h,g,d,t,os)):bH bZ A (afB "Exception.__new__" (?bC::rest,[])) c E (h,g,d,t,os):=by
 let(b,(B,H,k,m,s,P,X,l,n,p,v,w,x,y,z,0),r,i,q,u):=e;let a:=QH;let f:(dR C::bm).contains ?d9=M:=by rw[wR,i,DY]
 let T:=a.noStar;simp only[afB,a.newKind,a.newSplit,a.newRow]
 repeat(first
  |show yA b ?_
  |(show GC b ?_;rw[f])
  |show wpAny_staticBase_exc b ?_
  |show afG b ?_
  |simp only[bne_self_eq_false,yt,if_false]
  |wp_step)
 show j
end
section
variable{dm:eP}{w:dZ}{A:eV}{h:dg}{g:Array EJ}{d:Drawn}{t:Nat}{os:OsState}{C:S}{o:Obj}{bm:List J}
abbrev uB(rest:?aX):Obj:={cls:=?ay,data:=.seq rest.toArray}
abbrev sA(C t:S):Obj:={cls:=?bC,data:=.fields #[.ref t,.none,.none,.none,.bool I,.none]}
def atY{rest:?aX}{b:Fo->aO->Prop}(e:ww h C o bm)(a:rest.length<=cw)(n:b (.ok (.ret (.ref (Q h.1+1)))) ?bQ):vp ?fu A (.builtin "Exception.__new__" (?bC::rest,[])) b (h,g,d,t,os):=by
 let(c,(X,a,p,s,z,a,a,q,u,v,B,E,H,P,T,0),y,l,k,m):=e;let a:=QH;let x:=a.ends;let i:(dR C::bm).contains ?d9=M:=by rw[wR,l,DY]
 let f:(dR C::bm).contains (.type "AttributeError")=I:=by rw[wR,k];rfl
 let j:(dR C::bm).contains (.type "NameError")=I:=by rw[wR,m];rfl
 show codeAny_builtinAt a.entry ?_
 (unfold Builtin.«BaseException.__new__»;show af8 ?_)
 change PySem.wpAt _ _ _ (stack>>=_) _ _ _;show af8 (PySem.wpAt_stack λe r=>Z1 ?_)
 (wp_walk;show Z1 ?_;rw[a.owner])
 repeat(first
  |with_reducible refine wpAny_madeHere_exc a.canon c ?_
  |with_reducible refine yA c ?_
  |(with_reducible refine GC c ?_;first|rw[i]|rw[f]|rw[j])
  |wp_step)
 change ?ga;rw[qb];show n
def as5{K:cp}{rest:?aX}{j:Fin->aO->Prop}(k:K.In h)(l:ww h C o bm)(y:?gs "__init__"=Y ?j5)(x:TK K ?av=Y (.type "function"))(X:rest.length<=cw)(z:bH ?fu A (px ?av (.ref (Q h.1+1)::rest)) (λn p=>n=.none/\j (.done (.ret (.ref (Q h.1+1)))) p) i ?bQ):bH ?fu A (Builtin.«type.__call__» (?bC::rest,[])) j i (h,g,d,t,os):=by
 let m:=l;let(c,(a,a,a,a,a,a,a,a,a,a,a,a,a,a,a,0),a,a,a,a):=l;let q:=QH
 repeat(first
  |with_reducible refine yA c ?_
  |with_reducible refine afG c ?_
  |wp_step)
 show codeAny_call_builtin_code (aeC _ q.quiet) (arw m ?_);show atY m X ?_;change ?aE _ _;let f:∀a e,?ap=Y e->((h.push (uB rest)).push (sA C h.1.size)).get? a=Y e:=λa e u=>?e1 (?e1 u);let E:=f _ _ c;let H:((h.push (uB rest)).push (sA C h.1.size)).get? (Q h.1+1)=Y (sA C h.1.size):=by
  let P:=kh (h.push (uB rest)) (o:=sA C h.1.size) Z
  rwa [qb]at P
 let r:(dR C::bm).contains ?bC=M:=by simp
 unfold isInstance
 repeat(first
  |with_reducible refine yA H ?_
  |(with_reducible refine GC E ?_;rw[r])
  |wp_step)
 change ?aE (HD ?bC _) _;show MY (s:=?bQ) ((Gw k y).keeps f) ?_;show wZ (bC (MY (s:=?bQ) ((af5 k (.ref (Q h.1+1)) x).keeps f) ?_));show bC (kX z (λn p B=>?_) λ_ _ T=>T);let(0,v):=B
 wp_walk
 show v
def O2{K:cp}{rest:?aX}{f:J->aO->Prop}{a:aO}(i:K.In a.1)(p:excIn K C=M)(n:?gs "__init__"=Y ?j5)(m:TK K ?av=Y (.type "function"))(u:rest.length<=cw)(q:bH ?fu (A.under (?ct (?bC::rest,[]))) (px ?av (.ref ?N::rest)) (λr s=>r=.none/\f (.ref ?N) s) e {a with heap:=(a.1.push (uB rest)).push (sA C a.1.1.size)}):bH ?fu A (px ?bC rest) f e a:=by
 let(k,g,d,t,os):=a;let(o,bm,j):=OI (h:=k) i p;let l:=j;let(c,(a,a,v,y,P,a,a,x,z,B,a,a,a,a,a,0),H,T,E,X):=j;let a:=tc_lookup;let a:=tc_bind ?bC;let a:((k,g,d,t,os):aO).TypeIs ?bC "type":=(_,c,Z);show yM (codeAny_of_tree ?_);change ?aE (callAny ?bC _) _
 repeat(any_goals(first
  |assumption
  |with_reducible refine yA c ?_
  |wp_step))
 show(rfl,codeAny_call_builtin_at (aeC _ ?w) entry_typeCall (wpAny_check_type_call_sub c (as5 (K:=K) i l n m u ?_)))
 show q
end
open PySem.W (Looks)
def xo(b a:S)(c:?iD):HO:=.ext λh=>?es h b ?s c
def xc(b a d:S):HO:=.ext λh=>bN λe c=>hJ h b ?s (Y d) e c
def wD(h:dg)(d:S)(a:?cq):=∃b,h.Ns1 d b/\(∀c,on (a.lookup c) (b c))/\Hk b (a.map (·.1))/\R a<=1000
def pW(a:S)(b:?cq):HO:=.ext λh=>wD h a b
structure oN(b:cp)(a:S):Prop where
 sa:i_ b ?s "__setattr__"=Y (Y ?b6)
 eo:IK b a=M
 hd:DM b a=M
 ei:excIn b a=M
 ga:i_ b ?s "__getattribute__"=Y (Y (.builtin "BaseException.__getattribute__"))
 gh:i_ b ?s "__getattr__"=Y U
 sb:Ur b a ?ca=Y M
def auj{b:aO}{k:cp}{name:Str}{p:J->aO->Prop}(f:k.In b.1)(o:LY b.1 e C d r)(m:oN k d)(x:PySem.W.findObj k d r name=Y (.value j))(y:Su j=M)(h:p j {b with toks:=b.toks+1}):bH (bQ a c) s (EZ ?aY name n) p t b:=by
 let q:=PySem.F.attr_Exception;let(z,g,w,i,B):=b;let l:=o.type (M:=bQ a c);let u:=Gw (M:=bQ a c) f m.ga;let L2:=Gw (M:=bQ a c) f m.gh;let v:=PySem.W.looks_find (M:=bQ a c) f o x;let A:(?fR==He "object.__getattribute__")=I:=by decide+kernel
 unfold EZ getAttrBy;show bC (wpAny_mkText (wZ (bC (l.at (bC (u.at ?_))))));dsimp only;rw[show(Yz (dR d)&&?fR==He "object.__getattribute__")=I from by rw[A,GX],bp ?i]
 unfold getAttrByItsOwn hookBefore;rw[bz (show Yz (dR d)=M from rfl)];show bC (L2.at (bC (Mi (wZ ?_))));unfold callGetattribute;rw[show(n&&Yz ?fR)=I from by cases n<;>rfl,bp ?i]
 unfold boundAndCalled;rw[q.ga.bind];show bC ?ek;change ?aE (px (.builtin "BaseException.__getattribute__") [?aY,.str name i]) _;show yM (Rh q.ga.plain PySem.F.entry_bexc_ga ?_);show@aeL (bQ a c) _ _ (z,g,w,i+1,B) "BaseException.__getattribute__" "BaseException" "__getattribute__" ?aY [.str name i] [] _ ?w ?w (l.andThen (Z0 f m.sb)) (PySem.F.args_bexc_ga ?aY (.str name i)) ?_
 show bC (dA (bC (dA (bC (l.at (bC (v.at ?_)))))));show ?ek;change ?aE (handedOut j) _;rw[PySem.W.handedOut_of y];show dA h
theorem hJ.there{h:dg}(j:hJ h b c e i d):∃a,?ep=Y a:=by let(a,_,f,_):=j;show(a,f)
def hJ.same{h f:dg}(n:hJ h a c e i d)(k:∀b,?ap=Y b->f.get? a=Y b):hJ f a c e i d:=by let(b,m,j,l):=n;show(b,m,k _ j,l)
def Ns1.same{h c:dg}(l:h.Ns1 a d)(j:∀b,?ap=Y b->?jv=Y b):c.Ns1 a d:=by let(b,i,f,e,k):=l;show(b,i,f,j _ e,k)
theorem wD.same{h c:dg}(k:wD h a b)(e:∀d,?ap=Y d->?jv=Y d):wD c a b:=by let(f,i,j):=k;show(f,Ns1.same i e,j)
theorem wD.there{h:dg}(e:wD h b d):∃a,?ep=Y a:=by let(_,(a,_,_,c,_),_):=e;show(a,c)
section
variable{P:eP}{w:dZ}{H:L}{h:dg}{a C dx:S}{d:Option S}{fs:List (Str×V)}
def Q7(b:?es h a ?bC d):?eh a (xo a C d):=(b,b.there,λ_ _ e c=>e.same c)
def atZ(e:hJ h a ?bC (Y dx) c b):?eh a (xc a C dx):=((c,b,e),e.there,λ_ _ (i,f,q) k=>(i,f,q.same k))
def Q6(b:wD h dx fs):?eh dx (pW dx fs):=(b,b.there,λ_ _ e c=>e.same c)
def Jz(c:?bS)(b:H a=Y (xo a C d)):?es h a ?bC d:=(c a _ b).1
def as6(e:?bS)(c:H a=Y (xc a C dx)):bN λf b=>hJ h a ?bC (Y dx) f b:=(e a _ c).1
def O3(c:?bS)(b:H dx=Y (pW dx fs)):wD h dx fs:=(c dx _ b).1
end
section
variable{X:Cx}{ap:List (S×Obj)}{σ:St}{H:L}{s:aO}{a C dx:S}{fs:List (Str×V)}{f:Str}{v:V}{A:eV}{E:J->aO->Prop}
def asD{h:dg}(m:hJ h a d i l e)(n:wD h dx fs):dx≠a:=λo=>by
 subst o;let(t,w,j,_,_,k,_):=m;let(r,(u,q,p,b,c,_),_):=n;rw[j]at b;cases b;rw[k]at c;cases c
def aoQ{u:J}{z:Unit->aO->Prop}(m:?f H s)(q:H a=Y (xo a C U))(i:oN X.K C)(j:eA X.K C f)(k:RelV p u)(h:∀P dx,H dx=U->dx≠a->?f (D (?j3 (xo a C (Y dx))) dx (pW dx [(f,p)])) P->z () P):?cM ?u (Fd ?s f u) z:=by
 let c:=Jz m.bU q;let r:H ?O=U:=m.bU.fresh ?a2;let e:?O≠a:=λd=>by rw[d,q]at r;cases r
 show atz m.iH c i.sa i.eo j i.hd λh' B c t=>h _ s.1.1.size r e ?_;let T:wD h' s.1.1.size [(f,p)]:=by
  show(_,c,λg=>?_,λg e=>?_,by change 1<=1000;decide)
  .change on (vX g [(f,p)]) (if g=f then Y u else U);by_cases c:g=f
   .subst c;simp only[vX,beq_self_eq_true,if_true];show k
   let x:(g==f)=I:=beq_eq_false_iff_ne.mpr c;simp only[vX,x,bp c];show yK
  by_cases c:g=f
  .subst c;simp
  show bK (bp c) e
 let l:∀b u,H b=Y u->u≠xo a C U->b≠a:=λb u c e d=>by
  rw[d,q]at c;show e (gR c).symm
 let e:∀b u,H b=Y u->b≠?O:=λb u c d=>by
  rw[d,r]at c;cases c
 let y:∀b,H b=U->b≠a:=λb c d=>by
  rw[d,q]at c;cases c
 let o:∀{b u},H b=Y u->b≠a->?jM (?j3 (xo a C (Y s.1.1.size))) (pW s.1.1.size [(f,p)]) b=Y u:=λ{b u} c x=>by
  rw[cY (e b u c),cY x];show c
 show m.un (h':=h') (t':=s.toks+2) (λb e c j _ _=>t b e (y b j) c,λb e c j _ _=>(e.slots,t b e (y b j) c),λb e c j _=>?_,λb e c _=>?_,λb p c=>o c (?et b c),λb e u c=>o c (?et b c),λb k c=>(#[],by rw[o c (?et b c)];simp)) λb u c=>?_
 .rw[cY (jS (fS c)),cY (y b j)];show j
 .by_cases d:b=a
  .rw[d];show B.there
  show(e,t b e d c)
 by_cases d:b=?O
 .rw[d,bD]at c;cases c;rw[d];show Q6 T
 rw[cY d]at c;by_cases w:b=a
 .rw[w,bD]at c;cases c;rw[w];show Q7 B
 rw[cY w]at c;show(m.bU b u c).qx (λi e n k=>t i e ?_ k) (λi k=>o k (?et i k)) λi p k=>o k (?et i k);rcases n with n|n
 .rw[n];show w
 show ?et i n
def aoR{m:Unit->aO->Prop}(d:?f H s)(e:H a=Y (xo a C (Y dx)))(o:H dx=Y (pW dx fs))(j:oN X.K C)(P:eA X.K C f)(b:R fs<1000)(a0:RelV c i)(h:∀r,?f (D H dx (pW dx (dS f c fs))) r->m () r):?cM ?u (Fd ?s f i) m:=by
 let n:=Jz d.bU e;let k:=O3 d.bU o;let b:=asD n k;let(p,T,m,t,_):=k;show atA d.iH n T b j.sa j.eo P j.hd t (by rw[ft,fU];lia) λb b l B=>h _ ?_
 show d.write (x:=dx) (e:=dx) (by rw[o];show yK) ?aG (λu q y b=>(B u y).trans b) (let(q,_,_,w,_):=l;(q,w)) (Q6 (_,l,λg=>?_,λg z=>?_,?_))
 .rw[MQ];by_cases b:g=f
  .rw[bz b,bz b];lia
  rw[bp b,bp b];show m g
 .by_cases b:g=f
  .rw[b];show(EC f c fs).1
  show(EC f c fs).2 g (t g λd=>z ?_);change(if g=f then Y i else p g)=U;rw[bp b];show d
 have:=MP f c fs
 lia
def ap3{d:J->aO->Prop}(b:?f H s)(p:H a=Y (xc a C dx))(q:H dx=Y (pW dx fs))(e:oN X.K C)(x:eA X.K C f)(l:fs.lookup f=Y v)(h:∀c j,?f H j->?jq c->d c j):?cM ?u (EZ ?s f n) d:=by
 let(T,B,m):=as6 b.bU p;let(w,y,z,_,_):=O3 b.bU q;let(c,u,i):=on.j8 (v:=v) (o:=w f) (by rw[<-l];show z f)
 let(od,t,r):=NH y;let(P,k,_,_):=Px (od:=Y od) m t;show auj b.iH k e (Y_ e.hd x Z (by rw[r,u])) (YT i) (h c _ (b.tok _) i)
end
def Q4(e:cp)(l:TE)(f:Str):TE:=λn j k=>l n j λm b=>mv λc a d h i=>m=?aC/\b c=Y (xc c a d)/\b d=Y (pW d h)/\oN e a/\eA e a f/\h.lookup f=Y i/\k i b
def asE(f:cp)(l m:TE)(h:Str):TS:=λi e j=>m e j λo k=>l e k λn d=>bN λa c=>n=?s/\d a=Y (xo a c U)/\oN f c/\eA f c h/\∀b,d b=U->b≠a->i.nx e (D (D d a (xo a c (Y b))) b (pW b [(h,o)]))
def asF(h:cp)(m n:TE)(i:Str):TS:=λj f k=>n f k λp l=>m f l λo c=>mr λd b a e=>o=?J/\c d=Y (xo d b (Y a))/\c a=Y (pW a e)/\oN h b/\eA h b i/\R e<1000/\j.nx f (D c a (pW a (dS i p e)))
section
variable{X:Cx}{o e kG:dz}{f:Str}{pos ou:Pos}{ta tv:TE}
def aqz(r:?am e ta)(q:yF e f X.env (?V e)=?V e):?am (.Attribute e f pos) (Q4 X.K ta f):=by intro t y B a E c h;show D3 q (df (r t y B a _ c h) λz T v=>?_);let(a,b,d,x,j,C,H,P,A,p,m,n,k,s,l,u):=v;subst p;obtain rfl:z=dR j:=x;show ap3 d m n k s l λa a i w=>(A,b,i,w,u)
def w6(s:?am o ta)(u:?am kG tv)(t:?fB kG (Y (?dq f ou))=pure I):?gt (asE X.K ta tv f):=by intro b P a c d i h;show QA (df (u b P a c _ i h) λc T B=>?_) t;let(c,d,j,H,z):=B;show df (s b T a d _ j z) λy b C=>?_;let(b,b,k,E,m,b,r,q,n,v,A):=C;subst r;obtain rfl:y=dR m:=E;show aoQ k q n v H λb p w x l=>(a,_,l,A p w x)
def w8(t:?am o ta)(v:?am kG tv)(u:?fB kG (Y (?dq f ou))=pure I):?gt (asF X.K ta tv f):=by intro b H a c d i h;show QA (df (v b H a c _ i h) λc P B=>?_) u;let(c,d,j,E,y):=B;show df (t b P a d _ j y) λx b z=>?_;let(b,b,k,C,n,T,b,b,s,q,r,p,w,l,A):=z;subst s;obtain rfl:x=dR n:=C;show aoR k q r p w l E λb m=>(a,_,m,A)
end
open PySem.W (Looks)
def del(b:L)(c:S):L:=λa=>if a=c then U else b a
def Jn(h:a≠c):del b c a=b a:=bp h
def Ig:del b a a=U:=?eZ
section
variable{X:Cx}{ap:List (S×Obj)}{σ:St}{H:L}{s:aO}{a C:S}
def Inv.drop(d:?f H s)(p:H a=Y (.ext o)):?f (del H a) s:=by
 let j:∀{b},H b=U->del H a b=U:=λ{b} c=>by
  unfold del;split
  .rfl
  show c
 let h:∀{b u},H b=Y u->u≠.ext o->del H a b=Y u:=λ{b u} c r=>by
  rw[Jn (λe=>by rw[e,p]at c;show r (gR c).symm)]
  show c
 let f:=d.base;show(d.ok,d.os,d.bare,(f.keep,f.slot,λb l c w t=>j (f.free b l c w t),f.there,λb n c=>?go (f.5 b n c),λb l u c=>?go (f.6 b l u c),λb B c=>?_),d.loc,d.cell,j d.free,λE k c=>j (d.8 E k c),λx q=>?_,λb u c=>?_,d.len)
 .let(v,m):=f.7 b B c;show(v,?go m)
 .let(y,z,A):=d.pin x q;show(y,j z,A)
 let m:H b=Y u:=by
  unfold del at c;split at c
  .cases c
  show c
 show(d.bU b u m).qx (λ_ _ _ i=>i) (λk i=>?go i) λk n i=>?go i
def Inv.P1{rest:?aX}(c:?f H s):?f (D H ?gi (xo ?gi C U)) {s with heap:=(s.1.push (uB rest)).push (sA C s.1.1.size)}:=by
 let d:((s.1.push (uB rest)).push (sA C s.1.1.size)).get? ?gi=Y (sA C s.1.1.size):=by
  let b:=kh (s.1.push (uB rest)) (o:=sA C s.1.1.size) Z
  rwa [qb]at b
 show c.laid (t':=s.toks) (λe f b=>?e1 (?e1 b)) (rZ _) (Q7 (_,_,d,Z,Z,Z,Z,Z))
end
section
variable{X:Cx}{CX:tX}{k:Nat}{f C:S}{fd:oG}{ps:List Str}{sp:Sp}{je:List V}{ds:List J}{E:XK}
structure vK(a:cp)(C f:S):Prop where
 cl:oN a C
 init:i_ a ?bC "__init__"=Y (Y ?bL)
 fn:Mq a ?bL=M
 kp:j5 a ?bC=M
def amV{Qx:S->L->Prop}{u:J->aO->Prop}(q:vK X.K C f)(t:?ar CX fd ps sp)(y:?iL ?ic)(P:?a7 ds)(T:?fP)(z:?g5)(p:?bf r s i a)(n:a_ o b)(A:R o<=cw)(h:∀e,i e=U->sp (?aY::(o++je)) (D i e (xo e C U)) (λx j=>x=.cT/\Qx e j) E)(H:∀d j,?bf r s j d->Qx ?N j->u (.ref ?N) d):?r (px ?bC b) u X.xe a:=by
 let c:i ?N=U:=p.bU.fresh (rZ _);let v:=h ?N c;let l:=Inv.P1 (C:=C) (rest:=b) p;let w:a_ (V.ref ?N::(o++je)) (?gZ::(b++ds)):=.cons Z (n.append T);let c:(?gZ::b++ds).length=R ps:=by
  let m:=w.length;rw[t.len _ _ _ _ v]at m;show m.symm
 show O2 (K:=X.K) p.iH q.cl.ei q.init (beq_iff_eq.mp q.fn) (by rw[<-n.length];show A) ?_
 show yM (yI (t.run _ X.stack _ _ (?gZ::b,[]) (?gZ::(b++ds)) _ _ E (y.i9 C b []) (l.Bb.i9 C b []) (P _ (?gZ::b) l.iH c) w v) λn d c=>?_)
 rcases n with m|B
 .show z r s _ _ m d l c
 cases B with
 |ret a=>
  let(x,y,z,b,A,a):=l.after c;subst A;show(b,H d y z a)
 |next=>show jy c
 |brk=>show jy c
 |cont=>show jy c
end
section
variable{bZ:sD}{A:eV}{E:J->aO->Prop}{dW:Env}{s:aO}{x:Sem J}{ah:Flow->aO->Prop}
def G4(q:A.handled=U)(h:?cM bZ x (λm a=>mv λc b l bm e=>m=?aC/\ww a.1 b l bm/\?es a.1 c ?av e/\E ?aC a)):?cM bZ (Nz dW (Y x) U) ah:=by
 unfold Nz;show bC (kX h (λm a d=>?_) λ_ _ x=>x);let(c,b,l,bm,e,0,(k,(c,c,u,w,H,c,c,v,y,z,c,c,c,c,c,0),p,P,C,T),(t,c,r,f,j,i,d),o):=d;let(X,g,B,c,c):=a;let n:(dR b::bm).contains ?ca=M:=by rw[wR,p,DY]
 let(a,a,a,a):=t;dsimp only at f j i;subst f j i
 repeat(first
  |with_reducible refine yA r ?_
  |with_reducible refine yA k ?_
  |(with_reducible refine GC k ?_;rw[n])
  |wp_step)
 rw[d.1];show ?ek;rw[bp ?i]
 show dA (wpAny_raiseNew_none q o)
end
def Fz(b:S)(k:Sp)(j:?au)(h:XK)(l:TA):TS:=λ_ n i=>l n i λf c=>R f<=cw/\∀a,c a=U->k (?s::(f++j)) (D c a (xo a b U)) (λm d=>m=.cT/\∃e,d a=Y (xo a b (Y e))/\h ?av (Y e) (del d a)) λ_ _ _=>False
def atu:e6 (fz a e) b λ_ _ _=>False:=by intro j m f k i l h c;let(_,_,_,_,_,_,_,_,_,_,_,_,_,_,_,_,_,d,_):=c;show d.elim
section
variable{P:eP}{w:dZ}{K:cp}{mg:Str->Option J}{cu:dg}{aM:List Str}{bX:Str}{aX:jE}{fn:S}{cd:J}{A:eV}{outer:List Env}{s0:aO}{H0:L}{E:XK}{k:Nat}{f C:S}{fd:oG}{ps:List Str}{sp:Sp}{je:List V}{ds:List J}{x:Str}{p pos gF:Pos}{e:dz}{es:List dz}{t:TA}
def y9{us:?aX}(q:vK K C f)(u:?be k f fd ps sp)(d:ii ?ic ?eK)(B:Binds K fd ps ds)(H:?fP)(o:Inv (?e aX fn cd A outer s0 H0 E) r T c j)(v:a_ n us)(z:R n<=cw)(s:∀x,c x=U->sp (?eJ::(n++je)) (D c x (xo x C U)) (λm b=>m=.cT/\∃a,b x=Y (xo x C (Y a))/\E ?bC (Y a) (del b x)) λ_ _ _=>False):?iK ?eK (px ?bC us) (λm l=>mv λh C i bm y=>m=?dM/\ww l.1 C i bm/\?es l.1 h ?bC y/\(?e aX fn cd A outer s0 H0 E).xe ?dM l) (?e aX fn cd A outer s0 H0 E).xe j:=by let c:Q s0.1.1<=Q j.1.1+1:=fZ o.sz (rZ _);show amV (X:=?e aX fn cd A outer s0 H0 E) (Qx:=λx b=>∃a,b x=Y (xo x C (Y a))/\E ?bC (Y a) (del b x)) q u d B H atu o v z s ?_;intro d b d T;let(a,s,z):=T;let r:=Jz d.bU s;let(i,bm,v):=OI d.iH q.cl.ei;show(_,C,i,bm,Y a,Z,v,r,m9 (d.drop s) r ?aG Ig c z ?aG)
def aoF(i:vK K C f)(n:?be k f fd ps sp)(j:ii ?ic ?eK)(B:?aQ x)(H:mg x=Y ?bC)(u:Binds K fd ps ds)(v:?fP)(s:PA (?e aX fn cd A outer s0 H0 E) ?ah t)(y:?ade (?dW=I))(z:?arf (dP ?ah ?k=(I,dU e ?k)::dP es ?k))(T:?arf ((iS gF (dP es ?k)).any (·.1)=I)):?ea (.Raise (Y (?as (?cN x) ?ah gF)) U pos) (Fz C sp je E t):=by intro d l a0 o a b h;change ?iK ?eK (exec _ ?k) _ _ l;rw[TL];show bC (Am (G4 j.hd (bC (kX (Q:=λm a=>mv λc C X bm q=>m=?aC/\ww a.1 C X bm/\?es a.1 c ?bC q/\(?e aX fn cd A outer s0 H0 E).xe ?aC a) ?_ (λm a r=>bC (Am (dA r))) λ_ _ a=>a))));show yx (uF b B H ?_ y);show yw (h₀:=cu) b.ok.mod.1 i.kp (df (s gF d l a0 o _ b h) λa a b=>?_) z T;let(a,a,d,c,l,a):=b;show(d.iH,?_);show y9 i n j u v d c l a
def amQ(d:vK K C f)(l:?be k f fd ps sp)(i:ii ?ic ?eK)(s:?aQ x)(u:mg x=Y ?bC)(o:Binds K fd ps ds)(q:?fP)(r:?ade (?dW=I)):?ea (.Raise (Y (?as (?cN x) [] gF)) U pos) (Fz C sp je E vH):=by intro T y X H B b h;change ?iK ?eK (exec _ ?k) _ _ y;rw[TL];show bC (Am (G4 i.hd (bC (kX (Q:=λj a=>mv λc C v bm m=>j=?aC/\ww a.1 C v bm/\?es a.1 c ?bC m/\(?e aX fn cd A outer s0 H0 E).xe ?aC a) ?_ (λj a n=>bC (Am (dA n))) λ_ _ z=>z))));show yx (uF b s u ?_ r);show KZ b.iH d.kp (y9 (us:=[]) d l i o q b .nil h.1 h.2)
end
open PySem.W (Looks)
structure FE(a:cp)(b:S)(d:Str)(c:S):Prop where
 ga:p5 a ?av "__getattribute__"=Y (Y (.builtin "type.__getattribute__"))
 rd:PySem.W.readsIn a b (.type "type")=M
 at_:PySem.W.findCls a ?av (.type "type") d=Y (.val ?aC)
 kp:j5 a ?aC=M
section
variable{X:Cx}{CX:tX}{k:Nat}{f C:S}{fd:oG}{ps:List Str}{sp:Sp}{je:List V}{ds:List J}{E:XK}{x m:Str}{p pos gQ:Pos}{e o:dz}{es:List dz}{ta:TE}{t:TA}
def zj{pl:Sem Bool}(i:?ar CX fd ps sp)(y:?iL k)(u:?jr x)(v:X.mg x=Y ?bC)(b:FE X.K C m f)(q:?a7 ds)(r:?fP)(B:?g5)(n:?dA)(s:?ade (?dW=I))(z:?arf (?G ?ah=?de::?G es))(w:?arf ((?cb).any (·.1)=I))(A:?V (?as ?gb ?ah pos)=(do
 let d<-dU (.Name x p) X.env
 ?eP
 let(f,first)<-tG [d] (vg d m pl)
 vn pos f first (?g4 (?G ?ah)) (?bG pos)):=by rfl):?am (?as ?gb ?ah pos) (JJ sp je E t):=by
 intro H c d j a a h;show DF (pl:=pl) (uF a u v ?_ s) A;show aeN a.iH b.ga (ae6 a.iH b.rd b.at_ Z ?_);let l:=a.tok (c.toks+1);show yw (first:=[]) (h₀:=X.base) a.ok.mod.1 b.kp (df (n pos H _ d j _ l h) λa a T=>?_) z w;let(a,a,c,a,P):=T;show(c.iH,?_);show Fx i y q r B c a P
end
section
variable{P:eP}{w:dZ}{K:cp}{mg:Str->Option J}{cu:dg}
def tY.okX{q:Nat}{o:Sp}(s:tY K B n e i p)(u:gy k m (eO e))(A:∀c a b d,o c a b d->R c=R m)(v:∀(h:J) (f:eV) (l:?eH) (j:aO) (a:L) (c:?au) (b:VK) (d:XK),ii q (f.deeper (fG n (eO e) j.1.1.size i h))->o c a b d->∃r,pF (eJ (fz P w) P w K mg cu k n (eO e) i h f l j a d) (zh e) r/\r {nx:=λ_ t=>b .cT t,rt:=b} (start k c) a):?be (q+1) i p m o:=by let(T,X,kV,H,e,C,h,E,e,0,lk,x):=s.ex;show ate lk x u A λf l j a c b d y z=>v h f l j a c b d y z
end
open PySem.W (Looks)
abbrev Cx.pP(a:Cx)(b:J):Cx:={a with A:=a.A.mark (Y b),f6:=I,xe:=λ_ _=>False}
abbrev Cx.sH(a:Cx)(b:?H)(c:J->aO->Prop):Cx:={a with pn:=b,xe:=c}
section
variable{X:Cx}{ap:List (S×Obj)}{σ:St}{H:L}{s:aO}{e:J}{xe:J->aO->Prop}
def Inv.pP(a:?f H s)(e:J):Inv (X.pP e) ap σ H s:=
 ((a.ok.mod,a.ok.kind,a.ok.i7,a.ok.blt,a.ok.above,a.ok.inj,a.ok.has,a.ok.8,(λb=>nomatch b),a.ok.frames,a.ok.qY,a.ok.Ds,a.ok.bs,a.ok.ua,a.ok.Bf,a.ok.Bc,a.ok.rM,a.ok.wK),a.os,a.bare,a.base,a.loc,a.cell,a.free,a.8,a.pin,a.bU,a.len)
def Inv.m7(a:Inv (X.pP e) ap σ H s)(b:X.Ok):?f H s:=(b,a.os,a.bare,a.base,a.loc,a.cell,a.free,a.8,a.pin,a.bU,a.len)
def Inv.sH(a:Inv X ap σ H s)(xe:J->aO->Prop):Inv (X.sH (X.pn++ap) xe) [] σ H s:=
 ((a.ok.mod,a.ok.kind,a.ok.i7,a.ok.blt,a.ok.above,a.ok.inj,a.ok.has,a.ok.8,a.ok.hd,a.ok.frames,a.ok.qY,a.ok.Ds,a.ok.bs,a.ok.ua,a.ok.Bf,a.ok.Bc,a.ok.rM,a.ok.wK),a.os,a.bare,a.base,a.loc,a.cell,a.free,a.8,λc b=>a.pin c (by rw[mD]at b;show b),a.bU,a.len)
def Inv.wA(a:Inv (X.sH (X.pn++ap) xe) f σ H s)(c:X.Ok):?f H s:=
 (c,a.os,a.bare,a.base,a.loc,a.cell,a.free,a.8,λd b=>a.pin d (BA _ b),a.bU,a.len)
def Inv.aB{o:dg}{a:Nat}(d:?f H s)(z:o.Ns X.env.2 u)(h:xf X.env.2 s.1 o):?bf ap (vU X.N.length U) H {s with heap:=o,toks:=a}:=by
 let f:=d.base;let i:∀a c,a≠X.env.2->?b5=Y c->o.get? a=Y c:=λa c j b=>(h.2 a j).trans b;let q:∀a c,X.8.1.get? a=Y c->a≠X.env.2:=λa c e=>jS (jw (fS e) d.ok.above);let v:∀a n,H a=Y n->a≠X.env.2:=λa n b h=>by
  rw[h,d.free]at b;cases b
 show(d.ok,d.os,d.bare,(λa c b p j l=>i a c (q a c b) (f.keep a c b p j l),λa c b p j l=>?_,f.free,λa c b l=>?_,f.5,f.6,f.7),(u,z,λh t x _ b _=>?_),λt h b=>?_,d.free,d.8,λE B=>?_,λa n b=>?_,?_)
 .let(k,r):=f.slot a c b p j l;show(k,i a _ (q a c b) r)
 .let(C,r):=f.there a c b l;show(C,i a _ (q a c b) r)
 .rw[QN]at b;split at b<;>cases b
 .let(x,c,A,y):=d.cell t h b;show(x,c,i h c (d.zU t h b) A,y)
 .let(P,T,w,f):=d.pin E B;show(i _ _ w P,T,w,f)
 .show(d.bU a n b).qx (λh c k m=>i h c ?_ m) (λ_ m=>m) λ_ _ m=>m;rcases k with k|k
  .rw[k];show v a n b
  show v h _ k
 rw[W5]
def sF(X:Cx)(ap:?H)(a:S):=?f9<=a/\a≠X.env.2/\(∀d b,X.env.cells.lookup d=Y b->b≠a)/\∀c∈X.pn++ap,c.1≠a
def Inv.PP{a T:S}(j:?f H s)(k:FG (iO X.stack) a (.ref T) s.1 p)(r:H a=U)(q:H T=U)(o:sF X ap a)(n:sF X ap T):?f H {s with heap:=p}:=by
 let v:∀b h,H b=Y h->b≠a:=λb h c d=>by
  rw[d,r]at c;cases c
 let u:∀b h,H b=Y h->b≠T:=λb h c d=>by
  rw[d,q]at c;cases c
 show j.call (g':=s.gens) (d':=s.drawn) (t':=s.toks) (ch:=[a,T]) (λb i c m f l=>?_,λb i c m f l=>k.slot b i c f,λ_ _ _ m _=>m,λb i c _=>k.there b i c,λ_ _ c=>c,λ_ _ _ c=>c,λ_ w c=>(#[],by rw[c];simp)) (j.bU.Py λb h f c=>?_) j.bare λb f=>?_
 .show k.keep b i c (λd=>l ?fn) (λd=>l (by cases d;simp)) f
 .show k.keep b h c (λd=>f (by rw[d];show r)) (λd=>f (by cases d;show q)) λd=>f (j.Fn b d)
 let t:b=a\/b=T:=by simpa using f
 rcases t with rfl|rfl
 .show(.inr o.1,o.2)
 show(.inr n.1,n.2)
def Dj(b:?f H s)(h:?O<=d):sF X ap d:=by let i:∀a c,?b5=Y c->a≠d:=λa c f=>jS (jw (fS f) h);show(fZ b.sz h,bI (jS (jw b.lt h)),λm a f=>?_,λl k=>i _ _ (b.pin l k).1);let(n,c,j,_):=b.cell m a f;show i a c j
def IM{a T:S}{m:Unit->aO->Prop}(l:?f H s)(z:hJ s.1 a n p (.ref T) o)(t:mR s.1 a T C)(r:H a=U)(q:H T=U)(B:sF X ap a)(A:sF X ap T)(h:∀j,?f H j->hJ j.1 a n p (.ref T) o->mR j.1 a T .none->m () j):bH y w (Cj ?s U) m x s:=by
 show Oc z t λb k b u=>h _ ?_ b u;show l.PP (a:=a) (T:=T) (λb i f _ d _=>(k b λc=>d (by rw[c])).trans f,λb i f E=>(i.slots,?_),λb i f=>?_) r q B A
 .let(_,j,q,j):=l.stack.mem E;let(_,r,v,d,P,_):=t;show(k b λc=>by rw[c,d]at q;cases q;show j v P).trans f
 by_cases c:b=T
 .let(_,r,v,d,_):=u;rw[c];show(r,d)
 show(i,(k b c).trans f)
def P4{j:Unit->aO->Prop}(b:?f H s)(i:X.stack=X.env::X.outer)(r:hJ s.1 a k m ?J l)(z:mR s.1 a d .none)(x:H a=U)(w:H d=U)(u:sF X ap a)(t:sF X ap d)(h:∀f c,?f H f->hJ f.1 a k m ?aC l->mR f.1 a c (nX X.env.2)->H c=U->sF X ap c->j () f):bH q X.A (vh ?s X.env) j p s:=by
 let v:X.env.frame=Y X.env.2:=by
  rcases b.ok.qY with e|⟨_,e⟩
  .rw[i]at e;show ?fO (fL R e)
  show e
 show M7 (cu:=X.base) (outer:=X.outer) (by rw[<-i];show b.ok.frames) (by rw[<-i];show b.stack) v r (.inr (d,Z,z)) λB c o y A n=>?_
 rw[<-i]at o;show h _ c (b.PP o x w u t) y A (b.bU.fresh n) (Dj b n)
end
open PySem.W (Looks)
section
variable{X:Cx}{ap:List (S×Obj)}{σ:St}{H:L}{s:aO}{a C dx:S}
def Inv.atX(d:?f H s)(v:H a=U)(k:sF X ap a)(w:?g3 (?j3 l) s.1 a l):?f (?j3 l) s:=by
 let f:∀{b u},H b=Y u->?j3 l b=Y u:=λ{b u} c=>by
  rw[cY (λi=>by rw[i,v]at c;cases c)]
  show c
 let e:=d.base;show(d.ok,d.os,d.bare,(e.keep,e.slot,λb u c t q=>?_,e.there,λb p c=>f (e.5 b p c),λb u E c=>f (e.6 b u E c),λb A c=>?_),d.loc,d.cell,?_,λo j c=>?_,λn m=>?_,λb u c=>?_,d.len)
 .rw[cY (jS (jw (fS c) k.1))];show e.free b u c t q
 .let(r,B):=e.7 b A c;show(r,f B)
 .rw[cY (bI k.2.1)];show d.free
 .rw[cY (k.2.2.1 o j c)];show d.8 o j c
 .let(x,y,z):=d.pin n m;show(x,by rw[cY (k.2.2.2 n m)];show y,z)
 by_cases i:b=a
 .rw[i,bD]at c;cases c;rw[i];show w
 rw[cY i]at c;show(d.bU b u c).qx (λ_ _ _ h=>h) (λj h=>f h) λj p h=>f h
end
def EH(k:cp)(l:S)(h n:Nat)(o:TS)(c:h_):XK:=λe m d=>e=.none\/bN λb f=>e=?av/\m=Y f/\ul k ?av ?bk=Y M/\∀(a:S) (i:St),R i=h->d a=U->o {nx:=λ_ j=>c.nx (vU h U) j,rt:=c.rt} (i.set n (Y ?s)) (D d a (xc a b f))
def ehx{e m:Nat}(h:EH i j e m n c ?s k d):bN λb l=>dR a=?av/\k=Y l/\ul i ?av ?dh=Y M/\∀(a:S) (o:St),R o=e->d a=U->n {nx:=λ_ p=>c.nx (vU e U) p,rt:=c.rt} (o.set m (Y ?s)) (D d a (xc a b l)):=by
 rcases h with f|f
 .cases f
 show f
def auP(c:cp)(d:S)(f e:Nat)(h:XK->TS)(i:TS):TS:=λa j b=>h (EH c d f e i a) a j b
section
variable{X:Cx}{aN:S}{i:Nat}{x n:Str}{np tT pos:Pos}{jv PL:List bY}{b0:bY}{tb:XK->TS}{th:TS}
def asv(b4:X.stack=X.env::X.outer)(a1:∀(a:?H) (o:J->aO->Prop) (E:XK),?d2 (X.sH a o) E->pF (X.sH a o) jv (tb E))(a7:∀l,pF (X.pP l) (b0::PL) th)(a3:?jr x)(a6:X.mg x=Y (.ref aN))(y:X.N.Nodup)(a5:X.N[i]?=Y n)(w:X.env.scope.names.lookup n=Y .local)(z:?ade (?dW=I)):PS X (.Try jv [?gF (Y n) (b0::PL) tT] [] [] pos) (auP X.K aN X.N.length i tb th):=by
 intro c b3 c0 a0 p P h;show afD ?_;let f:=P.ok;generalize a8:(λ(l:J) (a:aO)=>?r (vh l X.env) (λ_ b=>?r (Cj l U) (λ_ d=>
  ?r (handleBy l X.env [?gF (Y n) (b0::PL) tT]) (SP X c p) X.xe d) X.xe b) X.xe a)=o
 let b1:?d2 (X.sH (X.pn++c) o) (EH X.K aN X.N.length i th p):=by
  intro a B a E l a d j;let(e,C,m,b,H,k,0,A,u,b6,T,b2,b5,s,a9,r,q,t,_):=j;let(j,j,j,k,a2,a4):=ehx t;cases j;cases k;let t:sF X c e:=Dj (d.wA f) r;let j:sF X c b:=Dj (d.wA f) q;let b:?bf c B H a:=(d.Dd (ch:=[]) A b6 T u λk A=>?fO A).wA f
  change o ?aY a;rw[<-a8];show P4 b b4 b2 b5 s a9 t j λa a a b k T j=>?_;show IM a b k s T t j λq u b r=>?_;show Z2 ?_ (by intro a;cases a)
  let k:=u.pP ?aY;show X1 (uF (X:=X.pP ?aY) k a3 a6 ?_ z);let LT:rG ?u q.1 (Jh ?aY) ?bC:=by
   let(k,k,q,k,_):=b;rw[<-k];show(rG.ld (part:=U) q).andThen .now
  show(af6 u.iH LT a2).here ?_;show codeAny_handlers_suite_as ?_;show IM u b r s T t j λq b k j=>?_;let j:?bf c B (D H e (xc e C m)) q:=b.atX s t (atZ k);show Iv j y a5 (.inl w) (v:=?aY) Z (λj b=>?_) (.inr w);show kX (a7 ?aY c j _ _ _ (b.pP ?aY) (a4 e B d.len s)) (λr z a=>?_) λ_ _ A=>A.elim;change ?r (do bindName X.env n .none;Y2 X.env n tT) (λ_ j=>SP X c p r j) X.xe z;let fin:∀{b:St} {H':L},Inv (X.pP ?aY) c b H' z->(∀j,?bf c (vU X.N.length U) H' j->SP X c p r j)->?r (do bindName X.env n .none;Y2 X.env n tT) (λ_ j=>SP X c p r j) X.xe z:=λ{b H'} k m=>by
   let q:=k.m7 f;let(e,e,_):=q.loc;show wpAny_nameGoes w e (by rw[f.kind];rfl) λe e e s=>m _ (q.aB e s)
  cases r with
  |next=>
   let(b,H',k,m):=a;show fin k λj q=>(_,H',q,m)
  |brk=>
   let(b,H',k,m):=a;show m.elim
  |cont=>
   let(b,H',k,m):=a;show m.elim
  |ret e=>
   let(v,b,H',k,y,m):=a;show fin k λj q=>(v,_,H',q,y,m)
 show kX (a1 (X.pn++c) o _ b1 [] b3 c0 a0 p (P.sH o) h) (λr E a=>?_) λl E a=>?_
 .cases r with
  |next=>
   let(b,H',d,a):=a;show BP (b,H',d.wA f,a)
  |brk=>
   let(b,H',d,a):=a;show(b,H',d.wA f,a)
  |cont=>
   let(b,H',d,a):=a;show(b,H',d.wA f,a)
  |ret e=>
   let(v,b,H',d,y,a):=a;show(v,b,H',d.wA f,y,a)
 show a
end
open PySem.W (Looks)
structure nZ(b:Nat)(a:eV):Prop where
 dp:a.depth+3*b+5<TM
 un:a.units+16*b+200<pS
def ii.toH{b:Nat}(c:ii b a)(h:?bH):nZ b (a.mark h):=(c.dp,c.un)
def nZ.room{b:Nat}(c:nZ b a):ii b {a with handled:=U}:=(rfl,c.dp,c.un)
def nZ.mono{b c:Nat}(d:nZ c a)(h:b<=c):nZ b a:=(by have:=d.dp;lia,by have:=d.un;lia)
def nZ.deeper{b:Nat}(c:nZ ?a4 a)(d:Env):nZ b (a.deeper d):=
 (by have:=c.dp;change a.depth+1+3*b+5<_;lia,by have:=c.un;change a.units+3+16*b+200<_;lia)
def nZ.i9{b:Nat}(c:nZ ?a4 a)(d:S)(e:?aX)(kw:?jl):nZ b (a.under (?ct (?J::e,kw))):=
 (by have:=c.dp;rw[XE];lia,by have:=c.un;rw[XF];lia)
structure sE(f:eP)(h:dZ)(n:cp)(s:Str->Option J)(o:dg)(r:Nat)(p:S)(q:oG)(j:List Str)(k:Sp):Prop where
 len:∀b a c m,k b a c m->b.length=j.length
 run:∀(e:eV) (i:?eH) (d:aO) (a:L) (args:Args) (l:?aX) (b:?au) (c:VK),nZ r e->zJ f h n s o e i d a->Iy d q args (j.zip l)->a_ b l->k b a c E0->vp (bQ f h) e (.call ?jV args) (CR CX0 i f h a d c E0) d
def JE(l:eP)(o:dZ)(j:cp)(n:Str->?bH)(m:dg)(k:?d4)(d:Str)(e:jE)(c:S)(b:J)(h:eV)(f:?eH)(a:aO)(i:L):Cx where
 prog:=l
 w:=o
 K:=j
 mg:=n
 base:=m
 A:=h.deeper ?b9
 N:=k
 ko:=a
 zP:=i
 env:=?b9
 outer:=f
 stack:=?b9::f
 ex:=[]
 f6:=I
 fn:=λ_=>M
 pn:=[]
 xe:=λ_ _=>False
def arP{l:cp}{B:Nat}{name n:Str}{s kV z P m d a1:J}{a:Sp}(lk:l.lookup p=Y (a1,a2,.func (BU name n H E f s kV z P c m d),a3))(X:TJ l m n=M)(w:gy i A f)(C:∀h b j T,a h b j T->R h=R A)(a0:∀(o:eV) (q:?eH) (e:aO) (b:L) (h:?au) (j:VK),nZ B (o.deeper (fG n f e.1.1.size p m))->a h b j E0->∃k,pF (JE r t l y x i n f p m o q e b) E k/\k {nx:=λ_ H'=>j .cT H',rt:=j} (start i h) b):sE r t l y x (B+1) p (BU name n H E f s kV z P c m d) A a:=by
 show(C,λo q e b args c h j B d P a2 E=>?_);let T:=C _ _ _ _ E;let s:l.In e.1:=d.mod.1.keeps λC H z=>(d.bs C H z).1;let a1:e.1.NoLimit:=d.mod.nolimit.keeps λC H z=>(d.bs C H z).1;let C:∀a∈A.zip c,?f4=Y .local \/(?f4=?iC/\((mX (Q e.1.1+1) f.names []).lookup a.1).isSome=M):=λ(c,v) a=>by
  rcases w.par c (LO a).1 with c|c
  .show ?js
  show .inr (c,QQ _ _ _ ?js)
 show X0 B.room.depth (s _ _ lk) Z w.co w.gen Z (aeM s X) (P _ _ _ _ ?_);show U5 w.kind C λa a X s=>?_;subst a;show(a1.keeps s.toInCall.keep,codeAny_func ?_);let(k,C,A):=a0 o q e b h j (B.deeper _) E;let a:Inv (eJ CX0 r t l y x i n f p m {o with handled:=U} q e b E0) [] (start i h) b X:=YV w Z (d.frames,d.mod,d.bs,d.ua,d.rM,d.wK,d.bU,d.bare) T a2 s;let k:Inv (JE r t l y x i n f p m o q e b) [] (start i h) b X:=
  ((a.ok.mod,a.ok.kind,a.ok.i7,a.ok.blt,a.ok.above,a.ok.inj,a.ok.has,a.ok.8,(λs=>nomatch s),X6 d.frames,a.ok.qY,a.ok.Ds,a.ok.bs,a.ok.ua,a.ok.Bf,a.ok.Bc,a.ok.rM,a.ok.wK),a.os,a.bare,a.base,a.loc,a.cell,a.free,a.8,a.pin,a.bU,a.len)
 show kX (C [] X (start i h) b _ k A) (λa T s=>?_) λz T s=>s.elim;let fin:∀{B:St} {H':L} {v:V} {u:J},Inv (JE r t l y x i n f p m o q e b) [] B H' T->?jq u->j v H'->CE q r t b e j u T:=
  λ{B H' v u} k P c=>(v,H',k.os,k.bare,k.base,k.bU,P,c)
 cases a with
 |ret u=>
  let(v,B,H',k,P,c):=s;show fin k P c
 |next=>
  let(B,H',k,c):=s;show fin (v:=V.cT) (u:=jL) k Z c
 |brk=>
  let(_,_,_,c):=s;show jy c
 |cont=>
  let(_,_,_,c):=s;show jy c
def tY.Qo{s:Nat}{o:Sp}(x:tY j P n d h r)(z:gy k m (eO d))(H:∀c a b w,o c a b w->R c=R m)(A:∀(f:J) (e:eV) (l:?eH) (i:aO) (a:L) (c:?au) (b:VK),nZ s (e.deeper (fG n (eO d) i.1.1.size h f))->o c a b E0->∃u,pF (JE p v j t q k n (eO d) h f e l i a) (zh d) u/\u {nx:=λ_ y=>b .cT y,rt:=b} (start k c) a):sE p v j t q (s+1) h r m o:=by let(d,d,kV,d,d,T,f,X,d,0,lk,B):=x.ex;show arP lk B z H λe l i a c b C E=>A f e l i a c b C E
section
variable{X:Cx}{k:Nat}{f C:S}{fd:oG}{ps:List Str}{sp:Sp}{x:Str}{p pos:Pos}{e:dz}{es:List dz}{t:TA}
def amU{r:VK}(m:Mk X.K C f)(q:?cw ps sp)(A:nZ ?ic X.A)(T:?a7 [])(i:?bf v z d a)(n:a_ o b)(h:∀x j,d x=U->d j=U->j≠x->sp (?eJ::o) (D (D d j (.own x)) x (?cv C j)) (λy B=>y=.cT/\r ?eJ B) E0):?r (px ?bC b) (EP X v z r) X.xe a:=by
 let u:=h ?N a.1.1.size (i.bU.fresh (rZ _)) (i.bU.fresh ?a2) (jS (wT _));let l:=Inv.made (C:=C) i;let w:a_ (V.ref ?N::o) (?gZ::b):=.cons Z n;let c:(?gZ::b).length=R ps:=by
  let e:=w.length;rw[q.len _ _ _ _ u]at e;show e.symm
 let s:=T {a with heap:=(a.1.push wS).push (yD C a.1.1.size)} (?gZ::b) l.iH (by rw[mD];show c)
 rw[mD]at s;show yM (t_ (f:=f) i.iH m.makes m.init (beq_iff_eq.mp m.fn) (yI (q.run _ X.stack _ _ (?gZ::b,[]) (?gZ::b) _ _ (A.i9 C b []) (l.Bb.i9 C b []) s w u) λn b c=>?_))
 rcases n with e|P
 .show jy c
 cases P with
 |ret b=>
  let(y,A,E,d,H,b):=l.after c;subst H;show(d,(V.ref ?N,A,E,Z,b))
 |next=>show jy c
 |brk=>show jy c
 |cont=>show jy c
def aoB(c:Mk X.K C f)(d:?cw ps sp)(y:nZ ?ic X.A)(u:?jr x)(v:X.mg x=Y ?bC)(q:?a7 [])(o:?dA)(r:?ade (?dW=I))(s:?arf (?G ?ah=?de::?G es))(w:?arf ((?cb).any (·.1)=I)):?am (?as (?cN x) ?ah pos) (Di C sp [] E0 t):=by intro z H P i a a h;show yx (uF a u v ?_ r);show ?gu a.ok.mod.1 c.kp (df (o pos z H P i _ a h) λa a B=>?_) s w;let(a,T,b,E,A):=B;show(b.iH,?_);show amU c d y q b E λx j l m n=>by have:=A x j l m n;rw[mD]at this;show this
end
open PySem.W (Looks)
def rOr:V->V->L->VK->Prop:=λe f c d=>bN λa b=>e=?cD/\f=?dk/\d (.int (Mg a b)) c
section
variable{X:Cx}
def O_:JM X .BitOr rOr:=by intro n o r c p q k l m d i j ξ;let(e,f,0,0,h):=ξ;let(a,0):=(show∃a,k=yO e a from i);let(b,0):=(show∃b,l=yO f b from j);show ior_int (.int _,c,d.tok _,?f0,h)
def aty(n:cp)(p o q:TE)(rd:V->V->L->VK->Prop):TS:=λj c k=>p c k λr l=>o c l λs e=>mr λ(b:S) (a:Nat) (i:?au) (h:V)=>r=?av/\s=?cD/\cJ n e b i/\i[a]?=Y h/\q c e λt m=>rd h t m λu f=>∃d,f b=Y (.lst d)/\a<R d/\j.nx c (D f b (.lst (d.set a u)))
def aqD{e0 pos:Pos}{rd:V->V->L->VK->Prop}(a6:?am n q)(a5:?am j p)(b0:?am s r)(a7:JM X o rd)(a4:∀f b e,augStore j f b e=(do tG [e,f,b] (setItem f b e);release [e,f,b] [];pure .next)):PS X (.AugAssign (.Subscript n j e0) o s pos) (aty X.K q p r rd):=by
 intro d d3 a v u E h;show wpAny_AugAssign_SubscriptAny (df (a6 d d3 a v _ E h) λe1 d4 b4=>?_) a4;let(x,y,H,c7,b3):=b4;show df (a5 d d4 a y _ H b3) λb d5 b5=>?_;let(g1,z,l,d0,i,c,e5,e2,a2,a3,a9,m,c1):=b5;subst a2 a3;obtain rfl:e1=dR i:=c7;let(k,0):=(show∃k,b=yO c k from d0);let(f4,c5,b2,f3):=l.list a9;let(t,b1,c6):=c5.get m;let f1:c<R e5:=(ig.mp m).1;let f2:=zu;show wpAny_getItem_list b2.isList ?d ?d (x:=t) (by simpa using b1) ?_
 show df (b0 d d5 a z _ l c1) λe3 d6 b6=>?_;let(e7,A,P,d1,c2):=b6;show df (a7 d d6 a A e2 e7 t e3 _ P c6 d1 c2) λe4 d7 c0=>?_;let(e9,B,T,d2,e8,a8,f0,c3):=c0;show kX (am d d7 a B ?iB ?f3 e9 ?iB (?f3 k) e4 (λw=>u.nx a w) T Z ?f0 d2 (i,e8,c,c,Z,Z,a8,?_,c3)) (λ_ f5 (C,a0,c4)=>(a,C,a0,c4)) λ_ _ a1=>a1;unfold zW;rw[bz ?d,bz ?d]
 rfl
def KD(X:Cx)(a:S)(d:?jY):=bN λ(b:Obj) (c:List (Key×J))=>X.K.lookup a=Y b/\KV d c/\∀h:dg,?ap=Y b->h.DictOf (pM X.1 X.w) a c
def atM(X:Cx)(k l:TE):TE:=λe f j=>k e f λm h=>l e h λn i=>mr λ(a:S) (c:?jY) (b:Key) (d:V)=>m=?s/\n=kV b/\KD X a c/\eQ c b=Y d/\j d i
def F7{o a:dz}{pos:Pos}(w:?am o i)(u:?am a j)(x:PR a):?am (.Subscript o a pos) (atM X i j):=by
 intro f a k l b p h;show I_ F.slot_dict_getitem.lookup x (df (w f a k l _ p h) λd b H=>?_);let(a,m,q,a,E):=H;show df (u f b k m _ q E) λb i P=>?_;let(b,n,b,f,c,e,e,v,s,t,A,y,C):=P;subst s t;obtain rfl:d=dR c:=a;let(B,j,lk,T,r):=A;let d:=r i.1 (b.iH c B lk);let(a,z,a):=on.j8 (v:=v) (o:=AC j e) (by rw[<-y];show T.val e)
 show(d.typeIs,afF (Dg f) d.mapOf z (v,n,b.tok _,a,C))
end
open PySem.W (Looks)
def amI:HD (.type "list_reverseiterator") "__len__"=pure U:=by rw[agc,W_];kernel_rfl
def an7:HD (.type "list_reverseiterator") "__length_hint__"=pure (Y (.builtin "list_reverseiterator.__length_hint__")):=by rw[agc,W_];kernel_rfl
section
variable{dm:eP}{w:dZ}{A:eV}{E:J->aO->Prop}{s:aO}{ag l:S}{bi:List J}
def JC(ag l:S)(bi:?aX)(a:Nat)(s:aO):=a<=R bi/\ag≠l/\s.1.IsRevIter ag l (?iv-1-?dn)/\s.1.IsList l bi.toArray
def ans(T:A.handled=U):WalksS dm w A ag [ag,l] [ag] (λH d=>H=d) bi.length (λa b=>bi[R bi-1-a]?=Y b) (JC ag l bi)where
 sub:=λd e=>by
  let i:d=ag:=by grind
  simp[i]
 grefl:=λ_=>rfl
 gtrans:=λ_ _ _ X b=>X.trans b
 frame:=λa s v b b _ z=>(b.1,b.2.1,b.2.2.1.at λc i=>z ag ?c c i,by
  let(_,_,_,c,o,k,p,m):=b;show(c,z l ?c c o,k,p,m))
 item:=λa s u E f b h=>by
  let(_,q,f,n):=b;let j:?iv-1-(?dn:Int)=((R bi-1-a:Nat):Int):=by lia
  rw[j]at f;let y:R bi-1-a<R bi:=by lia
  show wpAny_pyNext_rev_item f n (x:=bi[R bi-1-a]) (by simp[y]) λv C B=>?_
  let P:((R bi-1-a:Nat):Int)-1=?iv-1-((a+1:Nat):Int):=by lia
  rw[P]at C;show h _ _ (gv y) (by lia,q,C,?_) (λd c e r=>(B.2 d (λt=>e (by simp[t]))).trans r,Z,Z,Z,?a2)
  let(c,o,k,p,m):=n;show(c,(B.2 l (bI q)).trans o,k,p,m)
 done:=λs u E b h=>by
  let(_,q,f,n):=b;let j:?iv-1-((bi.length:Nat):Int)=-1:=by lia
  rw[j]at f;show wpAny_pyNext_rev_end T f λv T=>h _ (λd c e r=>T d c (λt=>e (by simp[t])) r,Z,Z,Z,?a2)
 self:=λa s u E b h=>wpAny_pyIter_revIter b.2.2.1 h
def akT{e:Fo->aO->Prop}{i:Nat}{G:Array EJ->Array EJ->Prop}{St:Nat->aO->Prop}(W:WalksS dm w A.in1 ag m t G i j St)(h:∀H s,St H s->s.TypeIs (.ref ag) "list_reverseiterator")(d:St 0 s)(q:a∉m)(x:ag∈m)(C:i<=cw){p:Nat}(z:?b5=Y {cls:=?Q,dict:=U,data:=.seq #[] p,slots:=#[]})(y:∀c o f,Moved (a::t) G s c->c.1.get? a=Y {cls:=?Q,dict:=U,data:=.seq o f,slots:=#[]}->EX j o i->e (.ok (.ret n)) c):bH ?fu A.in1 (Kz ?s (.ref ag) n) (λfin c=>match fin with|.done u=>e (.ok u) c|.again f=>f.quiet=M/\vp ?fu A f e c) (λk c=>e (.error k) c) s:=by
 let B:a≠ag:=λk=>q (k▸x);let v:U6 ?s (.ref ag)=I:=by simp[U6,B]
 show bC (Mr (h 0 _ d) ?_);rw[bp (by rw[v];decide)]
 show bC (W.self 0 _ _ _ d (bC (wZ ?_)));show bC (GU (h 0 _ d) amI ?_);show bC (GU (h 0 _ d) an7 ?_)
 (generalize r:("list_reverseiterator.__length_hint__":String)=P;wp_delta;rw[show splitId P=Y ("list_reverseiterator","__length_hint__")from by subst r;decide+kernel];subst r)
 show bC (Sz (b:=M) (h 0 _ d) (by rw[isSubtype_type];kernel_rfl) ?_)
 show ?ek
 show dA (plainId_quiet F.plain_extend_loop _,codeAny_extend_loopS W C a q n i 0 s #[] p Z (gI _) d z (EX.nil j) y)
def aon(b:A.handled=U)(t:s.1.IsRevIter ag l (?iv-1))(u:s.1.IsList l bi.toArray)(i:ag≠l)(H:R bi<=cw){q:J->aO->Prop}(C:∀f h k,Moved (s.1.1.size::[ag]) (λj a=>j=a) {s with heap:=?bA} f->f.1.get? ?O=Y {cls:=?Q,dict:=U,data:=.seq h k,slots:=#[]}->EX (λe o=>bi[R bi-1-e]?=Y o) h bi.length->q ?cs f):?ax (px ?Q [.ref ag]) q:=by
 let W:WalksS dm w A.in1.in1 ag [ag,l] [ag] (λj a=>j=a) bi.length (λe o=>bi[R bi-1-e]?=Y o) (JC ag l bi):=ans b;let P:∀e s,JC ag l bi e s->s.TypeIs (.ref ag) "list_reverseiterator":=λe s b=>b.2.2.1.typeIs;let c:∀a∈[ag,l],a<?O:=λa d=>by
  let X:a=ag\/a=l:=by grind
  rcases X with rfl|rfl
  .let(b,n,_):=t;show fS n
  let(b,n,_):=u;show fS n
 let r:s.1.1.size∉[ag,l]:=λm=>nQ _ (c _ m);let c:JC ag l bi 0 s:=(gI _,i,by simpa using t,u)
 show callType_codes (Q₁:=λv y=>v=?cs/\y={s with heap:=?bA}) F.called_list (F.typeCall_list_1 _) F.entry_list_init (code_list_new _ (rfl,Z)) λv y B=>?_;let(0,0):=B;let i:(?bA).get? ?O=Y {cls:=?Q,data:=.seq #[]}:=?dd;let j:=W.frame 0 s ?bA s.toks c ?a2 λa _ b c=>?e1 c;show((_,i,Z),F.args_list_init_2 _ _,?_);change ?aE (do let e<-V3 (.ref s.1.1.size);avV ?cs (λ_=>#[]);letGo e.toList.reverse;Kz ?cs (.ref ag) .none) _
 show ?ju;unfold V3;show bC (TQ i Z ?ek);change ?aE (updateSeq s.1.1.size (λ_=>#[])>>=λ_=>letGo (#[]:?dD).toList.reverse>>=λ_=>Kz ?cs (.ref ag) .none) _;show bC (agd i Z ?_);let z:=Bz (At (λ_=>(#[]:?dD))) i Z;let x:∀a b,a≠?O->(?bA).get? a=Y b->((?bA).update s.1.1.size (At (λ_=>(#[]:?dD)))).get? a=Y b:=
  λa b d c=>(oF _ d).trans c
 show bC (Wl ?_);show akT W P (W.frame 0 _ _ s.toks j ?a2 λa d b c=>x a b (λp=>r (p▸d)) c) r ?c H z λf h k m H T=>?_
 show(rfl,C f h k (Moved.trans W.gtrans ((Moved.refl W.grefl).then_heap ?a2 λa b d c=>x a b (λp=>d (by simp[p])) c) m) H T)
end
def atN(e:cp)(h:TA):TE:=λj d f=>h j d λi a=>bN λ(b:S) (c:?au)=>i=[?av]/\cJ e a b c/\∀l,a l=U->f ?bk (D a l (.lst c.reverse))
def Wd(h:a_ b a):a_ b.reverse a.reverse:=by
 induction h with
 |nil=>show .nil
 |cons c d ih=>
  rw[DL,DL];show ih.append (?c2 c)
def ahw(h:EX (λi j=>a[R a-1-i]?=Y j) b a.length):b=a.reverse.toArray:=by
 let(k,f):=h;show Array.ext_getElem? λc=>?_;by_cases d:c<R a
 .let e:=f c b[c] (Bu ?d)
  rw[Bu ?d,W4,List.getElem?_reverse d,e]
 rw[Go ?d,W4,Gp (by rw[GB];lia)]
def F8{c:Cx}{q p pos k:Pos}(i:c.f6=M)(e:Gl c "list")(f:c.mg "list"=U)(j:Gl c "reversed")(m:c.mg "reversed"=U)(b:PA c [d] C)(n:?arf (dP [d] c.env=[(I,dU d c.env)]))(y:?arf (dP [?as (?cN "reversed") [d] k] c.env=[(I,dU (?as (?cN "reversed") [d] k) c.env)])):PE c (?as (.Name "list" q) [?as (?cN "reversed") [d] k] pos) (atN c.K C):=by
 intro A s P T C ag h;show AN (wz ag e f avY (Ae ?_ y Z));rw[y];change ?aE (spliced ((I,dU (?as (?cN "reversed") [d] k) c.env)::?g4 [])) s;show RC ?_;show AN (wz ag j m agL (Ae (df (b k A s P T _ ag h) λb b k=>?_) n Z));let(e,w,m,n,a,H,e,j,y):=k;subst e;cases n with
 |cons t e=>
  cases e;cases t;let(bi,B,r,z):=m.list j;let j:=B.length;show call_reversed_list r.isList (RQ ?_);let E:∀e o,b.1.get? e=Y o->(?a0).get? e=Y o:=λe o d=>?e1 d;let n:Q b.1.1≠a:=λv=>by
   let(o,q,_):=r.isList;show jS (fS q) v.symm
  let k:(?a0).IsList a bi.toArray:=by
   let(o,q,t):=r.isList;show(o,E a o q,t)
  show aon (s:={b with heap:=?a0}) (ag:=b.1.1.size) (l:=a) (bi:=bi) (m.ok.hd i) (_,?dd,Z,by simp[CK]) k n (by rw[<-j];show z) λi j x f k n=>?_
  let j:=ahw n;subst j;let u:(?a0).1.size=Q b.1.1+1:=qb _ _;let p:w (Q b.1.1+1)=U:=m.bU.fresh (rZ _);let q:∀e o,b.1.get? e=Y o->i.1.get? e=Y o:=λe o d=>by
   show f.1 e o (λv=>?_) (?e1 (E e o d));let n:=fS d;let j:e=(?a0).1.size\/e=Q b.1.1:=by simpa using v
   rw[u]at j;rcases j with j|j
   .rw[j]at n;show bK n (Nat.not_lt.mpr (rZ _))
   rw[j]at n;show ?b2 n
  let d:i.1.get? (Q b.1.1+1)=Y {cls:=?Q,dict:=U,data:=.seq bi.reverse.toArray x,slots:=#[]}:=by
   rw[<-u];show k
  change EP c A P C (.ref (?a0).1.size) i;rw[u];show(.ref (Q b.1.1+1),D w (Q b.1.1+1) (.lst H.reverse),?_,Z,y _ p);let X:=m.laid (a:=Q b.1.1+1) (o:=.lst H.reverse) (h':=i.1) (t':=i.toks) q (rZ _) (by rw[GB];show z,bi.reverse,x,Wd B,d)
  let(c,e,c,d,j):=i;let d:e=b.gens:=f.gens.symm;let e:c=b.drawn:=f.drawn;let c:j=b.os:=f.os;subst d e c;show X
def asi{c:Str}{g:TG}{y:TT}{x:TE}{H1:L}{t:L->Prop}(e:Nat->L->Prop)(A:e 0 (?j6 ?M))(E:∀a n b,c.cps[a]?=Y n->e a b->g (.str ⟨#[n]⟩) (b7 o j) b λi p=>b7 i j=b7 o j/\y i p λq k=>
 if q=M then x i k λm l=>∃f,l aE=?kd/\R f<cw/\e ?aN (D l aE (.lst (f++[m])))else e ?aN k)(C:∀b,e c.cps.size b->t b):∃W:Nat->Nat->L->Prop,(∃h,?c3 h)/\∀a h b,W a h b->((zR c).stop a b/\t b)\/((zR c).go a b/\∃Nx:L->Prop,(∀d,Nx d->∃v,v<h/\W ?aN v d)/\∀s d,(zR c).2 a b s d->g s (b7 o j) d λi p=>b7 i j=b7 o j/\y i p λq k=>
 if q=M then x i k λm l=>∃f,l aE=?kd/\R f<cw/\Nx (D l aE (.lst (f++[m])))else Nx k):=by
 show(λa h b=>h=Q c.cps-a/\a<=Q c.cps/\e a b,(c.cps.size,by simp,gI _,A),?_)
 intro a h b ξ;let(0,P,w):=ξ;by_cases u:a<Q c.cps
 .show .inr (u,e ?aN,λd H=>(Q c.cps-?aN,by lia,Z,u,H),λs d m=>?_)
  let(r,n,B,z):=m;subst r z;show E a n _ B w
 let r:a=Q c.cps:=by lia
 subst r;show .inl (?a2,C b w)
theorem JR:D (D c a e) a d=D c a d:=by
 funext b;by_cases h:b=a
 .rw[h,bD,bD]
 rw[cY h,cY h,cY h]
theorem take_snoc{b:Type}:∀{l:List b} {i:Nat} {x:b},l[i]?=Y x->l.take (i+1)=l.take i++[x]
 |[],i,x,h=>by simp at h
 |a::l,0,x,h=>by
  let c:a=x:=gR h;subst c;rfl
 |a::l,i+1,x,h=>by
  have ih:=take_snoc (l:=l) (i:=i) (x:=x) h;change a::l.take (i+1)=a::l.take i++[x];rw[ih];rfl
def hU[Decidable a](d:a->b)(e:¬a->c):if decide a=M then b else c:=by
 by_cases h:a
 .rw[im h,?eZ];show d h
 rw[gu h,bp kU];show e h
def uN(b:Str):?au:=b.cps.toList.map λa=>V.int ?dn
def E8{b:Str}{H1:L}{p:L->Prop}{g:TG}{t:TE}(C:Q b.cps<=cw)(A:H1 aE=U)(y:∀(h:Nat) (a:L) (K:V->L->Prop),K (.int h) a->g (.str ⟨#[h]⟩) (b7 j d) a λe k=>b7 e d=b7 j d/\t e k K)(x:p (?j6 (.lst (uN b)))):∃W:Nat->Nat->L->Prop,(∃i,?c3 i)/\∀c i a,W c i a->((zR b).stop c a/\p a)\/((zR b).go c a/\∃Nx:L->Prop,(∀f,Nx f->∃s,s<i/\W (c+1) s f)/\∀u f,(zR b).2 c a u f->g u (b7 j d) f λe k=>b7 e d=b7 j d/\vI e k λv n=>
 if v=M then t e n λz o=>∃l,o aE=Y (.lst l)/\R l<cw/\Nx (D o aE (.lst (l++[z])))else Nx n):=by
 show asi (H1:=H1) (aE:=aE) (λc a=>a=?j6 (.lst ((uN b).take c))) Z (λc h a q m=>?_) λa m=>?_
 .subst m;let B:c<Q b.cps:=(yp.mp q).1;let r:(uN b).length=Q b.cps:=by simp[uN]
  show y h _ _ ?_;let w:(uN b)[c]?=Y (.int (h:Nat)):=by
   unfold uN;rw[iC,DE,q];rfl
  show(_,bD,by rw[jR];lia,?_)
  rw[JR,take_snoc w]
 subst m;let r:(uN b).length=Q b.cps:=by simp[uN]
 rw[<-r,nP];show x
set_option maxHeartbeats 4000000 in
theorem akU(l:S)(items:?dD)(n:Nat)(b:S)(dct:?iD)(sl:Array ?bH)(more:?dD)(n2:Nat)(h0:¬(!items.isEmpty&&Gm (items.size+more.size))=M)(h1:items.size<=cw)(h2:items.size+more.size<=cw+1):Meets (Builtin.«list.extend» ([?bk,?av],[])) (λ_ aN s=>s.heap.get? l=Y {cls:=?Q,dict:=U,data:=.seq items n,slots:=#[]}/\s.heap.get? b=Y {cls:=?ay,dict:=dct,data:=.seq more n2,slots:=sl}/\aN (.ok (.ret jL)) {s with heap:=s.heap.update l (At λx=>x++more)}):=
 .of_wp λdm w A aN s h=>by
  let(hp,g,d,tk,os):=s;let(gl,gb,h):=h;let hz:(items++more).size<=cw+1:=by rw[Array.size_append];show h2
  wp_walk using(agd gl Z (hz:=h1) (_hz':=hz)),uj gl,uj gb
  show(_,Z,h)
def aoH(e:cp):V->?au->L->VK->Prop:=λi h a f=>mr λl d b c=>i=?bk/\h=[?J]/\a l=Y (.lst b)/\cZ e a d c/\R b+R c<=cw/\f .cT (D a l (.lst (b++c)))
def En:Bg e "list.extend" (aoH e.K):=by
 intro a a a A a a a a B c z y h;let(l,m,a,a,0,0,f,o,H,v):=h;cases z;let(a,0,x):=y.one;cases x;let(a,a,r,w,C,d):=c.Be f;let(b,k,((T,t,X,u),n,i,s,j),P):=c.tuple o;dsimp only at i j;subst i j;let E:=k.length;let q:Q a.toArray+Q b.toArray<=cw:=by rw[jK,jK];lia
 let p:¬?jc=M:=by
  rw[u6 q,GX];show kU
 show El vN (_,d,Z) Y7 (X8 _ _) (akU l a.toArray r m t u b.toArray s p (by rw[jK];lia) ?d) (d,n,?_)
 show(.cT,_,c.JO (qv:=a++b) f d ?c (w.append k) ?_,Z,v)
 rw[iA]
 lia
def ZP{K:cp}{a:S}{xs:?au}{g:TG}{v:TS}{i:h_}{d:St}{c:L}(e:Nat->St->L->Prop)(x:e 0 d c)(B:∀b d c,b<=?fH->e b d c->cJ K c a xs)(C:∀b j k d c,xs[b]?=Y j->c k=U->e b d c->g ?gM d (D c k (.tup [.int (b:Nat),j])) λs l=>v {i with nx:=e ?a4,ct:=e ?a4,bk:=i.nx} s l)(z:∀d c,e xs.length d c->i.nx d c):∃W:Nat->Nat->St->L->Prop,(∃h,W 0 h d c)/\∀b h d c,W b h d c->((FT K a).stop b c/\i.nx d c)\/((FT K a).go b c/\∃m:St->L->Prop,(∀r f,m r f->∃u,u<h/\W ?a4 u r f)/\∀j f,(FT K a).2 b c j f->g j d f λs l=>?fQ):=by
 show ?fG
 intro b h d c ξ;let(0,A,o):=ξ;let p:=B b d c A o;by_cases t:b<?fH
 .show ?eW
  let(k,H,n,y,w,q):=q;subst n w;show C b H k d c (q xs p) y o
 let n:b=?fH:=by lia
 subst n;show .inl ((xs,p,?a2),z d c o)
def auG(f h:TS):TS:=λa i e=>∃c:St->L->Prop,f {a with nx:=c} i e/\∀d b,c d b->h a d b
def nh{rest:List bY}(r:PS b e f)(s:pF b rest i):pF b (e::rest) (auG f i):=by
 intro d t v l k m h;let(w,o,p):=h;show GP (df (r d t v l _ m o) λq u a=>?_);cases q with
 |next=>
  let(j,c,n,a):=a;show s d u j c k n (p j c a)
 |brk=>show a
 |cont=>show a
 |ret x=>show a
def atJ(f:TE):TE:=λh d e=>∃b:V->L->Prop,f h d b/\∀c a,b c a->e c a
def vA(h:PE c d e):PE c d (atJ e):=by intro o r s i t j a;let(l,m,n):=a;show df (h o r s i l j m) λv u p=>?_;let(f,b,k,q,a):=p;show(f,b,k,q,n f b a)
section
variable(P:eP)(w:dZ)(K:cp)(mg:Str->Option J)(cu:dg)
def qV(d:Nat)(f:Str)(c:?d4)(e:Sp):=bN λa b=>?be d a b c e/\?ej K b c/\mg f=Y ?s/\j5 K ?s=M
def pC(e:Nat)(d:S)(f:Str)(c:?d4)(h:Sp):=bN λa b=>?be e a b c h/\?ej K b c/\j1 K d f a
def pB(e:Nat)(h:Str)(a:S)(d:?d4)(f:Sp):=bN λb c=>?be e b c d f/\?ej K c d/\Mk K a b/\mg h=Y ?s
def sK(e:Nat)(h:Str)(a:S)(d:?d4)(f:Sp):=bN λb c=>?be e b c d f/\?ej K c d/\vK K a b/\mg h=Y ?s
end
section
variable{X:Cx}{k j:Nat}{C:S}{ps:List Str}{sp:Sp}{E:XK}{x m:Str}{p pos gQ:Pos}{e o:dz}{es:List dz}{ta:TE}{t:TA}
def cQ(a:qV X.1 X.w X.K X.mg X.base k x ps sp)(r:?iL j)(f:?dA)(n:?ade (k<=j))(l:?arf (?jr x))(O:?afo (?d2 X E))(h:?ade (?dW=I))(i:?arf (?G ?ah=?de::?G es))(q:?arf ((?cb).any (·.1)=I)):?am (?as (?cN x) ?ah pos) (JJ sp [] E t):=
 let(_,_,a,b,d,c):=a
 aqy a (r.mono n) l d c b .nil O f h i q
def gK(l:?am o ta)(f:jO X.K C)(a:pC X.1 X.w X.K X.mg X.base k C m ps sp)(r:?iL j)(i:?dA)(n:?ade (k<=j))(v:?afo (?d2 X E))(s:?arf (?G ?ah=?de::?G es))(q:?arf ((?cb).any (·.1)=I))(u:?V (?D ?ah pos)=(do
 let b<-dU o X.env
 ?eP
 let(h,first)<-tG [b] (vg b m w)
 vn pos h first (?g4 (?G ?ah)) (?bG pos)):=by rfl):?am (?D ?ah pos) (FJ C m sp [] E ta t):=
 let(_,_,a,c,d):=a
 aqB l f d a (r.mono n) c .nil v i s q u
def lH(i:?am o ta)(f:jO X.K C)(a:pC X.1 X.w X.K X.mg X.base k C m ps sp)(n:?iL j)(l:?ade (k<=j))(O:?afo (?d2 X E))(q:?V (?D [] pos)=(do
 let b<-dU o X.env
 ?eP
 let(h,first)<-tG [b] (vg b m r)
 vn pos h first (?g4 (?G [])) (?bG pos)):=by rfl):?am (?D [] pos) (FJ C m sp [] E ta vH):=
 let(_,_,a,c,d):=a
 aoC i f d a (n.mono l) c .nil O q
def oM(a:pB X.1 X.w X.K X.mg X.base k x C ps sp)(q:?iL j)(d:?dA)(l:?ade (k+1<=j))(i:?arf (?jr x))(r:?afo (?d2 X E))(f:?ade (?dW=I))(h:?arf (?G ?ah=?de::?G es))(n:?arf ((?cb).any (·.1)=I)):?am (?as (?cN x) ?ah pos) (Di C sp [] E t):=
 let(_,_,a,b,c,G):=a
 aqA c a (q.mono l) i G b .nil r d f h n
def P7(a:pB X.1 X.w X.K X.mg X.base k x C ps sp)(i:?iL j)(h:?ade (k+1<=j))(f:?arf (?jr x))(l:?afo (?d2 X E))(d:?ade (?dW=I)):?am (?as (?cN x) [] pos) (Di C sp [] E vH):=
 let(_,_,a,b,c,G):=a
 aoA c a (i.mono h) f G b .nil l d
end
section
variable{P:eP}{w:dZ}{K:cp}{mg:Str->Option J}{cu:dg}{aM:List Str}{bX:Str}{aX:jE}{fn:S}{cd:J}{A:eV}{outer:List Env}{s0:aO}{H0:L}{E:XK}{k j:Nat}{C:S}{ps:List Str}{sp:Sp}{x:Str}{p pos gF:Pos}{e:dz}{es:List dz}{t:TA}
def Dl(a:sK P w K mg cu k x C ps sp)(n:ii j ?eK)(d:PA (?e aX fn cd A outer s0 H0 E) ?ah t)(l:?ade (k+1<=j))(i:?arf (?aQ x))(f:?ade (?dW=I))(h:?arf (dP ?ah ?k=(I,dU e ?k)::dP es ?k))(m:?arf ((iS gF (dP es ?k)).any (·.1)=I)):?ea (.Raise (Y (?as (?cN x) ?ah gF)) U pos) (Fz C sp [] E t):=
 let(_,_,a,b,c,G):=a
 aoF c a (n.mono l) i G b .nil d f h m
def lh(a:sK P w K mg cu k x C ps sp)(i:ii j ?eK)(h:?ade (k+1<=j))(f:?arf (?aQ x))(d:?ade (?dW=I)):?ea (.Raise (Y (?as (?cN x) [] gF)) U pos) (Fz C sp [] E vH):=
 let(_,_,a,b,c,G):=a
 amQ c a (i.mono h) f G b .nil d
end
structure m8(a:cp)(b:S):Prop where
 nt:af a b "int"=M
 ha:i_ a ?av "__class__"=Y (Y ?i4)
 hn:p5 a ?i4 "__get__"=Y (Y (.builtin "getset_descriptor.__get__"))
 zV:aj a ?i4=Y M
 hm:Ur a b ?gX=Y M
def Ql(e:eP)(i:dZ)(d:cp)(a:S)(f:?jY):=bN λ(b:Obj) (c:List (Key×J))=>d.lookup a=Y b/\KV f c/\∀h:dg,?ap=Y b->h.DictOf (pM e i) a c
end L2
namespace Sm
def cW(a:Nat):bY:=k8.main.body.getD a (.Pass (0,0,0,0))
set_option hygiene false in
open Lean in
local macro_rules
 |`(example:ab $x*:=0)=>do
  let c←x.mapM λ x=>match x with
   |`(($n:ident $a:num $b:num))=>`(abbrev $n := c8 (cW $a) $b)
   |`(($n:ident $a:num))=>`(abbrev $n := cW $a)
   |_=>Macro.throwUnsupported
  return mkNullNode (c.map (·.raw))
example:ab (Mf 1 0) (Se 2 0) (Sd 3 0) (SN 4 0) (Sb 5 0) (UG 6 0) (SO 7 0) (UK 8 0) (WH 9 0) (Ep 13) (OS 14) (RP 15) (LB 16) (SV 22) (VS 23) (WW 24) (Ug 25) (SQ 26) (GJ 27) (Ub 36 0) (WI 37 0) (UF 38 0) (WJ 45 0) (VT 46) (Si 47) (WY 48) (WZ 49) (VU 50) (VV 51) (UM 52) (TZ 54 0) (WX 55) (UP 56) (Zq 57) (Tw 58) (Tq 69 0) (VH 70 0) (XQ 71 0) (Sc 71 1) (VI 71 2) (KW 71 3) (RH 71 4) (Uc 72) (Uf 73) (XY 74) (UQ 75) (Ue 76) (WU 77) (WT 78) (Sh 79) (Ud 80) (VJ 88 0) (UI 89 0) (Tr 89 1) (Ts 89 2) (RN 89 3) (UJ 89 4) (Rw 89 5) (Gy 89 6) (RO 89 7) (QC 89 8) (QL 89 9) (QS 89 10) (QY 89 11) (Sf 89 12) (RL 89 13) (QX 89 14) (Rv 89 15) (RM 89 16) (Ui 90) (Zp 97) (Tz 98) (MU 99) (TB 100) (SR 101) (Ry 102) (TC 104) (SU 105) (UH 106 0) (SM 106 1) (Ru 106 2) (Rl 106 3) (RK 106 4) (QR 106 5) (Ls 106 6) (QW 106 7) (Rt 106 8) (RJ 106 9) (SS 107) (XX 109) (UO 110) (MB 111) (XW 112) (UE 116 0) (Uh 117) (Rx 118) (VR 119) (UN 120) (Tt 121) (A_ 122) (WV 123) (Tv 124) (VO 125) (XU 126) (WK 127) (VM 128) (UL 129) (WS 130) (VL 131) (WQ 132) (VQ 133) (VP 134) (WR 135) (Tu 136) (WL 137) (XS 138) (VN 139) (WM 140) (WO 141) (XT 142) (MA 143) (WP 144) (WN 145) (WG 148 0) (Ua 148 1) (RG 148 2) (To 148 3) (DX 149) (XV 150) (NJ 151):=0
set_option genInjectivity false
structure G where
 P:eP
 w:dZ
 K:cp
 mg:Str->?bH
 base:dg
 ph:S
 lD:S
 oX:S
 si:S
 uu:S
 nu:S
 rk:S
 wx:S
 f8:S
 e_:S
 qS:S
 qL:S
 Term:S
 rB:S
 Language:S
 Found:S
 jG:S
 d8:S
 b8:S
 gU:S
 Answer:S
 pz:S
 yJ:S
 mG:S
 Ng:S
 IE:S
def G.Const(g:G)(c:Str)(b:V):=∃a,g.mg c=Y a/\RelV b a
def G.Def(g:G)(a:Str)(d:bY):=bN λb c=>tY g.K a a d b c/\g.mg a=?j5
def G.Met(g:G)(c:S)(b e:Str)(f:bY):=bN λa d=>tY g.K b e f a d/\j1 g.K c b a
def G.rN(g:G)(b:S)(d:Str)(e:bY):=bN λa c=>tY g.K "__init__" d e a c/\Mk g.K b a
def G.vF(g:G)(b:S)(d:Str)(e:bY):=bN λa c=>tY g.K "__init__" d e a c/\vK g.K b a
class FO(b:cp)(a:S)(c:Str):Prop where
 cl:jO b a
 no:eA b a c
def C9(g:G)(e:?jY)(h:Int)(i:Str)(f d:Int):=bN λb a=>eQ e (gJ h)=?j5/\(∀c,cZ g.K c b [?s,.int f,?gV])/\g.mg i=Y ?s
def JL(g:G)(b:?jY):List (Int×Str×Int×Int)->Prop
 |[]=>True
 |a::l=>C9 g b a.1 a.2.1 a.2.2.1 a.2.2.2/\JL g b l
def JL.get{g:G}{e:Int}{x:Str}{d b:Int}:∀{l:List (Int×Str×Int×Int)} {i:Nat},JL g c l->l[i]?=Y (e,x,d,b)->C9 g c e x d b:=by
 intro l
 induction l with
 |nil=>simp
 |cons f l ih=>
  intro i h a;rcases i with _|i
  .cases a;show h.1
  show ih h.2 a
def ZI:List (Int×Str×Int×Int):=[(1,"call_language",0,3),(2,"call_rules",0,2),(3,"call_put",0,3),(4,"call_drop",0,2),(5,"call_judge",0,1),(6,"call_number",2,0),(7,"call_word",1,1),(8,"call_clear",0,0),(9,"call_show",0,2),(10,"call_wants",0,2),(11,"call_slots",0,2),(12,"call_text",0,2),(13,"call_category",1,1),(14,"call_keys",0,1),(15,"call_key",1,1),(16,"call_lacks",0,1),(17,"call_lack",1,1),(18,"call_odds",0,1),(19,"call_odd",1,1),(20,"call_chain",0,1),(21,"call_save",0,0),(22,"call_load",0,1)]
class dL(g:G):Prop where
 P3:g.mg "abs"=U
 atp:g.mg "all"=U
 atq:g.mg "any"=U
 MS:g.mg "enumerate"=U
 PB:g.mg "int"=U
 Hq:g.mg "isinstance"=U
 jd:g.mg "len"=U
 M6:g.mg "list"=U
 wF:g.mg "ord"=U
 IR:g.mg "range"=U
 XH:g.mg "reversed"=U
 Il:g.mg "sorted"=U
 atr:g.mg "str"=U
 zi:g.mg "tuple"=U
 ats:g.mg "zip"=U
 E4:g.Const "BLANK" (.int 32)
 Eg:g.Const "LINE_FEED" (.int 10)
 YR:g.Const "LARGEST" (.int 9223372036854775807)
 ES:g.Const "DIGITS" (.str "0123456789")
 Mv:g.Const "HEX_DIGITS" (.str "0123456789abcdef")
 afj:g.Const "LONGEST_DECIMAL" (.int 10)
 O9:g.Const "ANY" (.str "any")
 CB:g.Const "GROUP" (.str "group")
 Ii:g.Const "PLURAL" (.str "plural")
 ZR:g.Const "SELECT" (.str "select")
 Xx:g.Const "CATEGORY" (.str "category")
 Pc:g.Const "SAME" (.str "same")
 OM:g.Const "OTHER" (.str "other")
 Vs:g.mg "CATEGORIES"=Y (.ref g.yJ)
 Wa:∀b,cZ g.K b g.yJ [.str "zero",.str "one",.str "two",.str "few",.str "many",.str "other"]
 Wc:∃a,g.K.lookup g.yJ=Y a/\a.cls=?ay/\a.dict=U
 SC:g.Const "OTHER_CATEGORY" (.int 5)
 Vt:g.Const "MOST_TERMS" (.int 32)
 GD:g.Const "NUMBERS_OF_A_TERM" (.int 6)
 OL:g.Const "BOUND" (.int 4294967296)
 ajQ:g.Const "TAG_SIGNS" (.str "abcdefghijklmnopqrstuvwxyz0123456789-")
 ajO:g.Const "KEY_SIGNS" (.str "abcdefghijklmnopqrstuvwxyz0123456789_-.")
 ahv:g.Const "LONGEST_TAG" (.int 12)
 ahu:g.Const "LONGEST_KEY" (.int 24)
 Z7:g.Const "LONGEST_SEPARATOR" (.int 4)
 afk:g.Const "LONGEST_MESSAGE" (.int 1024)
 afR:g.Const "MOST_LANGUAGES" (.int 12)
 agr:g.Const "MOST_MESSAGES" (.int 48)
 Az:g.mg "NO_TAG"=Y (.ref g.mG)
 Cw:∀b,cZ g.K b g.mG []
 aw2:∃a,g.K.lookup g.mG=Y a/\a.cls=?ay/\a.dict=U
 afi:g.Const "DIGITS_IN_FRONT" (.str "123456789")
 Sa:g.Const "DIGITS_BEHIND_1" (.str "012345")
 Mw:g.Const "WORD_SIGNS" (.str "abcdefghijklmnopqrstuvwxyz0123456789_-")
 agY:g.Const "LONGEST_WORD" (.int 16)
 amk:g.Const "DEEPEST" (.int 8)
 akX:g.mg "NAMED_AS"=Y (.ref g.Ng)
 L6:g.Const "HEAD" (.str "say")
 Xy:g.Const "LANGUAGE" (.str "language")
 L7:g.Const "RULE" (.str "rule")
 YS:g.Const "MESSAGE" (.str "message")
 HS:g.Const "NOTHING" (.str "-")
 agW:g.Const "LARGEST_SLOT" (.int 15)
 agX:g.Const "LONGEST_TEXT" (.int 64)
 apZ:g.mg "CALLS"=Y (.ref g.IE)
 ak6:Ql g.P g.w g.K g.Ng [(qJ "any",?dN),(qJ "group",.int 1),(qJ "plural",.int 1),(qJ "select",.int 2)]
 aqb:∃d,Ql g.P g.w g.K g.IE d/\JL g d ZI
 aqq:m8 g.K g.qS
 vk:g.mg "Refused"=Y (.ref g.ph)
 awY:g.vF g.ph "Refused.__init__" Mf
 aw1:oN g.K g.ph
 awg:?ag g.ph "refusal"
 aww:?ag g.ph "row"
 awW:?bY (.ref g.ph)=Y M
 aiw:g.mg "NotAllowed"=Y (.ref g.lD)
 aiD:g.vF g.lD "NotAllowed.__init__" Se
 Wh:oN g.K g.lD
 Rk:?ag g.lD "refusal"
 SJ:?ag g.lD "row"
 o6:?bY (.ref g.lD)=Y M
 aiv:g.mg "NoLanguage"=Y (.ref g.oX)
 aiC:g.vF g.oX "NoLanguage.__init__" Sd
 Wg:oN g.K g.oX
 Rj:?ag g.oX "refusal"
 SH:?ag g.oX "row"
 o5:?bY (.ref g.oX)=Y M
 ajP:g.mg "NoMessage"=Y (.ref g.si)
 ajT:g.vF g.si "NoMessage.__init__" SN
 Xi:oN g.K g.si
 Rs:?ag g.si "refusal"
 Tl:?ag g.si "row"
 o8:?bY (.ref g.si)=Y M
 aiu:g.mg "ComesRound"=Y (.ref g.uu)
 aiB:g.vF g.uu "ComesRound.__init__" Sb
 Wf:oN g.K g.uu
 Ri:?ag g.uu "refusal"
 SE:?ag g.uu "row"
 o4:?bY (.ref g.uu)=Y M
 anX:g.mg "Faulty"=Y (.ref g.nu)
 aob:g.vF g.nu "Faulty.__init__" UG
 B_:oN g.K g.nu
 SG:?ag g.nu "refusal"
 VA:?ag g.nu "row"
 q_:?bY (.ref g.nu)=Y M
 Wx:g.mg "WrongLine"=Y (.ref g.rk)
 Wy:g.vF g.rk "WrongLine.__init__" SO
 MW:oN g.K g.rk
 Lf:?ag g.rk "refusal"
 LU:?ag g.rk "row"
 o9:?bY (.ref g.rk)=Y M
 an0:g.mg "Wanted"=Y (.ref g.wx)
 aoe:g.vF g.wx "Wanted.__init__" UK
 C3:oN g.K g.wx
 SK:?ag g.wx "refusal"
 VB:?ag g.wx "row"
 r8:?bY (.ref g.wx)=Y M
 arR:g.mg "Full"=Y (.ref g.f8)
 ar0:g.vF g.f8 "Full.__init__" WH
 O1:oN g.K g.f8
 TY:?ag g.f8 "refusal"
 XG:?ag g.f8 "row"
 L5:?bY (.ref g.f8)=Y M
 amm:g.mg "Message"=Y (.ref g.e_)
 ams:g.rN g.e_ "Message.__init__" Ub
 NB:?jy g.e_
 ag5:?ag g.e_ "text"
 agA:?ag g.e_ "parts"
 agz:?ag g.e_ "named"
 arS:g.mg "Hole"=Y (.ref g.qS)
 ar1:g.rN g.qS "Hole.__init__" WI
 Jl:?jy g.qS
 aj4:?ag g.qS "kind"
 aj5:?ag g.qS "slot"
 agv:?ag g.qS "branches"
 anW:g.mg "Branch"=Y (.ref g.qL)
 aoa:g.rN g.qL "Branch.__init__" UF
 NY:?jy g.qL
 ahx:?ag g.qL "kind"
 afS:?ag g.qL "fitting"
 ag1:?ag g.qL "parts"
 arT:g.mg "Term"=Y (.ref g.Term)
 ar2:g.rN g.Term "Term.__init__" WJ
 CP:?jy g.Term
 agC:?ag g.Term "category"
 aj6:?ag g.Term "ends"
 aha:?ag g.Term "outside"
 ag9:?ag g.Term "modulus"
 alf:?ag g.Term "low"
 aj7:?ag g.Term "high"
 aml:g.mg "Display"=Y (.ref g.rB)
 amr:g.rN g.rB "Display.__init__" TZ
 YJ:?jy g.rB
 ag2:?ag g.rB "text"
 afT:?ag g.rB "wanted"
 akW:g.mg "Language"=Y (.ref g.Language)
 ak1:g.rN g.Language "Language.__init__" Tq
 Em:?jy g.Language
 ag3:?ag g.Language "tag"
 Z9:?ag g.Language "fallback"
 Y4:?ag g.Language "separator"
 afV:?ag g.Language "terms"
 Z_:?ag g.Language "messages"
 ap0:g.mg "Found"=Y (.ref g.Found)
 ap7:g.rN g.Found "Found.__init__" VH
 OB:?jy g.Found
 ahy:?ag g.Found "steps"
 afU:?ag g.Found "language"
 agu:?ag g.Found "message"
 atg:g.mg "Kit"=Y (.ref g.jG)
 atm:g.rN g.jG "Kit.__init__" XQ
 rJ:?jy g.jG
 agx:?ag g.jG "languages"
 agw:?ag g.jG "arguments"
 yB:g.Met g.jG "language_by" "Kit.language_by" Sc
 Aq:g.Met g.jG "way_of" "Kit.way_of" VI
 KS:g.Met g.jG "check_fallback" "Kit.check_fallback" KW
 Ln:g.Met g.jG "set_language" "Kit.set_language" RH
 ap1:g.mg "Level"=Y (.ref g.d8)
 ap8:g.rN g.d8 "Level.__init__" VJ
 Ff:?jy g.d8
 aiH:?ag g.d8 "kind"
 aiI:?ag g.d8 "slot"
 agy:?ag g.d8 "counted"
 aey:?ag g.d8 "outer_parts"
 afW:?ag g.d8 "branches"
 anZ:g.mg "Reader"=Y (.ref g.b8)
 aod:g.rN g.b8 "Reader.__init__" UI
 gw:?jy g.b8
 ahB:?ag g.b8 "text"
 ag8:?ag g.b8 "place"
 agB:?ag g.b8 "levels"
 ag7:?ag g.b8 "parts"
 ag6:?ag g.b8 "named"
 GW:?cF "at_end" "Reader.at_end" Tr
 tp:?cF "stands" "Reader.stands" Ts
 GI:?cF "take_byte" "Reader.take_byte" RN
 oW:?cF "take" "Reader.take" UJ
 DH:?cF "take_digit" "Reader.take_digit" Rw
 Gx:?cF "take_one_of" "Reader.take_one_of" Gy
 Lr:?cF "take_slot" "Reader.take_slot" RO
 KB:?cF "take_whole_number" "Reader.take_whole_number" QC
 KH:?cF "take_number_key" "Reader.take_number_key" QL
 KN:?cF "take_word_key" "Reader.take_word_key" QS
 DG:?cF "counted_slot" "Reader.counted_slot" QY
 BH:?cF "add_hole" "Reader.add_hole" Sf
 Lp:?cF "read_hole" "Reader.read_hole" RL
 Gs:?cF "begin_branch" "Reader.begin_branch" QX
 Ld:?cF "end_branch" "Reader.end_branch" Rv
 Lq:?cF "read_part" "Reader.read_part" RM
 anY:g.mg "Loader"=Y (.ref g.gU)
 aoc:g.rN g.gU "Loader.__init__" UH
 pd:?jy g.gU
 ahA:?ag g.gU "text"
 ag4:?ag g.gU "place"
 ahz:?ag g.gU "line"
 aeX:?ag g.gU "languages"
 afm:?ag g.gU "language"
 afn:?ag g.gU "last_key"
 LI:?f5 "is_over" "Loader.is_over" SM
 GE:?f5 "next_bytes" "Loader.next_bytes" Ru
 KU:?f5 "next_fields" "Loader.next_fields" Rl
 DK:?f5 "rules_end" "Loader.rules_end" RK
 KM:?f5 "load_language" "Loader.load_language" QR
 Lo:?f5 "load_rule" "Loader.load_rule" Ls
 KP:?f5 "load_message" "Loader.load_message" QW
 Lc:?f5 "load_entry" "Loader.load_entry" Rt
 GH:?f5 "load_next" "Loader.load_next" RJ
 ZQ:g.mg "Answer"=Y (.ref g.Answer)
 ZY:g.rN g.Answer "Answer.__init__" UE
 Cr:?jy g.Answer
 Tk:?ag g.Answer "number"
 Vz:?ag g.Answer "row"
 UB:?ag g.Answer "text"
 arQ:g.mg "Feed"=Y (.ref g.pz)
 arZ:g.rN g.pz "Feed.__init__" WG
 AK:?jy g.pz
 aiF:?ag g.pz "calls"
 aiG:?ag g.pz "place"
 Me:g.Met g.pz "is_left" "Feed.is_left" Ua
 DJ:g.Met g.pz "take_number" "Feed.take_number" RG
 LS:g.Met g.pz "take_row" "Feed.take_row" To
 vf:bN λc e=>tY g.K "__init__" "Refused.__init__" Mf c e/\FE g.K g.ph "__init__" c
 Xt:g.Def "bytes_of" Ep
 apT:g.Def "is_of" OS
 aeW:g.Def "joined_by_blanks" RP
 afg:g.Def "split_at_blanks" LB
 afQ:g.Def "within_64_bits" SV
 aik:g.Def "in_decimal" VS
 ajG:g.Def "in_groups" WW
 agS:g.Def "from_decimal" Ug
 afM:g.Def "in_hexadecimal" SQ
 aeV:g.Def "from_hexadecimal" GJ
 aim:g.Def "numbers_of" VT
 afh:g.Def "term_is_allowed" Si
 ajI:g.Def "read_term" WY
 ajK:g.Def "terms_end" WZ
 ain:g.Def "read_terms" VU
 aio:g.Def "term_holds" VV
 aho:g.Def "category_of" UM
 ajH:g.Def "is_filled" WX
 ahr:g.Def "parts_taken" UP
 ama:g.Def "text_of" Zq
 agn:g.Def "display_parts" Tw
 agN:g.Def "add_language" Uc
 agR:g.Def "first_on_way" Uf
 akO:g.Def "ways_end" XY
 ahs:g.Def "put_message" UQ
 agQ:g.Def "drop_message" Ue
 ajE:g.Def "check_tag" WU
 ajD:g.Def "check_key" WT
 aff:g.Def "check_separator" Sh
 agO:g.Def "check_length" Ud
 agU:g.Def "read_message" Ui
 al8:g.Def "line_of" Zp
 ago:g.Def "language_line" Tz
 ajJ:g.Def "rule_line" MU
 agp:g.Def "message_lines" TB
 afN:g.Def "language_lines" SR
 Z6:g.Def "text_of_languages" Ry
 agq:g.Def "read_fallback" TC
 afP:g.Def "read_separator" SU
 afO:g.Def "read_languages" SS
 akN:g.Def "own_keys" XX
 ahq:g.Def "lacked_keys" UO
 ail:g.Def "names_more" MB
 akM:g.Def "odd_keys" XW
 agT:g.Def "number_alone" Uh
 Z5:g.Def "check_tag_and_key" Rx
 aij:g.Def "check_slot" VR
 ahp:g.Def "check_value" UN
 agk:g.Def "asked_message" Tt
 anL:g.Def "key_at" A_
 ajF:g.Def "displayed" WV
 agm:g.Def "call_language" Tv
 aig:g.Def "call_rules" VO
 akK:g.Def "call_put" XU
 aju:g.Def "call_drop" WK
 aie:g.Def "call_judge" VM
 ahn:g.Def "call_number" UL
 ajC:g.Def "call_word" WS
 aid:g.Def "call_clear" VL
 ajA:g.Def "call_show" WQ
 aii:g.Def "call_wants" VQ
 aih:g.Def "call_slots" VP
 ajB:g.Def "call_text" WR
 agl:g.Def "call_category" Tu
 ajv:g.Def "call_keys" WL
 akI:g.Def "call_key" XS
 aif:g.Def "call_lacks" VN
 ajw:g.Def "call_lack" WM
 ajy:g.Def "call_odds" WO
 akJ:g.Def "call_odd" XT
 aic:g.Def "call_chain" MA
 ajz:g.Def "call_save" WP
 ajx:g.Def "call_load" WN
 ahm:g.Def "answer_next" DX
 akL:g.Def "laid_out" XV
 awV:g.Def "answers" NJ
def Q1(i:cp):Sp:=λk a j _=>∃h,k=[h]/\bN λ(e:S) (l:?bD)=>h=?aY/\cJ i a e (l.map V.int)/\By l=M/\∀c b,(∀d f,a d=Y f->b d=Y f)->a c=U->b c=Y (.lst ((Sv l).map V.int))->j ?aC b
def G.Aim(g:G):=∀a b,tY g.K "answers" "answers" NJ a b->?c0 18 a b ["calls"] (Q1 g.K)
instance:Nonempty G:=⟨(k8,PySem.W.aWorld 0,[],λ_=>U,{},0,0,0,0,0,0,0,0,0,0,0,0,0,0,0,0,0,0,0,0,0,0,0,0,0,0)⟩
@[irreducible] noncomputable def g:G:=aeZ λg=>dL g/\¬g.Aim
instance[a:?da]:FO g.K g.e_ "text":=(a.NB,a.ag5)
instance[a:?da]:FO g.K g.e_ "parts":=(a.NB,a.agA)
instance[a:?da]:FO g.K g.e_ "named":=(a.NB,a.agz)
instance[a:?da]:FO g.K g.qS "kind":=(a.Jl,a.aj4)
instance[a:?da]:FO g.K g.qS "slot":=(a.Jl,a.aj5)
instance[a:?da]:FO g.K g.qS "branches":=(a.Jl,a.agv)
instance[a:?da]:FO g.K g.qL "kind":=(a.NY,a.ahx)
instance[a:?da]:FO g.K g.qL "fitting":=(a.NY,a.afS)
instance[a:?da]:FO g.K g.qL "parts":=(a.NY,a.ag1)
instance[a:?da]:FO g.K g.Term "category":=(a.CP,a.agC)
instance[a:?da]:FO g.K g.Term "ends":=(a.CP,a.aj6)
instance[a:?da]:FO g.K g.Term "outside":=(a.CP,a.aha)
instance[a:?da]:FO g.K g.Term "modulus":=(a.CP,a.ag9)
instance[a:?da]:FO g.K g.Term "low":=(a.CP,a.alf)
instance[a:?da]:FO g.K g.Term "high":=(a.CP,a.aj7)
instance[a:?da]:FO g.K g.rB "text":=(a.YJ,a.ag2)
instance[a:?da]:FO g.K g.rB "wanted":=(a.YJ,a.afT)
instance[a:?da]:FO g.K g.Language "tag":=(a.Em,a.ag3)
instance[a:?da]:FO g.K g.Language "fallback":=(a.Em,a.Z9)
instance[a:?da]:FO g.K g.Language "separator":=(a.Em,a.Y4)
instance[a:?da]:FO g.K g.Language "terms":=(a.Em,a.afV)
instance[a:?da]:FO g.K g.Language "messages":=(a.Em,a.Z_)
instance[a:?da]:FO g.K g.Found "steps":=(a.OB,a.ahy)
instance[a:?da]:FO g.K g.Found "language":=(a.OB,a.afU)
instance[a:?da]:FO g.K g.Found "message":=(a.OB,a.agu)
instance[a:?da]:FO g.K g.jG "languages":=(a.rJ,a.agx)
instance[a:?da]:FO g.K g.jG "arguments":=(a.rJ,a.agw)
instance[a:?da]:FO g.K g.d8 "kind":=(a.Ff,a.aiH)
instance[a:?da]:FO g.K g.d8 "slot":=(a.Ff,a.aiI)
instance[a:?da]:FO g.K g.d8 "counted":=(a.Ff,a.agy)
instance[a:?da]:FO g.K g.d8 "outer_parts":=(a.Ff,a.aey)
instance[a:?da]:FO g.K g.d8 "branches":=(a.Ff,a.afW)
instance[a:?da]:FO g.K g.b8 "text":=(a.gw,a.ahB)
instance[a:?da]:FO g.K g.b8 "place":=(a.gw,a.ag8)
instance[a:?da]:FO g.K g.b8 "levels":=(a.gw,a.agB)
instance[a:?da]:FO g.K g.b8 "parts":=(a.gw,a.ag7)
instance[a:?da]:FO g.K g.b8 "named":=(a.gw,a.ag6)
instance[a:?da]:FO g.K g.gU "text":=(a.pd,a.ahA)
instance[a:?da]:FO g.K g.gU "place":=(a.pd,a.ag4)
instance[a:?da]:FO g.K g.gU "line":=(a.pd,a.ahz)
instance[a:?da]:FO g.K g.gU "languages":=(a.pd,a.aeX)
instance[a:?da]:FO g.K g.gU "language":=(a.pd,a.afm)
instance[a:?da]:FO g.K g.gU "last_key":=(a.pd,a.afn)
instance[a:?da]:FO g.K g.Answer "number":=(a.Cr,a.Tk)
instance[a:?da]:FO g.K g.Answer "row":=(a.Cr,a.Vz)
instance[a:?da]:FO g.K g.Answer "text":=(a.Cr,a.UB)
instance[a:?da]:FO g.K g.pz "calls":=(a.AK,a.aiF)
instance[a:?da]:FO g.K g.pz "place":=(a.AK,a.aiG)
abbrev Ic(c b a:V):?cq:=[("text",c),("parts",b),("named",a)]
abbrev Pp(b c a:V):?cq:=[("kind",b),("slot",c),("branches",a)]
abbrev Ow(b a c:V):?cq:=[("kind",b),("fitting",a),("parts",c)]
abbrev JA(a b d c low high:V):?cq:=[("category",a),("ends",b),("outside",d),("modulus",c),("low",low),("high",high)]
abbrev EO(a b:V):?cq:=[("text",a),("wanted",b)]
abbrev iX(d a c e b:V):?cq:=[("tag",d),("fallback",a),("separator",c),("terms",e),("messages",b)]
abbrev Ji(c a b:V):?cq:=[("steps",c),("language",a),("message",b)]
abbrev qu(b a:V):?cq:=[("languages",b),("arguments",a)]
abbrev zt(c e b d a:V):?cq:=[("kind",c),("slot",e),("counted",b),("outer_parts",d),("branches",a)]
abbrev vt(e d a c b:V):?cq:=[("text",e),("place",d),("levels",a),("parts",c),("named",b)]
abbrev qK(f e d b a c:V):?cq:=[("text",f),("place",e),("line",d),("languages",b),("language",a),("last_key",c)]
abbrev Ov(a b c:V):?cq:=[("number",a),("row",b),("text",c)]
abbrev Po(a b:V):?cq:=[("calls",a),("place",b)]
end Sm
namespace L2
open PySem.W (Looks)
def aht:entryFor table "proto.unchain"=Y Builtin.«proto.unchain»:=entryFor_of_fast (by kernel_rfl)
section
variable{P:eP}{w:dZ}{A:eV}{E:J->aO->Prop}{s:aO}{a h:S}
def amS(l:A.handled=Y ?dM)(q:h≠a)(m:?b5=Y c)(j:c.data=.fields f)(o:2<Q f)(n:s.1.get? h=Y d)(k:d.data=.fields e)(i:e[2]?=Y .none)(p:E ?s {s with heap:=s.1.update a (vb (·.setIfInBounds 2 ?dM))}):?cM ?iT (Ib ?s:Sem b) ah:=by
 unfold Ib;show bC (Ut ?_);rw[l];dsimp only;rw[bz (show(dR h !=dR a)=M by simp[q])]
 show bC (wZ (wpAny_runValue (agb aht ?_)));unfold Builtin.«proto.unchain»;dsimp only;show bC (rf n k i ?_);rw[bz (show(jL==jL)=M from rfl)];show ?ek;change bH _ A (do
  updateField a 2 ?dM
  throw ?s) ah E s
 show ?ju;show wX (M:=?iT) (A:=A) (E:=E) (Q:=λ_ r=>?iK A (throw (dR a):Sem b) ah E r) (x:=?dM) m j o (MJ p)
end
section
variable{P:eP}{w:dZ}{A:eV}{E:J->aO->Prop}{dW:Env}{s:aO}{x:Sem J}{ah:Flow->aO->Prop}{h:S}
def aoJ(X:A.handled=Y ?dM)(d:?cM ?iT x (λy b=>JS λa c j bm k p q=>y=?s/\ww b.1 c j bm/\?es b.1 a ?aC k/\h≠a/\b.1.get? h=Y p/\p.data=.fields q/\q[2]?=Y jL/\∀f,(∀e,e≠a->f.get? e=b.1.get? e)->(∀j,b.1.get? a=Y j->∃i,f.get? a=Y i)->hJ f a ?aC k .none ?dM->E ?s {b with heap:=f})):?cM ?iT (Nz dW (Y x) U) ah:=by
 unfold Nz;show bC (kX d (λy b i=>?_) λ_ _ x=>x);let(a,c,j,bm,k,p,q,0,(v,(d,d,d,d,d,d,d,d,d,d,d,d,d,d,d,0),l,d,d,d),(k,z,o,m,n,d,i,u),f,j,T,C,H):=i;let p:E ?s {b with heap:=b.1.update a (vb (·.setIfInBounds 2 ?dM))}:=by
  let r:2<Q z:=(yp.mp u).1;let t:=AH 2 ?dM o d;show H _ (λe l=>oF _ l) (λ_ _=>(_,t)) (_,_,t,?_,?_,yu d _,?_,?_)
  .rw[Ly];show m
  .rw[TW];show n
  .rw[S9 ?i];show i
  show Kv r
 let r:2<Q z:=(yp.mp u).1;let fin:∀{ah:Flow->aO->Prop},?iK A (Ib ?s:Sem Flow) ah E b:=amS X f o d r j T C p;let(a,g,a,a,a):=b;let B:(dR c::bm).contains ?ca=M:=by rw[wR,l,DY]
 let(a,a,a,a):=k;dsimp only at m n d;subst m n d
 repeat(first
  |with_reducible refine yA o ?_
  |with_reducible refine yA v ?_
  |(with_reducible refine GC v ?_;rw[B])
  |wp_step)
 rw[i];show ?ek;rw[bp ?i]
 show dA fin
end
section
variable{X:Cx}{k:Nat}{f C:S}{fd:oG}{ps:List Str}{sp:Sp}
def alr{Qx:S->L->Prop}{s:J->aO->Prop}(p:vK X.K C f)(r:?cw ps sp)(z:nZ ?ic X.A)(P:?a7 [])(n:?bf v y e a)(j:a_ m b)(A:R m<=cw)(h:∀d,e d=U->sp (?J::m) (D e d (xo d C U)) (λx i=>x=.cT/\Qx d i) E0)(H:∀l i,?bf v y i l->Qx ?N i->s (.ref ?N) l):?r (px ?bC b) s X.xe a:=by
 let c:e ?N=U:=n.bU.fresh (rZ _);let u:=h ?N c;let o:=Inv.P1 (C:=C) (rest:=b) n;let w:a_ (V.ref ?N::m) (?gZ::b):=.cons Z j;let T:(?gZ::b).length=R ps:=by
  let q:=w.length;rw[r.len _ _ _ _ u]at q;show q.symm
 let t:=P {a with heap:=(a.1.push (uB b)).push (sA C a.1.1.size)} (?gZ::b) o.iH (by rw[mD];show T)
 rw[mD]at t;show O2 (K:=X.K) n.iH p.cl.ei p.init (beq_iff_eq.mp p.fn) (by rw[<-j.length];show A) ?_
 show yM (yI (r.run _ X.stack _ _ (?gZ::b,[]) (?gZ::b) _ _ (z.i9 C b []) (o.Bb.i9 C b []) t w u) λj l c=>?_)
 rcases j with q|E
 .show jy c
 cases E with
 |ret a=>
  let(x,z,A,b,B,a):=o.after c;subst B;show(b,H l z A a)
 |next=>show jy c
 |brk=>show jy c
 |cont=>show jy c
end
open PySem.W (Looks)
def EHR(k:cp)(l b:S)(p:Sp)(q:TA)(e:XK)(s:St):XK:=λm n j=>bN λd o=>m=?J/\n=Y o/\ul k ?J ?bk=Y M/\q s j λi f=>R i<=cw/\∀a,f a=U->p (?s::i) (D f a (xo a b U)) (λr c=>r=.cT/\∃h,c a=Y (xo a b (Y h))/\e ?av (Y h) (del c a)/\e .none U (del c a)) E0
def PM(i:cp)(j b c:S)(k:Str)(l m:Sp)(o:TE)(n:TA)(e:XK):TS:=λd a f=>FJ c k l [] (EHR i j b m n e a) o vH a f λ_ h=>d.nx a h
section
variable{P:eP}{w:dZ}{K:cp}{mg:Str->Option J}{cu:dg}{aM:List Str}{bX:Str}{aX:jE}{fn:S}{cd:J}{A:eV}{outer:List Env}{s0:aO}{H0:L}{E:XK}{k kW j:Nat}{f fW C CL aN:S}{fd Ka:oG}{ps Bk:List Str}{wL uU:Sp}{x xW sn m:Str}{o e:dz}{gQ gF zN np p wI Dm tT pos:Pos}{ta:TE}{t:TA}
def aoG{X:Cx}{pl:Sem Bool}(e5:X.stack=X.env::X.outer)(e4:∀r:Option J,PassesOwnAt (bQ X.1 X.w) (X.A.mark r) X.A X.env X.xe)(e0:∀{d:List (S×Obj)} {n:St} {H':L} {q:aO} {a C c:S} {i:J},Inv X d n H' q->hJ q.1 a (.ref C) (Y c) .none i->H' a=U->Q X.8.1.1<=a->E (.ref C) (Y c) H'->E .none U H'->X.xe (.ref a) q)(a4:∀(s:List (S×Obj)) (v:J->aO->Prop),PE (X.sH s v) o ta)(a2:jO X.K CL)(B:j1 X.K CL m f)(u:lR X.1 X.w X.K X.mg X.base (fz X.1 X.w) k f fd ps wL)(b0:ii j X.A)(a1:Binds X.K fd ps [])(c4:Gl X x)(d1:X.mg x=Y (.ref aN))(c5:Gl X xW)(d2:X.mg xW=Y (.ref C))(a6:vK X.K C fW)(b3:sE X.1 X.w X.K X.mg X.base kW fW Ka Bk uU)(b6:Binds X.K Ka Bk [])(b5:∀H,PA (X.pP H) [e] t)(a7:k<=j)(d0:kW+1<=j)(a5:vi (.Call (.Attribute o m gQ) [] [] gF) U zN.line X.env=pure I)(a8:dU (.Call (.Attribute o m gQ) [] [] gF) X.env=(do
 let b<-dU o X.env
 uz gQ.atName
 let(f,first)<-tG [b] (vg b m pl)
 vn gF f first (iS gF (dP [] X.env)) (sj gF (sf [] X.env))))(c1:(x==("__debug__":Str))=I)(c2:(xW==("__debug__":Str))=I)(d6:dP [e] X.env=(I,dU e X.env)::dP [] X.env)(d5:(iS wI (dP [] X.env)).any (·.1)=I):PS X (.Try [.Expr (.Call (.Attribute o m gQ) [] [] gF) zN] [.ExceptHandler (Y (.Name x np)) U [.Raise (Y (.Call (.Name xW p) [e] [] wI)) U Dm] tT] [] [] pos) (PM X.K aN C CL m wL uU ta t E):=by
 intro d r n s b y h;show afD ?_;let a3:=y.ok;generalize d7:(λ(H:J) (z:aO)=>bH (bQ X.1 X.w) X.A (vh H X.env) (λ_ a9=>bH (bQ X.1 X.w) X.A (Cj H U) (λ_ a0=>
  bH (bQ X.1 X.w) X.A (handleBy H X.env [.ExceptHandler (Y (.Name x np)) U [.Raise (Y (.Call (.Name xW p) [e] [] wI)) U Dm] tT]) (SP X d b) X.xe a0) X.xe a9) X.xe z)=v
 let e1:bH (bQ X.1 X.w) X.A (execs [.Expr (.Call (.Attribute o m gQ) [] [] gF) zN] X.env) (SP (X.sH (X.pn++d) v) [] {nx:=λa0 H'=>b.nx a0 H',rt:=λ_ _=>False,bk:=λ_ _=>False,ct:=λ_ _=>False}) v r:=by
  show GP ?_;let z:Inv (X.sH (X.pn++d) v) [] n s r:=y.sH v;show wpAny_Expr_any ?_ z.quiet a5;show DF (pl:=pl) (df (a4 _ _ [] r n s _ z h) λa4 r b1=>?_) a8;let(s,s,z,a8,a,c,c,a5,y,l,c):=b1;subst a5;obtain rfl:a4=dR a:=a8;show HH (X:=X.sH (X.pn++d) v) z y a2 B l ?_;let c:wL ([V.ref a]++[]) s (λ_ H'=>b.nx n H') (EHR X.K aN C uU t E n):=c;let b:(([dR a]:List J)++[]).length=R ps:=by
   have:=u.len _ _ _ _ c;rw[<-this];rfl
  show KZ (first:=[.ref a]) z.iH B.kp (yM (yI (u.run X.A X.stack r s ([.ref a],[]) ([dR a]++[]) ([V.ref a]++[]) _ _ (b0.mono a7) z.Bb (a1 r [.ref a] z.iH b) (show a_ [V.ref a] [dR a]from .cons Z .nil) c) λa5 q a2=>?_));rcases a5 with H|c0
  .let(b,b1,u,T,y,i,0,d3,c6,e7,d4,a5,t,u,e2,a8,b4,(B,a7,H,b2,c3,c7),B):=a2;cases H;cases b2;let B:i=.none:=B.elim id λ(_,_,i,_)=>by cases i
   subst B;let B:Inv X d n s r:=z.wA a3;let H:sF X d b:=Dj B a8;let b2:sF X d T:=Dj B b4;let e3:b∉X.fs:=B.Qa a8;let B:Inv X d n y q:=(z.Dd (ch:=[]) d3 e7 d4 c6 λs i=>bK i (by simp)).wA a3
   change v (.ref b) q;rw[<-d7];show P4 B e5 a5 t u e2 H b2 λc6 q q B a8 v a5=>?_;show IM q B a8 u v H a5 λb2 q B b4=>?_;show Z2 ?_ (by intro c;cases c)
   let a8:=q.pP (.ref b);show X1 (uF (X:=X.pP (.ref b)) a8 c4 d1 ?_ c1);let LT:rG (bQ X.1 X.w) b2.1 (Jh (.ref b)) (.ref b1):=by
    let(b2,c4,b1,a8,_):=B;rw[<-a8];show(rG.ld (part:=U) b1).andThen .now
   show(af6 q.iH LT c3).here ?_;show codeAny_handlers_suite ?_;show IM q B b4 u v H a5 λa8 v q B=>?_;let(B,c3,b4,a5,a5,b1,a5,c1):=id q;let a5:Inv (X.pP (.ref b)) ((b,B)::d) n y a8:=by
    let q:=v.pP (.ref b);show(q.ok,q.os,q.bare,q.base,q.loc,q.cell,q.free,q.8,λp v=>?_,q.bU,q.len);rcases iE.mp v with i|i
    .show q.pin p (BA _ i)
    rcases bM.mp i with w|w
    .rw[w];show(b4,u,H.2.1,e3,λv c=>by rw[b1]at c;cases c)
    show q.pin p (ug _ w)
   let q:(X.pP (.ref b)).A.handled=Y (.ref b):=rfl;change bH (bQ X.1 X.w) (X.A.mark (Y (.ref b))) (execs [.Raise (Y (.Call (.Name xW p) [e] [] wI)) U Dm] X.env) _ _ a8;show GP ?_;rw[TL];show bC (Am (aoJ (h:=b) Z (bC (kX (Q:=λv r=>JS λa C o bm H q u=>v=.ref a/\ww r.1 C o bm/\hJ r.1 a (.ref C) H .none .none/\b≠a/\r.1.get? b=Y q/\q.data=.fields u/\u[2]?=Y jL/\∀q,(∀s,s≠a->q.get? s=r.1.get? s)->(∀o,r.1.get? a=Y o->∃b2,q.get? a=Y b2)->hJ q a (.ref C) H .none (.ref b)->zd (bQ X.1 X.w) (X.A.mark (Y (.ref b))) X.env (λx a9=>cameBackBy (bQ X.1 X.w) X.A X.env X.xe x a9) (.ref a) {r with heap:=q}) (E:=λ_ _=>False) ?_ (λv c6 H=>bC (Am (dA H))) λ_ _ H=>H.elim))))
   show yx (uF (X:=X.pP (.ref b)) a5 c5 d2 ?_ c2);show yw (h₀:=X.base) a5.ok.mod.1 a6.kp (df (b5 (.ref b) wI _ a8 n y _ a5 c7) λu u a5=>?_) d6 d5;let(c4,b2,H,a9,b4,a8):=a5;show(H.iH,?_);show alr (X:=X.pP (.ref b)) (Qx:=λx y=>∃a7,y x=Y (xo x C (Y a7))/\E (.ref C) (Y a7) (del y x)/\E .none U (del y x)) a6 b3 ?_ b6 H a9 b4 a8 ?_
   .have:=(b0.mono d0).toH (Y (.ref b))
    skip
    show this
   intro b0 a8 y a5;let(b4,a7,b5,b6):=a5;let a9:=Jz y.bU a7;let(c2,bm,b3):=OI y.iH a6.cl.ei;let a5:=y.pin (b,B) (ug _ (mV));let a6:b≠Q u.1.1+1:=λi=>by
    have:=a5.2.1;rw[i,a7]at this;cases this
   show(_,C,c2,bm,Y b4,B,c3,Z,b3,a9,a6,a5.1,b1,c1,λq a6 b3 b1=>?_);let a5:Inv X ((b,B)::d) n b2 u:=H.m7 a3;let H:Inv X ((b,B)::d) n (del a8 (Q u.1.1+1)) b0:=(y.drop a7).m7 a3;let y:sF X ((b,B)::d) (Q u.1.1+1):=Dj a5 (rZ _);let a7:Q u.1.1+1∉X.fs:=a5.Qa (rZ _);let a7:Inv X ((b,B)::d) n (del a8 (Q u.1.1+1)) {b0 with heap:=q}:=by
    show H.PP (a:=Q u.1.1+1) (T:=Q u.1.1+1) (λs o e a1 _ _=>(a6 s a1).trans e,λs o e a1=>(o.slots,(a6 s λi=>?_).trans e),λs o e=>?_) Ig Ig y y
    .subst i;let(_,a4,d,B):=H.stack.mem a1;let(q,H,y,_,_,q,_):=a9;rw[y]at d;cases d;show B H q
    by_cases i:s=Q u.1.1+1
    .subst i;show b3 o e
    show(o,(a6 s i).trans e)
   show e4 (Y (.ref b)) _ _ (e0 a7 b1 Ig (by have:=a5.sz;show ae5 this) b5 b6)
  cases c0 with
  |ret a4=>
   let(v,H',b,i,d):=z.after a2;show BP (n,H',b,d)
  |next=>show jy a2
  |brk=>show jy a2
  |cont=>show jy a2
 show kX e1 (λf r c=>?_) λe r c=>?_
 .cases f with
  |next=>
   let(a0,H',b,c):=c;show BP (a0,H',b.wA a3,c)
  |brk=>
   let(a0,H',b,c):=c;show c.elim
  |cont=>
   let(a0,H',b,c):=c;show c.elim
  |ret a4=>
   let(v,a0,H',b,i,c):=c;show c.elim
 show c
def aqF(a1:∀(b:?H) (c:J->aO->Prop),PE ((?e aX fn cd A outer s0 H0 E).sH b c) o ta)(r:jO K CL)(a6:j1 K CL m f)(i:?be k f fd ps wL)(b0:ii j ?eK)(B:?ej K fd ps)(a2:?aQ x)(a7:mg x=Y (.ref aN))(a3:?aQ xW)(a8:mg xW=Y ?bC)(q:vK K C fW)(l:sE P w K mg cu kW fW Ka Bk uU)(H:?ej K Ka Bk)(y:∀u,PA ((?e aX fn cd A outer s0 H0 E).pP u) [e] t)(a4:?ade (k<=j))(a5:?ade (kW+1<=j))(b1:?arf (vi (?D [] gF) U zN.line ?k=pure I))(b3:dU (?D [] gF) ?k=(do
 let h<-dU o (fG bX aX s0.1.1.size fn cd)
 ?eP
 let(f,first)<-tG [h] (vg h m a)
 vn gF f first (iS gF (dP [] ?k)) (sj gF (sf [] ?k))):=by rfl)(X:?dW=I:=by decide)(a0:(xW==?F)=I:=by decide)(b2:dP [e] ?k=(I,dU e ?k)::dP [] ?k:=by rfl)(a9:(iS wI (dP [] ?k)).any (·.1)=I:=by rfl):?aq (?e aX fn cd A outer s0 H0 E) (PM K aN C CL m wL uU ta t E):=by
 let h:∀d:Option J,PassesOwnAt ?iT ((?e aX fn cd A outer s0 H0 E).A.mark d) (?e aX fn cd A outer s0 H0 E).A (?e aX fn cd A outer s0 H0 E).env (?e aX fn cd A outer s0 H0 E).xe:=
  λd=>PassesOwnAt.leaving (Q₁:=λe a=>fz P w outer H0 s0 E e a)
 let d:∀{n:?H} {u:St} {H':L} {b:aO} {a C c:S} {s:J},Inv (?e aX fn cd A outer s0 H0 E) n u H' b->hJ b.1 a ?bC (Y c) .none s->H' a=U->Q s0.1.1<=a->E ?bC (Y c) H'->E .none U H'->(?e aX fn cd A outer s0 H0 E).xe ?s b:=λn aN a v z T=>m9 n aN ?aG a v z (.inr T);show aoG Z h d a1 r a6 i b0 B a2 a7 a3 a8 q l H y a4 a5 b1 b3 X a0 b2 a9
end
section
variable{X:Cx}{k:Nat}{f C:S}{fd:oG}{ps:List Str}{sp:Sp}{x m:Str}{p pos gQ:Pos}{e o:dz}{es:List dz}{ta:TE}{t:TA}
def aqI(q:?cw ps sp)(z:nZ k X.A)(w:?a7 [])(j:?bf s u i d)(c:a_ n a)(h:sp n i l E0):?r (px ?bL a) (EP X s u l) X.xe d:=by
 let y:R a=R ps:=by rw[<-c.length];show q.len _ _ _ _ h
 let r:=w d a j.iH (by rw[mD];show y)
 rw[mD]at r;show yM (yI (q.run X.A X.stack d i (a,[]) a n l z j.Bb r c h) λc A b=>?_);rcases c with e|v
 .show jy b
 cases v with
 |ret B=>show j.after b
 |next=>lia
 |brk=>lia
 |cont=>lia
def aoy{pl:Sem Bool}(q:?cw ps sp)(B:nZ k X.A)(y:?jr x)(z:X.mg x=Y ?bC)(c:FE X.K C m f)(v:?a7 [])(u:?dA)(w:?ade (?dW=I))(E:?arf (?G ?ah=?de::?G es))(A:?arf ((?cb).any (·.1)=I))(H:?V (?as ?gb ?ah pos)=(do
 let l<-dU (.Name x p) X.env
 ?eP
 let(f,first)<-tG [l] (vg l m pl)
 vn pos f first (?g4 (?G ?ah)) (?bG pos)):=by rfl):?am (?as ?gb ?ah pos) (JJ sp [] E0 t):=by
 intro P a d r j b h;show DF (pl:=pl) (uF b y z ?_ w) H;show aeN b.iH c.ga (ae6 b.iH c.rd c.at_ Z ?_);let s:=b.tok (a.toks+1);show yw (first:=[]) (h₀:=X.base) b.ok.mod.1 c.kp (df (u pos P _ d r _ s h) λa a T=>?_) E A;let(n,d,i,b,a):=T;show(i.iH,?_);let a:sp n d j E0:=by simp_all
 show aqI q B v i b a
end
section
variable{bZ:sD}{A:eV}{E:J->aO->Prop}{s:aO}{a:S}{c tb cx:J}{d:Option S}{dW:Env}{outer:List Env}{cu:dg}{bg:S}{ah:Unit->aO->Prop}
def amh(p:?dO s.1 ?av)(B:mR s.1 a b r)(v:∀f t,(∀e,e≠b->f.get? e=s.1.get? e)->?dO f ?av->mR f a b t->ah () {s with heap:=f}):?cM bZ (Cj ?s i) ah:=by
 let(z,H,m,x,y,l,j):=p;let(n,P,C,k,h,u):=B;let o:3<Q C:=(yp.mp u).1;unfold Cj;show bC (rf m l j.1 ?_);rw[bz (show(dR b !=jL)=M from rfl)];show wX k h o (v _ (i.elim jL λq=>nX q) (λe w=>oF _ w) (z,H,?_,x,y,l,j) (n,_,_,AH 3 _ k h,yu h _,?_))
 .rw[oF _ (bI n)];show m
 rw[Kv o]
def u7(u:A.frames=Y ?cn)(C:?io)(z:dW.frame=Y bg)(r:?dO s.1 ?dM)(T:mR s.1 a h t)(x:∀k j,FG (iO ?cn) a ?dM s.1 k->?dO k ?dh->mR k a j (nX bg)->(j=h\/?O<=j)->ah () {s with heap:=k}):?cM bZ (vh ?s dW) ah:=by
 let(a1,q,H,n,p,y,v):=id r;let(a0,b,X,m,o,w):=id T;unfold vh;simp only[z];show bC (rf H y v.1 ?_);rw[bz (show(dR h !=jL)=M from rfl)];show bC (rf m o w ?_);by_cases B:t=nX bg
 .subst B;rw[bz ?c]
  show dA (x s.1 h (λb f e _ _ _=>e,λb f e _=>(f.slots,e),λb f e=>(f,e)) r T ?aG)
 rw[bp (by simpa using B)]
 let i:3<Q X:=(yp.mp w).1;show bC (wX m o i ?_);let P:∀b f,?fh=Y f->(∀q,f.data≠.fields q)->b≠h:=λb f e l i=>by
  subst i;rw[m]at e;cases e;show l X o
 let r:(?a8 h).FunFrames cu ?cn:=C.of_keeps λb f e l=>(f,by rw[oF _ (P b f e l)];show e,Z)
 let w:∀b∈iO (dW::outer),b≠h:=λb e=>by
  let(_,f,t,l):=C.mem e;show P b f t l
 show OH (s:={s with heap:=?a8 h}) u r z (a1,q,by rw[oF _ (bI a0)];show H,n,p,y,v) λk j p r t l=>x k j (λb f e q k n=>?_,λb f e n=>?_,λb f e=>?_) r t (.inr ?_)
 .show p.keep b f (by rw[oF _ (λi=>k (by rw[i]))];show e) q (λi=>nomatch i) n
 .show p.slot b f (by rw[oF _ (w b n)];show e) n
 .by_cases i:b=h
  .subst i;show p.there b _ (AH 3 _ m o)
  show p.there b f (by rw[oF _ i];show e)
 let u:(?a8 h).1.size<=j:=l;rw[afq]at u;show u
def FunFrames.ak{h i:dg}{l:?eH}(r:h.FunFrames cu l)(j:∀b e,?ep=Y e->b∈iO l->∃k,i.get? b=Y {e with slots:=k}):i.FunFrames cu l:=by
 induction l with
 |nil=>trivial
 |cons dW rest ih=>
  let(q,(bg,e,f,u,v,p),w):=r;let t:bg∈iO (dW::rest):=by unfold iO;rw[BC,f];show mV
  let(k,m):=j bg e v t;show(q,(bg,_,f,u,m,p),ih w λb x n o=>j b x n ?_);unfold iO;rw[BC,f];show gY _ o
end
section
variable{P:eP}{w:dZ}{K:cp}{mg:Str->Option J}{cu:dg}{aM:List Str}{bX:Str}{aX:jE}{f:S}{cd:J}{A:eV}{outer:List Env}{s:aO}{H:L}{E:XK}
structure PU(e:List S)(j i d:S)(h c:dg):Prop where
 keep:∀a b,?ap=Y b->a≠j->a≠i->a≠d->a∉e->?jv=Y b
 slot:∀a b,?ap=Y b->a∈e->∃l,?jv=Y {b with slots:=l}
 there:∀a b,?ap=Y b->a≠d->∃k,?jv=Y k
def asj{s1 h:aO}(a6:h.os=s.os)(p:yW h.gens)(l:Un (iO outer) [] H d s.1 s1.1)(a4:iN P w d s1.1)(i:(?e aX f cd A outer s H E).A.frames=Y ?eG)(k:s1.1.FunFrames cu ?eG)(a5:∀b∈iO (fG bX aX s.1.1.size f cd::outer),d b=U)(mid:PU (iO ?eG) j C z s1.1 h.1)(a:hJ h.1 j (.ref B) (Y X) (.ref t) T)(m:mR h.1 j t c)(a1:d t=U/\?O<=t)(a2:d C=U/\?O<=C)(a0:d z=U/\?O<=z)(n:d j=U/\?O<=j)(q:∀b,Q h.1.1<=b->d b=U)(e:?O<=Q h.1.1)(r:E (.ref B) (Y X) d)(a3:T=.none\/E .none U d):(?e aX f cd A outer s H E).xe ?dh h:=by
 let c:h.1.FunFrames cu ?eG:=FunFrames.ak k mid.slot;change ?iK (A.deeper ?an) (Fa ?an ?dh) _ _ h;unfold Fa;show bC (u7 (cu:=cu) (outer:=outer) (bg:=s.1.1.size) i c Z a m λk u v i t a=>?_);let m:d u=U/\?O<=u:=by
  rcases a with c|c
  .rw[c];show a1
  show(q _ c,fZ e c)
 show Oc (s:={h with heap:=k}) i t λq z a7 a8=>?_;let i:∀{b x:S} {o:Obj},?fh=Y o->?O<=x->b≠x:=λ{b x o} a e c=>by
  subst c;show ?b2 (jw (fS a) e)
 let C:∀b o,?fh=Y o->b∉iO outer->b∉iO ?eG:=λb o a e h=>by
  let h:b∈s.1.1.size::iO outer:=h;rcases ?fb with c|c
  .rw[c]at a;show ?b2 (fS a)
  show e c
 let t:∀b,b∈iO outer->b∈iO ?eG:=λb e=>gY s.1.1.size e;let y:∀b,b≠u->q.get? b=k.get? b:=z;show(j,B,X,u,d,T,Z,a6,p,(λb o a q e k=>?_,λb o a q e k=>?_,λb o a q k=>l.free b o a q k,λb o a k=>?_,l.5,l.6,l.7),a4.Py λb u e a=>?_,a7,a8,n.1,m.1,n.2,m.2,r,a3)
 .let c:=C b o a e;show(y b (i a m.2)).trans (v.keep b o (mid.keep b o (l.keep b o a q e k) (i a n.2) (i a a2.2) (i a a0.2) c) (i a n.2) (λr=>by cases r;show i a a1.2 Z) c)
 .let(h,h):=l.slot b o a q e k;let(j,j):=mid.slot b _ h (t b e);let(q,p):=v.slot b _ j (t b e);show(q,(y b (i a m.2)).trans p)
 .let(q,h):=l.there b o a k;let(k,j):=mid.there b q h (i a a0.2);let(h,p):=v.there b k j;show(h,(y b (i a m.2)).trans p)
 let p:∀x,d x=U->b≠x:=λx r c=>e (by rw[c];show r)
 let d:b∉iO ?eG:=λc=>e (a5 b c);show(y b (p _ m.1)).trans (v.keep b u (mid.keep b u a (p _ n.1) (p _ a2.1) (p _ a0.1) d) (p _ n.1) (λr=>by cases r;show p _ a1.1 Z) d)
end
theorem Inv.xe{f:J->aO->Prop}(a:Inv c d h b e):Inv {c with xe:=f} d h b e:=
 ((a.ok.mod,a.ok.kind,a.ok.i7,a.ok.blt,a.ok.above,a.ok.inj,a.ok.has,a.ok.8,a.ok.hd,a.ok.frames,a.ok.qY,a.ok.Ds,a.ok.bs,a.ok.ua,a.ok.Bf,a.ok.Bc,a.ok.rM,a.ok.wK),a.os,a.bare,a.base,a.loc,a.cell,a.free,a.8,a.pin,a.bU,a.len)
def Cx.JY(l:Cx)(h:XK)(d:aO)(k:L)(q:jE)(m:Env)(o:?aD):J->aO->Prop:=λn e=>Qk λ(p:?H) (r:St) (a:L) (b f j c:S) (i:J)=>
 Inv (l.JX d k q m o) p r a e/\n=?av/\hJ e.1 b ?bL (Y j) ?aC i/\mR e.1 b c .none/\a b=U/\a c=U/\Q d.1.1<=b/\Q d.1.1<=c/\h ?bL (Y j) a/\(i=.none\/h .none U a)
abbrev Cx.pE(b:Cx)(h:XK)(e:aO)(a:L)(f:jE)(c:Env)(d:?aD):Cx:={b.JX e a f c d with xe:=b.JY h e a f c d}
def JI{a:Cx}:e6 (fz a.1 a.w) (a.pE b c d k h i) b:=by
 intro j m e P e H f w;let(q,n,s,p,e,r,0,z,y,X,A,E,T,C,B,u,t,v,x):=w;let o:Inv (a.pE b c d k h i) j m e H:=f.Dd (ch:=[]) z X A y λa a=>?fO a
 let l:Q c.1.1<=Q P.1.1:=f.sz;show(j,m,e,q,n,s,p,r,o.xe,Z,E,T,C,B,fZ l u,fZ l t,v,x)
def FM(b:Cx)(k:XK):=∀(p:?H) (q:St) (a:L) (f c:aO) (d j n e i h:S) (o m:J),Inv b p q a f->c.os=f.os->c.gens=f.gens->PU (iO b.stack) d i h f.1 c.1->hJ c.1 d ?dh (Y n) ?aY m->mR c.1 d e o->(a e=U/\Q b.8.1.1<=e)->(a i=U/\Q b.8.1.1<=i)->(a h=U/\Q b.8.1.1<=h)->(a d=U/\Q b.8.1.1<=d)->(∀l,Q c.1.1<=l->a l=U)->Q b.8.1.1<=Q c.1.1->k ?dh (Y n) a->(m=.none\/k .none U a)->b.xe ?J c
def rO:FM (eJ (fz c d) c d h v k i z B n m e y A f b) b:=λ_ _ P s1 a a H a T X E a a a x o mid j C r s p t w l q u=>
 asj (s1:=s1) (x.trans a.os) (o▸a.bare) a.base a.bU a.ok.frames a.stack a.Fn mid j C r s p t w l q u
section
variable{X:Cx}{ap:List (S×Obj)}{σ:St}{E:XK}
def aqx{f:J->aO->Prop}{s:aO}(i:hJ s.1 b j l ?s k)(x:mR s.1 b a q)(h:∀c e,(∀d,d≠a->c.get? d=s.1.get? d)->hJ c b j l ?s k->mR c b a e->f ?av {s with heap:=c}):bH n m (Ve z ?av p:Sem J) o f s:=by
 let(C,H,u,A,B,t,r):=id i;show bC (rf u t r.1 ?_)
 show bC (amh i x λc e v w y=>MJ (h c e v w y))
def apO{q:Env}{use:Option (J->Sem Unit)}{e3:J->aO->Prop}(g6:FM X E)(a9:X.stack=X.env::X.outer)(d0:X.env.frame=Y X.env.2)(a5:?f a4 r)(P:∀a∈a7,sJ X ap a4 a)(g1:q.frame=X.env.frame)(b5:q.2=Q r.1.1)(h:X.JY E r a4 h8 q a7 d j):zd ?u X.A q (λd j=>Ia ?u X.A X.xe use e3 e2 r.1.1.size (.error d) j) d j:=by
 let(j2,j9,m,n,b3,c1,C,c0,u,0,b4,b2,b0,z,c5,c4,f4,g2):=h;let v:?f m j:=a5.Dd (ch:=a7) u.os u.base u.bU u.bare λa k=>((P a k).2.2.2.1,(P a k).2.1,(P a k).2.2.2.2.1,(P a k).2.2.2.2.2);let p:m (Q r.1.1)=U:=by
  let b:m q.2=U:=u.free;rw[b5]at b;show b
 let c3:sJ X ap m r.1.1.size:=a5.yf ?a2 p;let(a3,a0,_):=u.loc;let a0:j.1.Ns q.2 a3:=a0;rw[b5]at a0;let x:vh ?jN q=vh ?jN X.env:=by
  unfold vh PySem.frameOf;rw[g1]
 change ?r (vh ?jN q) _ _ j;rw[x];let f2:X.A.frames=Y (X.env::X.outer):=by rw[<-a9];show v.ok.frames
 let d5:j.1.FunFrames X.base (X.env::X.outer):=by rw[<-a9];show v.stack
 show u7 (cu:=X.base) (outer:=X.outer) (bg:=X.env.2) f2 d5 d0 b4 b2 λa8 l a2 h6 d6 c6=>?_;generalize f3:Q r.1.1=f at*;let B:?f9<=f:=by rw[<-f3];show a5.sz
 let(b1,e9,e8,a6,H,g4,f1):=a0;let d1:f≠n:=λb=>by
  let(c,t,i,_,_,o,_):=b4;rw[<-b,a6]at i;cases i;rw[H]at o;cases o
 let g9:f≠C:=λb=>by
  let(_,c,t,i,o,_):=b2;rw[<-b,a6]at i;cases i;rw[H]at o;cases o
 let d2:f∉iO (X.env::X.outer):=λb=>by
  let b:f∈(X.env::X.outer).filterMap (·.frame):=b;rw[BC,d0]at b;rcases ?i3 with b|b
  .show c3.2.1 b
  show c3.2.2.1 b
 let c2:a8.get? f=Y b1:=a2.keep f b1 a6 d1 (λb=>by cases b;show g9 Z) d2
 let h0:f≠l:=λb=>by
  let(_,c,t,i,o,_):=d6;rw[<-b,c2]at i;cases i;rw[H]at o;cases o
 let g5:∃a3,a8.Ns f a3/\∀c7,xf f a8 c7->∀b6:Env,b6.2=f->?r (Ve "comprehension.variables-let-go" ?jN b6:Sem J) (λ_ _=>False) X.xe {j with heap:=c7}:=by
  show(a3,(b1,e9,e8,c2,H,g4,f1),λT A i3 _=>?_);let h7:hJ T n (.ref b3) (Y c1) ?bk c0:=by
   let(c,t,i,e):=h6;show(c,t,(A.2 n (bI d1)).trans i,e)
  let i1:mR T n l (nX X.env.2):=by
   let(g8,c,t,i,e):=d6;show(g8,c,t,(A.2 l (bI h0)).trans i,e)
  show aqx (s:={j with heap:=T}) h7 i1 λw f0 y d4 d7=>?_;let y:∀a,a≠l->w.get? a=T.get? a:=y;let e4:m l=U/\?f9<=l:=by
   rcases c6 with b|b
   .rw[b];show(z,fZ B c4)
   show(v.bU.fresh b,fZ v.sz b)
  let d3:∀a c,j.1.get? a=Y c->a=l->a=C:=λa c d b=>by
   rcases c6 with e|e
   .rw[b,e]
   show ?b2 (jw (fS d) (b▸e))
  have mid:PU (iO X.stack) n C f j.1 w:=by
   rw[a9];show(λa c d b0 z p h2=>?_,λa c d k=>?_,λa c d p=>?_)
   .show(y a λb=>z (d3 a c d b)).trans ((A.2 a p).trans (a2.keep a c d b0 (λb=>by cases b;show z Z) h2))
   .let(h9,x):=a2.slot a c d k;let p:a≠f:=λb=>d2 (b▸k);let g7:a≠l:=λb=>by
     let e:=d3 a c d b;let(_,i4,i2,f5,o,_):=b2;let(_,e0,a1,g3):=d5.mem k;rw[e,f5]at a1;cases a1;show g3 i2 o
    show(h9,(y a g7).trans ((A.2 a p).trans x))
   let(h3,x):=a2.there a c d;by_cases e1:a=l
   .let(_,h4,_,e7,_):=d7;show(h4,by rw[e1];show e7)
   show(h3,(y a e1).trans ((A.2 a p).trans x))
  let h5:∀a,m a≠U->∃c,w.get? a=Y c:=λa k=>by
   rcases e:m a with _|c
   .show bK e k
   let(e0,a1):=(v.bU a c e).get;show mid.there a e0 a1 λb=>k (by rw[b];show p)
  let h1:∀a,Q w.1<=a->m a=U:=λa k=>by
   by_cases e:m a=U
   .show e
   let(c,d):=h5 a e;show ?b2 (jw (fS d) k)
  let e5:?f9<=Q w.1:=by
   let(c,t,i,_):=d4;show fZ (fZ B c5) (yG (fS i))
  show g6 ap σ m j {j with heap:=w} n b3 c1 l C f f0 c0 v Z Z mid d4 d7 e4 (z,fZ B c4) (p,B) (b0,fZ B c5) h1 e5 f4 g2
 cases use<;>show g5
end
section
variable{X:Cx}{E:XK}
def s_{pos y:Pos}{g:TG}{use:Option (J->Sem Unit)}{Qf:J->aO->Prop}(b1:FM X E)(b0:X.stack=X.env::X.outer)(a7:X.env.frame=Y X.env.2)(a5:X.f6=M)(A:X.N.Nodup)(a:?bf ap t p s)(r:PI X n B q)(m:?jx b a0)(a1:∀(s:aO) (p:L) (o:S) (T:?bM) (c:?aD),PG ?jz n g)(a9:∀(s:aO) (p:L) (o:S) (T:?bM) (c:?aD),FY ?jz z l)(a4:∀(s:aO) (p:L) (o:S) (T:?bM) (c:?aD),PE ?jz v k)(u:∀x,Lz B X.env x=pure x)(h:Du q g l k (a0.map (·.2)) t p d)(b2:∀j o i w H',?bf ap t H' i->d ?dh H'->i.1.Ns o w->sJ X ap H' o->Ia ?u X.A X.xe use Qf ?dh o (.ok .next) i):?r (comprehension (?eV v [(n,B,z,0)] b) b X.env y (newList []) I (?V B) use) Qf X.xe s:=by
 let l:∀H∈b.names,H.2=.free->∃T,X.env.cells.lookup H.1=Y T:=λH d e=>by
  rcases m.free H d e with k|k
  .show a.ok.has _ (.inl k)
  show a.ok.has _ (.inr k)
 show wpAny_comprehension_free (use:=use) Z u (akG l) m.kind (λH d e=>by rw[m.2 H d,e]) (df (r ap s t p _ a h) λa a a=>df a λa C d=>?_)
 let(a6,c,H,a,q,e,a,r,y,o,l):=d;subst e;show vR (aj8 ?_) ?b8
 generalize k:Q C.1.1=j;let d:q j=U:=a.bU.fresh (Ea k);let(W,(b3,a8),turn):=l j d;generalize d:({C with heap:=C.1.push {cls:=?Q,data:=.seq ([]:?aX).toArray}}:aO)=s3;let P:?bf ap t (D q j ?M) s3:=by
  rw[<-d];show a.laid (t':=C.toks) (λa l e=>?e1 e) (Ea k) (gI _,[],0,.nil,?_);rw[<-k];show ?dd
 let p:s3.heap=C.1.push {cls:=?Q,data:=.seq ([]:?aX).toArray}:=by rw[<-d]
 let a2:∀a∈c,a<Q C.1.1:=λa d=>by
  let(l,e,_):=r.obj _ _ y a d;show fS e
 let u:∀a∈c,sJ X ap (D q j ?M) a/\a<s3.heap.objs.size:=λa d=>by
  let s:=a2 a d;show((?_,(o a d).2),by rw[p,qb];show Lx s)
  rw[cY (by rw[<-k];show jS s)]
  show(o a d).1
 let b4:H 0 s3.heap:=r.keep _ _ _ y λa _ l e=>by rw[p];show ?e1 e
 let o:=(aje P m A u).xe (f:=X.JY E s3 (D q j ?M) b (?fC b ?ae s3.heap.objs.size) c);let a2:=a1 s3 (D q j ?M) s3.heap.objs.size ?ae c;let a3:=a9 s3 (D q j ?M) s3.heap.objs.size ?ae c;let a1:=a4 s3 (D q j ?M) s3.heap.objs.size ?ae c;change vp _ _ (.compStart (?eV v [(n,B,z,0)] b) 0 (.ref a6) ?dh (?fC b ?ae s3.heap.objs.size)) ?eD {s3 with heap:=?i5};let p:∀a∈c,(D q j ?M) a=U:=λa d=>(u a d).1.1;generalize k:?fC b ?ae s3.heap.objs.size=ce at o a2 a3 a1 ⊢;let C:ce.locals=s3.heap.objs.size:=by subst k;rfl
 let s:ce.frame=X.env.frame:=by subst k;rfl
 generalize k:D q j ?M=m at P o a2 a3 a1 a8 p u;generalize k:({s3 with heap:=?i5}:aO)=s4 at o ⊢;let a9:H 0 s4.heap:=r.keep _ _ _ b4 λa _ l e=>by rw[<-k];show LR _ _ _ _ (?e1 e)
 let a4:∀{k:St} {H':L} {i:aO},Inv ?cW [] k H' i->(∀a∈c,H' a=U)->∀a∈c,sJ ?cW [] H' a:=λ{k H' i} y A a d=>
  (A a d,(y.ok.Ds a d).1,y.ok.Bc a d,.inl d,λx T e=>(y.ok.Ds a d).2 x T e,λq k=>?fO (show q∈([]:?H)++[]from k))
 let T:∀{e:J} {i:aO},X.JY E s3 m b ce c e i->zd ?u X.A ce (λe i=>?eD (.error e) i) e i:=λ{e i} k=>
  apO b1 b0 a7 P (λa d=>(u a d).1) s C k
 let a7:vp ?u X.A (.compLoop (?eV v [(n,B,z,0)] b) 0 (.ref a6) ?dh ce) ?eD s4:=by
  show aib (λq i=>bN λn H'=>Inv ?cW [] (b7 t (a0.map (·.2))) H' i/\H n i.1/\(∀a∈c,H' a=U)/\W n q H') ?_ b3 (0,m,o,a9,p,a8);intro q a8 ξ;let(n,v,o,b0,a6,p):=ξ;rcases turn n q v p with⟨stop,b3⟩|⟨go,Nx,b1,step⟩
  .let p:=r.done ?cW Z Z Z a5 n [] a8 _ v (λ_ _=>False) o (a4 o a6) b0 stop;show Qj p λb4 s p=>?_;let(B,z):=p;subst B;let p:?bf ap t v s:=P.Dd (ch:=c) z.os z.base z.bU z.bare λa d=>((u a d).1.2.2.2.1,(u a d).1.2.1,(u a d).1.2.2.2.2.1,(u a d).1.2.2.2.2.2);let u:v s3.heap.objs.size=U:=by
    let k:v ce.locals=U:=z.free;rw[C]at k;show k
   let(w,A,_):=z.loc;let A:s.1.Ns ce.locals w:=A;rw[C]at A;show b2 j s3.heap.objs.size s w v p b3 A (P.yf ?a2 u)
  let j:=r.item ?cW Z Z Z a5 n [] a8 _ v (λ_ _=>False) o (a4 o a6) b0 go;show Qj j λb4 s o=>?_;let(A,B,j):=o;subst B;show Qj j λ_ s o=>?_;let(x,j,p,z,B,u,v):=o;let o:=p.pinned (a4 p v) (r.obj _ _ u);show kX (a2 _ s _ j x A _ o z (step x j B)) (λ_ A v=>?_) λ_ _ k=>T k;let(o,j,p,x,z):=v;show kX (a3 _ A o j _ p z) (λa B p=>?_) λ_ _ k=>T k;let(z,v,j):=p;let fin:∀{i:aO} {H':L},Inv ?cW ([]++Fw c s.1) o H' i->Nx H'->∃w,w<q/\bN λn H'=>Inv ?cW [] (b7 t (a0.map (·.2))) H' i/\H n i.1/\(∀a∈c,H' a=U)/\W n w H':=λ{i H'} y p=>by
   let(A,w,C):=b1 H' p;let q:∀a∈c,∀l,?b5=Y l->i.1.get? a=Y l/\H' a=U:=λa d l e=>
    let k:=y.pin (a,l) (ug _ (ug _ (Np d e)))
    (k.1,k.2.1)
   let i:(b7 t (a0.map (·.2))).length=R o:=by rw[<-x,MV]
   show(A,w,n+1,H',(y.Ix (ap:=[])).weak i (λi i e=>?_),r.keep _ _ _ u λa d l e=>(q a d l e).1,λa d=>?_,C)
   .rw[<-x]at e;show(NS e).1
   let(l,e,_):=r.obj _ _ u a d;show(q a d l e).2
  rcases a with _|_
  .simp only[yt,if_false]at j ⊢;show fin v j
  simp only[if_true]at j ⊢;show kX (a1 _ B o z _ v j) (λk a j=>?_) λ_ _ k=>T k;let(a,a,a,k,d,d,i,p):=j;show arC (X:=?cW) a d i k λa a=>fin a p
 show codeAny_compStart_list a7 (r.self X.A 0 _ _ _ a9 a7)
def vB{E:XK}{pos:Pos}{g:TG}(x:FM X E)(v:X.stack=X.env::X.outer)(q:X.env.frame=Y X.env.2)(P:X.f6=M)(C:X.N.Nodup)(t:PI X j i o)(y:?jx a ip)(r:∀(d:aO) (c:L) (b:S) (e:?bM) (f:?aD),PG ?jS j g)(w:∀(d:aO) (c:L) (b:S) (e:?bM) (f:?aD),FY ?jS l n)(T:∀(d:aO) (c:L) (b:S) (e:?bM) (f:?aD),PE ?jS k m)(u:?ain (∀p,Lz i X.env p=pure p)):?am (?eV k [(j,i,l,0)] a) (Du o g n m (ip.map (·.2))):=by intro a d a c a s h;rw[eval_ListComp];show s_ x v q P C s t y r w T u h λq b d b r t c a w=>(b,a,λa a=>?_);let(x,y,b,z,A,B):=w;show(.ref q,r,t.turned (t':=d.toks) (λu b H v=>(a.2 u H).trans v) x y z A B,Z,c)
def HV{E:XK}{i:Nat}{pos P:Pos}{g:TG}(a3:FM X E)(a0:X.stack=X.env::X.outer)(y:X.env.frame=Y X.env.2)(q:X.f6=M)(C:X.N.Nodup)(a2:X.N[i]?=Y f)(H:X.env.scope.names.lookup f=Y .local)(r:vi (?eV n [(j,d,m,0)] a) (Y (.Name f o)) P.line X.env=pure M)(A:PI X j d u)(a4:?jx a ip)(z:∀(e:aO) (c:L) (b:S) (k:?bM) (l:?aD),PG ?j0 j g)(a1:∀(e:aO) (c:L) (b:S) (k:?bM) (l:?aD),FY ?j0 m t)(w:∀(e:aO) (c:L) (b:S) (k:?bM) (l:?aD),PE ?j0 n s)(B:?ain (∀p,Lz d X.env p=pure p)):PS X (.Assign [.Name f o] (?eV n [(j,d,m,0)] a) P) (Qi (Du u g t s (ip.map (·.2))) (FH i)):=by
 intro l e T c x k h;rw[exec_Assign_Name_used _ _ _ _ r];show bC (Am ?ju);change bH _ X.A (do let _<-comprehension (.ListComp n [(j,d,m,0)] a pos) a X.env (firstIterPos [(j,d,m,0)] pos) (newList []) I (dU d X.env) (Y (Jf (.Name f o) X.env))) _ _ e
 let h:Du u g t s (ip.map (·.2)) T c (λp a=>FH i p T a x.nx):=h;show bC (df (s_ (Qf:=λ_ r=>SP X l x .next r) a3 a0 y q C k A a4 z a1 w B h λy b r n a c p m d=>?_) λ_ r e=>dA (dA e));change ?aE (Jf (.Name f o) X.env (.ref y)) _;show afa (Zu (v:=V.ref y) c C a2 (.inl H) Z (λo c e=>?_) (.inr H));let(z,r,l):=e;let(e,A,j,j,B,k):=d;let d:b≠z:=by
  rcases l with w|w
  .rw[w];show A
  show λq=>B f z w q.symm
 show(n,m.sameBut r d,λb d=>?_);show(_,a,c.turned (t':=o.toks) (λa b b q=>(d.2 a b).trans q) e A j B k,p)
end
end L2
namespace Sm
def Le(c d:L):=∀a b,c a=Y b->d a=Y b
def Le.refl:Le a a:=λ_ _ h=>h
def Le.trans(f:?gR)(i:Le b c):Le a c:=λe d h=>i e d (f e d h)
def Le.up(l:?iG)(h:c a=Y b):d a=Y b:=l a b h
theorem Le.new{a:L}{o:HO}(h:a c=U):Le a (D a c o):=λd e b=>by rw[cY (fO b h)];show b
theorem Le.no(l:Le b c)(h:c a=U):b a=U:=by
 rcases e:b a with _|d
 .rfl
 rw[l a d e]at h;cases h
def Le.put(l:?gR)(h:a c=U):Le a (D b c f):=λd i e=>by rw[cY (fO e h)];show l d i e
def Le.f7(l:Le b a)(h:a c=U):Le b (D a c d):=l.trans (.new h)
def XR(c:S)(e:L)(f:Int)(h:?au)(d:XK):=∀(a:L) (b l:S),Le e a->a b=Y (pW b (dS "row" ?bk [("refusal",.int f)]))->a l=Y (.lst h)->d ?aC (Y b) a
def XR.mono{e:Int}(h:XR a c e f b)(l:?iG):XR a d e f b:=λi k j m=>h i k j (l.trans m)
abbrev G.qV(g:G)(a:Nat)(d:Str)(b:?d4)(c:Sp):Prop:=L2.qV g.P g.w g.K g.mg g.base a d b c
abbrev G.pC(g:G)(b:Nat)(a:S)(c:Str)(d:?d4)(e:Sp):Prop:=L2.pC g.P g.w g.K g.mg g.base b a c d e
abbrev G.pB(g:G)(b:Nat)(e:Str)(a:S)(c:?d4)(d:Sp):Prop:=L2.pB g.P g.w g.K g.mg g.base b e a c d
abbrev G.sK(g:G)(b:Nat)(e:Str)(a:S)(c:?d4)(d:Sp):Prop:=L2.sK g.P g.w g.K g.mg g.base b e a c d
abbrev G.j6(g:G)(o:Nat)(f:?d4)(j:Str)(c:bY)(q:Sp):Prop:=
 ∀(i:S) (h:J) (d:eV) (p:?eH) (k:aO) (a:L) (m:?au) (b:VK) (e:XK),ii o (d.deeper (fG j (eO c) k.1.1.size i h))->q m a b e->∃l,pF (?ff f j (eO c) i h d p k a e) (zh c) l/\l {nx:=λ_ n=>b .cT n,rt:=b} (start f m) a
abbrev ze(k j:Str)(a:bY)(c:?d4):Prop:=∀(kV h i:J) (d:?iD) (e f:J) (b:?aX),R b=R c->bindArgs (BU k j (OG a) (zh a) (eO a) .none kV h i d e f) (b,[])=pure (c.zip b)
section
variable{x q:Str}{st:bY}{aM ps:List Str}{k:Nat}{sp:Sp}{C:S}
def Df(j:tY g.K x q st e f)(l:?cX)(p:∀a c d b,sp a c d b->R a=R ps)(m:?jh q):?c0 ?ic e f ps sp:=
 j.okX l p λn i r s c a d b o h=>m e n i r s c a d b o h
def wy(j:g.Def x st)(f:?cX)(h:ze x x st ps)(n:∀b d e c,sp b d e c->R b=R ps)(i:?jh x):g.qV ?ic x ps sp:=
 let(l,m,a,o):=j
 (l,m,Df a f n i,a.g0 h,o,a.kp)
def uJ(j:g.Met C x q st)(f:?cX)(h:ze x q st ps)(n:∀b d e c,sp b d e c->R b=R ps)(i:?jh q):g.pC ?ic C x ps sp:=
 let(l,m,a,o):=j
 (l,m,Df a f n i,a.g0 h,o)
def ar3(l:g.rN C q st)(p:g.mg x=Y ?bC)(h:?cX)(i:?g0)(o:∀b d f c,sp b d f c->R b=R ps)(j:?jh q):g.pB ?ic x C ps sp:=
 let(m,n,a,e):=l
 (m,n,Df a h o j,a.g0 i,e,p)
def ar4(l:g.vF C q st)(p:g.mg x=Y ?bC)(h:?cX)(i:?g0)(o:∀b d f c,sp b d f c->R b=R ps)(j:?jh q):g.sK ?ic x C ps sp:=
 let(m,n,a,e):=l
 (m,n,Df a h o j,a.g0 i,e,p)
end
def Gc{l:?d4}{c:?aX->Prop}(h:∀b a,R a=R l->c (b::a)):∀a:List J,R a=(e::l).length->c a:=by
 intro a d;rcases a with _|⟨b,a⟩
 .cases d
 show h b a (ahV d)
def us0{b:?aX->Prop}(h:b []):∀a:List J,R a=([]:?d4).length->b a:=by
 intro a c;rcases a with _|⟨d,a⟩
 .show h
 cases c
theorem mU{d:Str}{b:?aX->Prop}(h:∀a,b [a]):∀c:List J,c.length=[d].length->b c:=Gc λa=>us0 (h a)
def sV{e x1:Str}{c:?aX->Prop}(h:∀a b,c [a,b]):∀d:List J,R d=[e,x1].length->c d:=Gc λa=>mU λb=>h a b
def Aa{f x1 x2:Str}{d:?aX->Prop}(h:∀a b c,d [a,b,c]):∀e:List J,R e=[f,x1,x2].length->d e:=Gc λa=>sV λb c=>h a b c
def Bm{i x1 x2 x3:Str}{e:?aX->Prop}(h:∀a b c d,e [a,b,c,d]):∀f:List J,R f=[i,x1,x2,x3].length->e f:=Gc λa=>Aa λb c d=>h a b c d
def us5{j x1 x2 x3 x4:Str}{f:?aX->Prop}(h:∀a b c d e,f [a,b,c,d,e]):∀i:List J,R i=[j,x1,x2,x3,x4].length->f i:=Gc λa=>Bm λb c d e=>h a b c d e
structure QE where
 Q:VK
 E:XK
def G.CN(g:G)(n:Nat)(e:?d4)(i:Str)(c:bY)(p:Sp)(a:QE):=
 ∀(h:S) (f:J) (d:eV) (o:?eH) (j:aO) (b:L) (l:?au),ii n (d.deeper (fG i (eO c) j.1.1.size h f))->p l b a.Q a.E->∃k,pF (?ff e i (eO c) h f d o j b a.E) (zh c) k/\k {nx:=λ_ m=>a.Q .cT m,rt:=a.Q} (start e l) b
instance:Nonempty QE:=⟨(λ_ _=>True,λ_ _ _=>True)⟩
noncomputable def qe(a:QE->Prop):QE:=aeZ λb=>¬a b
def asx{B:QE->Prop}(h:B (qe B))(a:QE):B a:=Gi λb=>V4 (p:=λa=>¬B a) (a,b) h
@[irreducible] noncomputable def qQ(a:QE->Prop):VK:=(qe a).Q
@[irreducible] noncomputable def qE(a:QE->Prop):XK:=(qe a).E
abbrev G.CZ(g:G)(d:Nat)(b:?d4)(c:Str)(a:bY)(e:Sp):Prop:=
 ∀(j:S) (i:J) (h:eV) (o:?eH) (k:aO) (f:L) (m:?au),ii d (h.deeper (fG c (eO a) k.1.1.size j i))->e m f (qQ ?jA) (qE ?jA)->∃l,pF (?ff b c (eO a) j i h o k f (qE ?jA)) (zh a) l/\l {nx:=λ_ n=>qQ ?jA .cT n,rt:=qQ ?jA} (start b m) f
def Fe{b:Nat}(h:g.CZ b a c e d):g.j6 b a c e d:=λm l f n o j p k i=>
 asx (B:=g.CN b a c e d) (by unfold G.CZ at h;unfold qQ qE at h;show h) (k,i) m l f n o j p
section
variable{x q:Str}{st:bY}{aM ps:List Str}{k:Nat}{sp:Sp}{C:S}
def fP(i:g.Def x st)(e:?cX)(f:ze x x st ps)(j:∀a c d b,sp a c d b->R a=R ps)(h:g.CZ k aM x st sp):g.qV ?ic x ps sp:=wy i e f j (Fe h)
def oj(i:g.Met C x q st)(e:?cX)(f:ze x q st ps)(j:∀a c d b,sp a c d b->R a=R ps)(h:g.CZ k aM q st sp):g.pC ?ic C x ps sp:=uJ i e f j (Fe h)
def tN(i:g.rN C q st)(l:g.mg x=Y ?bC)(e:?cX)(f:?g0)(j:∀a c d b,sp a c d b->R a=R ps)(h:g.CZ k aM q st sp):g.pB ?ic x C ps sp:=ar3 i l e f j (Fe h)
def zF(i:g.vF C q st)(l:g.mg x=Y ?bC)(e:?cX)(f:?g0)(j:∀a c d b,sp a c d b->R a=R ps)(h:g.CZ k aM q st sp):g.sK ?ic x C ps sp:=ar4 i l e f j (Fe h)
end
def eX{pos:Pos}(d:g.Const a c)(h:Gl b a)(e:b.mg=g.mg)(f:?ade ((a==?F)=I)):PE b (.Name a pos) (tC c):=
 let(_,i,j):=d
 uH h (by rw[e];show i) j f
def bk(a:aP):?dg:=a.map λb=>gJ ?bz
def iT(a:UInt8):V:=.int ?eg
def bT(a:aP):?au:=(bk a).map kV
theorem kF(a:aP):bT a=a.map iT:=by unfold bT bk;rw[mN];rfl
theorem gZ(a:aP):(bT a).length=R a:=by rw[kF,ft]
theorem xQ(a:aP)(b:Nat):(bT a)[b]?=a[b]?.map iT:=by rw[kF,iC]
def D6(h:iT a=iT b):a=b:=by unfold iT at h;injection h with h;show rW.mp (uZ h)
def uI(h:bk a=bk b):a=b:=by
 let c:=fL (List.map kV) h;let d:a.map iT=b.map iT:=by rw[<-kF,<-kF];show c
 show(aeG λe f h=>D6 h).mp d
end Sm
namespace Rm
open Sk
def xM{c:Type}{l:List c}(h:l≠[]):bN λa b=>l=a++[b]:=(l.dropLast,l.getLast h,(QB h).symm)
def Od{b:Type}{l a:List b}(h:l≠[]):(l++a).head?=l.head?:=by
 rcases l with _|⟨c,l⟩
 .show bK Z h
 rfl
def nF(d:Nat):Nat->Nat->aP->Nat×(Nat×aP)
 |a,c,[]=>(a,(c,[]))
 |a,c,b::e=>if mZ b=M/\10*a+?gj<=d then nF d (10*a+?gj) (c+1) e else(a,(c,b::e))
theorem NK(c:Nat):∀(b a d:Nat) (e:aP),1<=a->c<a*10^b->a<=c->zr c b a d e=nF c a d e
 |0,a,d,e,_,h,j=>by
  rw[ahU,Nat.mul_one]at h
  lia
 |b+1,a,d,[],_,_,_=>by simp[zr,nF]
 |b+1,a,d,i::l,k,j,_=>by
  unfold zr nF;by_cases f:mZ i=M/\10*a+(i.toNat-48)<=c
  .simp only[f,and_self,if_true];show NK c b _ _ _ ?d ?_ f.2
   show jw j ?_;rw[BS,Nat.mul_comm (10^b) 10,<-Nat.mul_assoc];show KR _ ?d
  .simp only[bp f]
def jP(a:aP):Nat:=a.foldl (λ(c:Nat) (b:UInt8)=>10*c+?gj) 0
theorem EW(a:aP)(b:UInt8):jP (a++[b])=10*jP a+?gj:=by simp[jP,ae4]
def Dec(a:aP):=a≠[]/\a.all mZ=M/\¬(a.head?=Y 48/\1<R a)
theorem uo:mZ a=M<->48<=a.toNat/\a.toNat<=57:=by simp[mZ]
def arv:∀{b:aP},b≠[]->b.all mZ=M->b.head?≠Y 48->1<=jP b:=by
 intro b
 suffices h:∀(e:Nat) (b:aP),R b=e->b≠[]->b.all mZ=M->b.head?≠Y 48->1<=jP b from h _ b Z
 intro e
 induction e with
 |zero=>intro b c h;show bK (rc.mp c) h
 |succ e ih=>
  intro b c j d i;let(l,a,0):bN λl a=>b=l++[a]:=xM j;rw[EW];rw[LN]at d;simp only[um,Mp,mE,ik]at d;by_cases f:l=[]
  .subst f;let m:=uo.mp d.2;have:a.toNat≠48:=λk=>i (by
    have:a=48:=rW.mp k;rw[this];rfl)
   lia
  have:=ih l (by simp at c;show c) f d.1 (by rwa [Od f]at i)
  lia
def Vq:∀(e:Nat) (b:aP),Dec b->R b<=e->rp e (jP b)=b:=by
 intro q
 induction q with
 |zero=>
  intro b h f;show bK (rc.mp (Nat.le_zero.mp f)) h.1
 |succ e ih=>
  intro b ξ;let(o,c,p):=ξ;intro f;let(l,a,0):bN λl a=>b=l++[a]:=xM o;rw[LN]at c;simp only[um,Mp,mE,ik]at c;let r:=uo.mp c.2;rw[EW];let n:(10*jP l+?dY) %10=a.toNat-48:=by lia
  let m:(10*jP l+?dY)/10=jP l:=by lia
  let k:xj (48+?dY)=a:=by
   have:48+?dY=a.toNat:=by lia
   rw[this];simp
  unfold rp;rw[n,m,k];by_cases d:l=[]
  .subst d;rw[bz (by simp[jP];lia)]
  let j:l.head?≠Y 48:=λi=>p (by rw[Od d];show i,by
   have:=BD.mpr d;simp
   lia)
  let s:=arv d c.1 j;rw[bp ?d,ih l (d,c.1,λi=>j i.1) (by simp at f;lia)]
def Uz:∀(a b:Nat),b<10^a->1<=b->0<a->(rp a b).head?≠Y 48:=by
 intro j
 induction j with
 |zero=>
  intro _ _ _ h
  lia
 |succ a ih=>
  intro b h k _;unfold rp;by_cases d:b<10
  .rw[bz d,afx d];intro c;have:xj (48+b)=48:=by simpa using c
   have:=fL Hv this;rw[DI]at this;let e:(48:UInt8).toNat=48:=rfl;rw[e]at this
   lia
  rw[bp d];let f:0<a:=by
   rcases Lk a with c|c
   .subst c;rw[BS,ahU]at h
    lia
   show c
  let i:rp a (b/10)≠[]:=by
   rcases a with _|a
   .lia
   unfold rp;intro c;have:=fL R c;simp at this
  rw[Od i];show ih (b/10) (by rw[BS]at h;lia) ?d f
def O0:∀(c:Nat) (a:aP),R a=c->a.all mZ=M->jP a<10^c:=by
 intro c
 induction c with
 |zero=>intro a b _;rw[rc.mp b];decide
 |succ c ih=>
  intro a b d;let f:a≠[]:=λh=>by rw[h]at b;simp at b
  let(l,e,0):bN λl e=>a=l++[e]:=xM f;rw[LN]at d;simp only[um,Mp,mE,ik]at d;let i:=uo.mp d.2;have:=ih l (by simp at b;show b) d.1
  rw[EW,BS]
  lia
def Ww(f:a≠[])(c:a.all mZ=M)(k:R a<=10):wd (jP a)=a<->¬(a.head?=Y 48/\1<R a):=by
 constructor
 .intro b ξ;let(j,d):=ξ;by_cases i:jP a=0
  .rw[i]at b;have:wd 0=[48]:=by decide
   rw[this]at b;rw[<-b]at d;simp at d
  show Uz 40 (jP a) ?_ ?d ?i (by
   let e:rp 40 (jP a)=a:=b;rw[e];show j)
  show jw (O0 _ a Z c) (Rg ?i ?d)
 intro h;show Vq 40 a (f,c,h) ?d
def qO(a:aP):=1<=R a/\R a<=10/\a.all mZ=M/\¬(a.head?=Y 48/\1<R a)
instance(a:aP):Decidable (qO a):=by unfold qO;infer_instance
theorem Im(a:aP):AS a=if qO a/\jP a<4294967296 then Y (jP a)else U:=by
 unfold AS;by_cases h:a.isEmpty=M\/10<R a\/a.all mZ=I
 .rw[bz h,bp];intro ξ;let((j,p,k,q),_):=ξ;rcases h with h|h|h
  .rw[GO.mp h]at j;simp at j
  .lia
  rw[h]at k;cases k
 rw[bp h];let e:a≠[]:=λc=>h (.inl (by rw[c];rfl))
 let f:R a<=10:=Sr λc=>h (.inr ?js);let i:a.all mZ=M:=by
  rcases b:a.all mZ with _|_
  .show bK (.inr (.inr b)) h
  rfl
 let m:a.foldl (λ(o:Nat) (l:UInt8)=>10*o+(l.toNat-48)) 0=jP a:=rfl;simp only[m];let n:1<=R a:=BD.mpr e;by_cases b:wd (jP a)=a
 .let d:qO a:=(n,f,i,(Ww e i f).mp b);simp only[b,d,mj]
 let d:¬qO a:=λc=>b ((Ww e i f).mpr c.2.2.2);simp only[b,d,false_and]
def nH(a:UInt8):Bool:=mZ a||(decide (97<=a.toNat)&&decide (a.toNat<=102))
def oq(a:UInt8):Nat:=if mZ a=M then a.toNat-48 else a.toNat-87
theorem ZV(a:UInt8):Sk.hexIn a=if nH a=M then Y (oq a)else U:=by
 unfold Sk.hexIn nH oq;by_cases h:mZ a=M
 .simp[h]
 simp only[h,BR,if_false,ik,ja];let b:mZ a=I:=by simpa using h
 simp[b]
def Dh:aP->aP
 |a::b::c=>xj (16*oq a+oq b)::Dh c
 |_=>[]
theorem cE{a b:UInt8}{c:aP}:hexes (a::b::c)=match Sk.hexIn a,Sk.hexIn b with
 |some d,Y e=>(hexes c).map λ(l:aP)=>xj (16*d+e)::l
 |_,_=>U:=rfl
theorem cn:Dh (a::b::c)=xj (16*oq a+oq b)::Dh c:=rfl
def an5:∀(i:Nat) (e:aP),R e=i->hexes e=if R e %2=0/\e.all nH=M then Y (Dh e)else U:=by
 intro i
 induction i using Nat.strongRecOn with
 |_ i ih=>
  intro e k
  match e,k with
  |[],_=>show(bz (rfl,Z)).symm
  |[b],_=>rw[bp ?c];rfl
  |b::c::a,k=>
   rw[cE,cn,ZV,ZV,ih a.length (by simp at k;lia) a Z]
   by_cases f:nH b=M
   .by_cases h:nH c=M
    .by_cases j:R a %2=0/\a.all nH=M
     .have:(b::c::a).length %2=0/\(b::c::a).all nH=M:=(by simp;lia,by simp only[um,f,h,Ak];show j.2)
      rw[bz f,bz h,bz j,bz this];rfl
     have:¬?ex:=by
      intro ξ;let(l,d):=ξ;show j (by simp at l;lia,?_)
      simp only[um,ik]at d;show d.2.2
     rw[bz f,bz h,bp j,bp this];rfl
    have:¬?ex:=by
     intro ξ;let(l,d):=ξ;simp only[um,ik]at d;show h d.2.1
    rw[bz f,bp h,bp this]
   have:¬?ex:=by
    intro ξ;let(l,d):=ξ;simp only[um,ik]at d;show f d.1
   rw[bp f,bp this]
theorem Mz:∀(a:Nat) (b:aP),R b=2*a->(Dh b).length=a
 |0,b,h=>by rw[rc.mp h];rfl
 |a+1,c::e::d,h=>by
  rw[cn,lO,Mz a d (by simp at h;lia)]
 |a+1,[c],h=>by simp at h;lia
 |a+1,[],h=>by simp at h
def rY:∀a,iJ a≠[]:=by
 intro b
 induction b with
 |nil=>
  simp[iJ]
 |cons c d ih=>
  unfold iJ;split
  .simp
  split<;>simp
theorem ME:∀(a b:aP),iJ (a++b)=(iJ a).dropLast++(((iJ a).getLast (rY a)++(iJ b).head (rY b))::(iJ b).tail):=by
 intro n
 induction n with
 |nil=>
  intro b;have:iJ []=[[]]:=rfl;simp[this]
 |cons c a ih=>
  intro b;have ih:=ih b;rw[Sn];by_cases h:c=32
  .let f:iJ (c::(a++b))=[]::iJ (a++b):=by rw[iJ,bz h]
   let i:iJ (c::a)=[]::iJ a:=by rw[iJ,bz h]
   simp only[f,i,ih];rw[List.dropLast_cons_of_ne_nil (rY a),List.getLast_cons (rY a)];rfl
  let(d,l,e):bN λd l=>iJ a=d::l:=by
   rcases e:iJ a with _|⟨d,l⟩
   .show bK e (rY a)
   show(d,l,Z)
  let i:iJ (c::a)=(c::d)::l:=by rw[iJ,bp h,e]
  let(k,j,m):bN λk j=>iJ (a++b)=k::j:=by
   rcases e:iJ (a++b)with _|⟨d,l⟩
   .show bK e (rY _)
   show(d,l,Z)
  let f:iJ (c::(a++b))=(c::k)::j:=by rw[iJ,bp h,m]
  rw[m]at ih;simp only[e]at ih;simp only[f,i];rcases l with _|⟨o,l⟩
  .simp at ih ⊢;show(ih.1,ih.2)
  simp at ih ⊢;show(ih.1,ih.2)
theorem aku(a:aP):iJ (a++[32])=iJ a++[[]]:=by
 rw[ME];let h:iJ [32]=[[],[]]:=rfl;simp only[h];let b:=QB (rY a);change(iJ a).dropLast++((iJ a).getLast (rY a)++[])::[[]]=_;rw[mD]
 conv=>rhs;rw[<-b]
 simp
def alV(b:aP)(a:UInt8)(h:a≠32):iJ (b++[a])=(iJ b).dropLast++[(iJ b).getLast (rY b)++[a]]:=by
 rw[ME];let c:iJ [a]=[[a]]:=by simp[iJ,h]
 simp[c]
def i0(l:?bl):aP:=(l.flatMap λ(a:aP)=>a++[32]).dropLast
theorem E9(l:?bl):yY l=i0 l++[10]:=rfl
theorem ak3:i0 []=[]:=rfl
theorem ak4(a:aP):i0 [a]=a:=by simp[i0]
def ajU{l:?bl}(h:l≠[])(a:aP):i0 (l++[a])=i0 l++[32]++a:=by
 unfold i0;let e:(l.flatMap λ(a:aP)=>a++[32])≠[]:=by
  rcases l with _|⟨b,l⟩
  .show bK Z h
  simp
 let d:l.flatMap (λ(a:aP)=>a++[32])=(l.flatMap λ(a:aP)=>a++[32]).dropLast++[32]:=by
  let(c,b,0):bN λc b=>l=c++[b]:=xM h;rw[GA];simp only[Lu,aft,mD];rw[<-sY,Gu]
 rw[GA];simp only[Lu,aft,mD];rw[<-sY,Gu,<-d]
open Sk
inductive Way(l:List cq):aP->List cq->Prop
 |last {b:aP} {a:cq}:gt l b=Y a->a.back=U->?eL b [a]
 |more {b c:aP} {a:cq} {d:?t}:gt l b=Y a->a.back=Y c->?eL c d->?eL b (a::d)
def xB{l:?t}(h:gt l a=Y b):b.tag=a:=by have:=BK h;simpa using this
def Ih{l:?t}(h:gt l b=Y a):a∈l:=Bv h
def p7{l:?t}:gt l a=U<->∀b∈l,b.tag≠a:=by unfold gt;simp
def Way.same{l:?t}(h:?eL i j):?eL i f->j=f:=by
 induction h generalizing f with
 |last c d=>
  intro e;cases e with
  |last a b=>lia
  |more a b _=>rw[c]at a;cases a;rw[d]at b;cases b
 |more c d m ih=>
  intro e;cases e with
  |last a b=>rw[c]at a;cases a;rw[d]at b;cases b
  |more a b k=>rw[c]at a;cases a;rw[d]at b;cases b;rw[ih k]
theorem Way.ne{l:?t}(h:?eL b a):a≠[]:=by cases h<;>simp
def Way.suffix{l:?t}(h:?eL n i):∀a∈i,∃c,c<:+i/\?eL a.tag c:=by
 induction h with
 |last b e=>
  intro a f;have:a=_:=lX.mp f;subst this;show([a],afu _,.last (by rw[xB b];show b) e)
 |more b e k ih=>
  intro a f;rcases bM.mp f with d|d
  .subst d;show(_,afu _,.more (by rw[xB b];show b) e k)
  let(c,m,j):=ih a d;show(c,m.trans (List.suffix_cons _ _),j)
def Way.nodup{l:?t}(h:?eL k e):(e.map qD).Nodup:=by
 induction h with
 |last a b=>simp
 |more a b d ih=>
  rw[iF,iu];show(λn=>?_,ih);let(m,i,f):=eM.mp n;let(o,j,c):=d.suffix m i;rw[f,xB a]at c;have:=Way.same c (.more a b d);subst this;have:=j.length_le;simp at this
  lia
theorem ED{d:Type}[BEq d][LawfulBEq d]:∀{a b:List d},a.Nodup->(∀c∈a,c∈b)->R a<=R b
 |[],b,_,_=>gI _
 |c::a,b,h,e=>by
  let f:=e c ?c
  let(k,l):=iu.mp h;have:=ED (a:=a) (b:=b.erase c) l λm i=>(List.mem_erase_of_ne (λj=>k (by rw[<-j];show i))).mpr (e m (gY _ i))
  rw[List.length_erase_of_mem f]at this;have:=List.length_pos_of_mem f;simp
  lia
def Way.mem{l:?t}(h:?eL i e):∀a∈e,a∈l:=by
 induction h with
 |last c f=>intro a d;rw[lX.mp d];show Ih c
 |more c f j ih=>
  intro a d;rcases bM.mp d with b|b
  .rw[b];show Ih c
  show ih a b
theorem Way.len{l:?t}(h:?eL j c):R c<=R l:=by
 have:=ED (a:=c.map qD) (b:=l.map qD) h.nodup λk f=>by
  let(d,i,e):=eM.mp f;show eM.mpr (d,h.mem d i,e)
 simpa using this
theorem Way.chain{l:?t}(h:?eL f e):∀a,R e<=a->AR l a f=e:=by
 induction h with
 |last c d=>
  intro a b;rcases a with _|a
  .simp at b
  simp[AR,c,d]
 |more c d i ih=>
  intro a b;rcases a with _|a
  .simp at b
  simp[AR,c,d,ih a (by simpa using b)]
def We{l:?t}:∀(b:Nat) (a:aP),((AR l b a).getLast?.any λ(i:cq)=>i.back.isNone)=M->?eL a (AR l b a):=by
 intro k
 induction k with
 |zero=>
  intro a h;simp[AR]at h
 |succ b ih=>
  intro a h;unfold AR at h ⊢;rcases d:gt l a with _|m
  .rw[d]at h;simp at h
  rw[d]at h;simp only at h ⊢;rcases c:m.back with _|e
  .show .last d c
  rw[c]at h;simp only at h ⊢;show .more d c (ih e ?_);by_cases j:AR l b e=[]
  .rw[j]at h;simp[c]at h
  rw[aeF,]at h;rcases f:(AR l b e).getLast? with _|i
  .show bK (Gk.mp f) j
  rw[f]at h;simpa using h
def Way.YY{l:?t}(h:?eL f a):(a.getLast?.any λ(d:cq)=>d.back.isNone)=M:=by
 induction h with
 |last e b=>simp[b]
 |@more _ _ _ a e b i ih=>
  rw[aeF];rcases c:a.getLast? with _|d
  .rw[c]at ih;simp at ih
  rw[c]at ih;simpa using ih
structure Kept(l:List cq):Prop where
 gM:l.length<=12
 tags:(l.map qD).Nodup
 tag:∀a∈l,fh a.tag=M
 way:∀a∈l,∃b,?eL a.tag b
def Kept.anV{l:?t}(d:Kept l)(h:gt l c=Y e):∃b,?eL c b/\oE l c=b:=by let(b,a):=d.way e (Ih h);rw[xB h]at a;show(b,a,a.chain 12 (fZ a.len d.gM))
def Kept.Ay{l:?t}(d:Kept l)(h:gt l a=Y e):?eL a (oE l a):=by let(f,c,b):=d.anV h;rw[b];lia
def Hz{l:?t}(d:(l.map qD).Nodup)(h:b∈l):gt l b.tag=Y b:=by
 induction l with
 |nil=>grind
 |cons e l ih=>
  rw[iF,iu]at d;unfold gt;rw[yC];by_cases c:e.tag=b.tag
  .rcases ?fb with a|a
   .subst a;simp
   show bK (eM.mpr (b,a,c.symm)) d.1
  have:(e.tag==b.tag)=I:=beq_eq_false_iff_ne.mpr c;simp only[this];rcases ?fb with a|a
  .lia
  show ih d.2 a
def r9(h:fh a=M):a≠[]:=λb=>by rw[b]at h;simp[fh]at h
def Kept.anU{l:?t}(b:Kept l):gt l []=U:=p7.mpr λc a=>r9 (b.tag c a)
def aia{l:?t}(h:gt l a=U):oE l a=[]:=by simp[oE,Eb,AR,h]
theorem aoh:Kept []:=(by simp,by simp,by simp,by simp)
def Ob{l:?t}{b:cq->cq}(d:∀a,(b a).tag=a.tag)(c:aP):gt (l.map b) c=(gt l c).map b:=by
 induction l with
 |nil=>rfl
 |cons a l ih=>
  unfold gt at ih ⊢;rw[iF,yC,yC,d a];rcases a.tag==c with _|_
  .lia
  rfl
theorem Way.map{l:?t}{b:cq->cq}(f:∀a,(b a).tag=a.tag)(e:∀a,(b a).back=a.back):∀{h:aP} {w:?t},?eL h w->Way (l.map b) h (w.map b)
 |_,_,.last c d=>.last (by rw[Ob f,c];rfl) (by rw[e];show d)
 |_,_,.more c d i=>.more (by rw[Ob f,c];rfl) (by rw[e];show d) (i.map f e)
theorem Kept.map{l:?t}(d:Kept l){b:cq->cq}(c:∀a,(b a).tag=a.tag)(i:∀a,(b a).back=a.back):Kept (l.map b)where
 gM:=by rw[ft];show d.gM
 tags:=by
  rw[mN];have:(qD∘b)=qD:=funext c;rw[this];show d.tags
 tag:=λa e=>by
  let(h,f,0):=eM.mp e;rw[c];show d.tag h f
 way:=λa e=>by
  let(h,f,0):=eM.mp e;let(k,j):=d.way h f;rw[c];show(_,j.map c i)
def Wt{l:?t}(e:Kept l){b:cq->cq}(d:∀a,(b a).tag=a.tag)(c:∀a,(b a).back=a.back):Kept (change l f b):=
 e.map (λa=>by split<;>simp[d]) (λa=>by split<;>simp[c])
theorem Kept.back{l:?t}(n:Kept l){o:Option aP}{c:cq->cq}(B:∀a,(c a).tag=a.tag)(u:∀a,(c a).back=o)(C:∀i,o=Y i->(gt l i).isSome=M/\((oE l i).any λa=>a.tag==b)=I):Kept (change l b c):=by
 let p:∀a:cq,(if a.tag=b then c a else a).tag=a.tag:=λa=>by split<;>simp[B]
 let fin:∀s,gt (change l b c) s=(gt l s).map λa=>if a.tag=b then c a else a:=λs=>Ob p s;let r:∀a,gt l b=Y a->∃w,Way (change l b c) b w:=by
  intro a h;let y:=xB h;let t:gt (change l b c) b=Y (c a):=by rw[fin,h];simp[y]
  rcases o with _|i
  .show(_,.last t (u a))
  let(z,A):=C i Z;let(q,m):=QJ.mp z;let f:=n.Ay m;let P:∀{s:aP} {w:?t},?eL s w->(w.any λa=>a.tag==b)=I->Way (change l b c) s w:=by
   intro s w f
   induction f with
   |last d e=>
    intro j;simp only[rX,ahR,Hb]at j;show .last ?_ e;rw[fin,d];simp[beq_eq_false_iff_ne.mp j]
   |more d e H ih=>
    intro j;simp only[rX,Bool.or_eq_false_iff]at j;show .more ?_ e (ih j.2);rw[fin,d];simp[beq_eq_false_iff_ne.mp j.1]
  show(_,.more t (u a) (P f A))
 let x:∀{s:aP} {w:?t},?eL s w->∃v,Way (change l b c) s v:=by
  intro s w f
  induction f with
  |last d e=>
   rename_i s a;by_cases k:a.tag=b
   .have:s=b:=(xB d).symm.trans k;subst this;show r a d
   show(_,.last (by rw[fin,d];simp[k]) e)
  |more d e H ih=>
   rename_i s i a w;by_cases k:a.tag=b
   .have:s=b:=(xB d).symm.trans k;subst this;show r a d
   let(v,E):=ih;show(_,.more (by rw[fin,d];simp[k]) e E)
 show(?_,?_,λa h=>?_,λa h=>?_)
 .unfold change;rw[ft];show n.gM
 .unfold change;rw[mN];have:(qD∘λa:cq=>if a.tag=b then c a else a)=qD:=funext p;rw[this];show n.tags
 .let(q,m,0):=eM.mp h;rw[p];show n.tag q m
 let(q,m,0):=eM.mp h;let(w,f):=n.way q m;rw[p];show x f
theorem MN{l b:?t}:gt (l++b) a=(gt l a).or (gt b a):=by unfold gt;rw[GM]
theorem Way.append{l d:?t}:∀{c:aP} {w:?t},?eL c w->Way (l++d) c w
 |_,_,.last a b=>.last (by rw[MN,a];rfl) b
 |_,_,.more a b e=>.more (by rw[MN,a];rfl) b e.append
def Kept.add{l:?t}(d:Kept l){a:cq}(s:R l<12)(o:fh a.tag=M)(k:gt l a.tag=U)(f:∀e,a.back=Y e->(gt l e).isSome=M):Kept (l++[a])where
 gM:=by simp;lia
 tags:=by
  rw[iD];show yy.mpr (d.tags,by simp,λr n m f=>?_)
  let(c,b,0):=eM.mp n;have:m=a.tag:=by simp_all
  subst this;show p7.mp k c b
 tag:=λc b=>by
  rcases iE.mp b with h|h
  .show d.tag c h
  .rw[lX.mp h];lia
 way:=λc b=>by
  rcases iE.mp b with h|h
  .let(q,p):=d.way c h;show(q,p.append)
  .rw[lX.mp h];let j:gt (l++[a]) a.tag=Y a:=by
    rw[MN,k];simp[gt]
   cases i:a.back with
   |none=>show(_,.last j i)
   |some e=>
    let(c,b):=QJ.mp (f e i);show(_,.more j i (d.Ay b).append)
inductive pA(l:List cq):aP->List cq->Option aP->Prop
 |one {b:aP} {a:cq}:gt l b=Y a->pA l b [a] a.back
 |more {b c:aP} {a:cq} {d:?t}:pA l b d (Y c)->gt l c=Y a->pA l b (d++[a]) a.back
def pA.way{l:?t}(h:pA l i j f):∀b,(∃a,f=Y a/\?eL a b)->?eL i (j++b):=by
 induction h with
 |one e=>
  intro b ξ;let(a,c,d):=ξ;show .more e c d
 |more e k ih=>
  intro b ξ;let(a,c,d):=ξ;rw[sY];show ih _ (_,Z,.more k c d)
def pA.aG{l:?t}(h:pA l d e c)(b:c=U):?eL d e:=by
 cases h with
 |one a=>show .last a b
 |more a f=>show a.way _ (_,Z,.last f b)
def pA.split{l:?t}(h:pA l o m k):∀f,?eL o f->(k=U->f=m)/\(∀e,k=Y e->∃d,f=m++d/\?eL e d):=by
 induction h with
 |one i=>
  intro f j;cases j with
  |last b c=>rw[i]at b;cases b;show(λ_=>rfl,λe a=>by rw[c]at a;cases a)
  |more b c d=>rw[i]at b;cases b;show(λa=>(by rw[c]at a;cases a),λe a=>(by rw[c]at a;cases a;show(_,Z,d)))
 |more i n ih=>
  intro f j;let(d,a,p):=(ih f j).2 _ Z;subst a;cases p with
  |last b c=>simp_all
  |more b c d=>rw[n]at b;cases b;show(λa=>(by rw[c]at a;cases a),λe a=>(by rw[c]at a;cases a;show(_,?c,d)))
def pA.bad{l:?t}(h:pA l i j (Y b))(o:gt l b=U\/R l<=R j):¬∃c,?eL i c:=by
 intro ξ;let(c,f):=ξ;let(p,m,e):=(h.split c f).2 b Z;rcases o with d|d
 .cases e with
  |last a k=>grind
  |more a k p=>rw[d]at a;cases a
 let n:=f.len;let q:=BD.mpr e.ne;rw[m,iA]at n
 lia
def NL{l:?t}(f:R l<=12):xx l=M<->∀a∈l,∃d,?eL a.tag d:=by
 unfold xx;rw[nO];constructor
 .intro h a c;show(_,We 12 a.tag (h a c))
 intro h a c;let(d,b):=h a c;let e:oE l a.tag=d:=b.chain 12 (fZ b.len f);rw[e];show b.YY
def uD(b:aP):Nat->?t->Option (Nat×(cq×jz))
 |_,[]=>U
 |a,c::e=>match c.entry b with
  |some d=>Y (a,(c,d))
  |none=>uD b ?aN e
theorem Za(l:?t)(e c:aP):Ch l e c=uD c 0 (oE l e):=by
 unfold Ch;generalize oE l e=a
 suffices h:∀(a:?t) (b:Nat),((a.zipIdx b).filterMap λ(d:cq×Nat)=>(d.1.entry c).map λ(f:jz)=>(d.2,(d.1,f))).head?=uD c b a from h a 0
 intro a
 induction a with
 |nil=>intro b;rfl
 |cons d a ih=>
  intro b;rw[List.zipIdx_cons,BC];unfold uD;rcases i:d.entry c with _|f
  .simp only[Tg];show ih ?a4
  rfl
open Sk
def Fj{i j:Type}{d:Sk.Got i}{e:i->Nat->aP->Sk.Got j}{f:j×(Nat×aP)}(h:next d e=.ok f):gG λb a c=>d=.ok (b,(a,c))/\e b a c=.ok f:=by
 rcases d with a|k
 .cases h
 let(b,a,c):=k;show(b,a,c,Z,h)
theorem wq{e f:Type}{a:e}{d:Nat}{c:e->Nat->aP->Sk.Got f}:next (.ok (a,(d,b))) c=c a d b:=rfl
theorem u4{b d:Type}{a:Nat}{c:b->Nat->aP->Sk.Got d}:next (?gy:Sk.Got b) c=?gy:=rfl
def mW{f j:Type}{d:Sk.Got f}{e g:f->Nat->aP->Sk.Got j}(h:∀b a c,d=.ok (b,(a,c))->e b a c=g b a c):next d e=next d g:=by
 rcases d with a|i
 .rfl
 let(b,a,c):=i;show h b a c Z
theorem amG(a:Sk.Got c)(b:c->Nat->aP->Sk.Got d)(g:d->Nat->aP->Sk.Got i):next (next a b) g=next a λe h f=>next (b e h f) g:=by cases a<;>rfl
def tK{d e:Nat}(h:AA c d a=.ok (f,(e,b))):R b<R a:=by
 unfold AA at h;split at h
 .split at h
  .cases h;simp
  cases h
 cases h
def Jb{d e c:Nat}(h:uv d a=.ok (c,(e,b))):R b<R a:=by
 unfold uv at h;split at h
 .split at h
  .cases h;simp
   lia
  cases h;simp
 .split at h
  .cases h;simp
  cases h
 cases h
def Io{l:?bl}(i:∀o∈l,o≠[]){m n a:Nat}(h:qk l m b=.ok (a,(n,d))):R d<R b:=by
 unfold qk at h;split at h
 .rename_i r f;cases(h);let(c,k,_):=S7.mp f;let e:l.getD a []=l[a]:=by simp[List.getD,gv c]
  rw[e];let j:=i l[a] (List.getElem_mem c);let p:0<l[a].length:=BD.mpr j;let q:l[a].length<=R b:=(Gh.mp k).length_le;rw[lC]
  lia
 cases h
theorem OT(e:Nat):∀(d a b:Nat) (h:aP),(zr e d a b h).2.2.length<=R h
 |0,a,b,h=>?a2
 |d+1,a,b,[]=>?a2
 |d+1,a,b,c::f=>by
  change(if mZ c=M/\10*a+(c.toNat-48)<=e then zr e d (10*a+(c.toNat-48)) ?a4 f else(a,(b,c::f))).2.2.length<=(c::f).length;split
  .show fZ (OT e d _ _ f) (rZ _)
  show ?a2
def apy{b i:Nat}{l:Int}(h:uA b k=.ok (l,(i,e))):R e<=R k:=by
 unfold uA at h;split at h
 .rename_i a c;split at h
  .let d:=OT tP.toNat.succ 20 ?dY (b+2) c;let f:(zr tP.toNat.succ 20 ?dY (b+2) c).2=(i,e):=fL (λj=>j.2) (ahe h);rw[f]at d;simp at d ⊢
   lia
  cases h
 .cases h
 .cases h;simp
 .rename_i a c _ _ _;split at h
  .let d:=OT tP.toNat 20 ?dY ?a4 c;let f:(zr tP.toNat 20 ?dY ?a4 c).2=(i,e):=fL (λj=>j.2) (ahe h);rw[f]at d;simp at d ⊢
   lia
  cases h
 cases h
def Hr{j k:Nat}(h:Ci j c=.ok (i,(k,d))):R d<R c:=by
 unfold Ci at h;split at h
 .let(n,l,m,a,b):=Fj h;let(q,o,p,e,f):=Fj b;cases f;have:=apy a;have:=tK e;simp
  lia
 let(n,l,m,a,b):=Fj h;cases b;show Io ?i a
def HM{f i:Nat}(h:ID f a=.ok (e,(i,b))):R b<R a:=by
 unfold ID at h;dsimp only at h;split at h
 .cases h
 let(l,j,k,c,d):=Fj h;cases d;have:=tK c;rw[lC]at this
 lia
def NU(a:Nat):∀b∈(if a=0 then[EL]else[EL,Yu,Yv]),b≠[]:=by split<;>decide
def fk:jc->Nat
 |.nil=>1
 |.char _ a=>fk a+1
 |.esc _ a=>fk a+1
 |.hash a=>fk a+1
 |.arg _ _ a=>fk a+1
 |.plural _ b a=>fk b+fk a+1
 |.select _ b a=>fk b+fk a+1
 |.branch _ c d=>fk c+fk d+1
 |.other c=>fk c+1
def aqo(a:jc):1<=fk a:=by cases a<;>show Nat.le_add_left _ _
def kR(c:Nat)(e:?d3):=∀(b:jc) (d:Nat) (a:aP),e=.ok (b,(d,a))->fk b+R a<=c
theorem kR.er{a b:Nat}:kR a (.error b):=λ_ _ _ h=>by cases h
theorem kR.ok{a e:Nat}{b:aP}(h:fk c+R b<=a):kR a (.ok (c,(e,b))):=λ_ _ _ d=>by
 cases d;show h
def kR.nx{i:Type}{e:Nat}{f:Sk.Got i}{d:i->Nat->aP->?d3}(h:∀a c b,f=.ok (a,(c,b))->kR e (d a c b)):kR e (next f d):=λo m n j=>by
 let(a,c,b,k,l):=Fj j;show h a c b k o m n l
def Zm:∀(e d:Nat) (a:Sk.Mode) (p:Nat) (b:aP) {x:jc} {f:Nat} {s:aP},kM e d a p b=.ok (x,(f,s))->fk x+R s<=R b+1:=by
 suffices H:∀e d a p b,kR (R b+1) (kM e d a p b)from λe d a p b {x f s} h=>H e d a p b x f s h
 intro e
 induction e with
 |zero=>intro d a p b;show kR.er
 |succ e ih=>
  intro d a p b;let i:∀{d a p} {c:aP} {g:jc->jc} (k:Nat),(∀x,fk (g x)<=fk x+k)->R c+k<=R b->kR (R b+1) (next (kM e d a p c) λx f m=>.ok (g x,(f,m))):=λk B l=>kR.nx λA p s h=>kR.ok (by have:=ih _ _ _ _ _ _ _ h;have:=B A;lia)
  let u:∀{k:aP} {d a P f} {s:aP},R s<R b->kR (R b+1) (next (kM e d a f s) λ(a:jc) (t:Nat) (m:aP)=>next (AA 93 t m) λ(_:Unit) (z:Nat) (y:aP)=>
   if k=rn then .ok (Ys a,(z,y))else next (AA 91 z y) λ(_:Unit) (x:Nat) (b:aP)=>next (kM e d P x b) λ(l:jc) (t:Nat) (m:aP)=>.ok (Msg.branch k a l,(t,m))):=λl=>by
   show kR.nx λa X f n=>kR.nx λ_ b m o=>?_;let C:=ih _ _ _ _ _ _ _ n;let E:=tK o;split
   .show kR.ok (by change fk a+1+_<=_;lia)
   .show kR.nx λ_ e t q=>i (fk a+1) (λx=>by change fk a+fk x+1<=_;lia) (by have:=tK q;lia)
  cases a with
  |message T a=>
   unfold kM;split
   .split
    .show kR.er
    show kR.ok ?a2
   rename_i c a;split
   .show kR.ok (by change 1+(_+1)<=_+1+1;lia)
   split
   .split
    .split
     .show i 1 (λx=>?a2) (by change _<=_+1+1;lia)
     show kR.er
    show kR.er
   split
   .show kR.nx λa v w j=>?_;let r:=Jb j;split
    .show i 1 (λx=>?a2) (by have:_+1<_:=r;change _<=_+1;lia)
    .show kR.nx λk X f n=>?_;let C:=Io (NU d) n;let r:_+1<_:=r;split
     .show i 1 (λx=>?a2) (by change _<=_+1;lia)
     show kR.nx λl b m o=>kR.nx λ_ e t q=>i (fk l+1) (λx=>?_) ?_
     .split<;>(show fk l+fk x+1<=_;lia)
     let E:=ih _ _ _ _ _ _ _ o;let a:=tK q;change _<=_+1
     lia
    show kR.er
   split
   .show kR.er
   show i 1 (λx=>by split<;>show ?a2) (by change _<=_+1;lia)
  |numbers=>
   unfold kM;show kR.nx λk v w j=>u (Hr j)
  |words T=>
   unfold kM;show kR.nx λk v w j=>u (HM j)
def EG(c b:Nat)(d:Sk.Mode)(e:Nat)(a:aP){j:Nat}(h:kM c b d e a=.ok (i,(j,f))):R f<=R a:=by
 have:=Zm c b d e a h;have:=aqo i
 lia
open Sk
def k7:∀(h a g d:Nat) (c:Sk.Mode) (e:Nat) (f:aP),R f<=h->h<a->h<g->kM a d c e f=kM g d c e f:=by
 intro h
 induction h with
 |zero=>
  intro a g d c e f H P T;let(a,0):∃r,a=r+1:=(a-1,by lia)
  let(g,0):∃s,g=s+1:=(g-1,by lia)
  let u:f=[]:=rc.mp ?d
  subst u;cases c with
  |message t X=>rfl
  |numbers=>rfl
  |words t=>rfl
 |succ h ih=>
  intro a g d c e f H P T;let(a,0):∃r,a=r+1:=(a-1,by lia)
  let(g,0):∃s,g=s+1:=(g-1,by lia)
  let go:∀(d:Nat) (c:Sk.Mode) (e:Nat) (b:aP),R b<R f->kM a d c e b=kM g d c e b:=λd c e b h=>ih a g d c e b ?d ?d ?d
  cases c with
  |message t X=>
   unfold kM;rcases f with _|⟨a,A⟩
   .rfl
   dsimp only;split
   .rfl
   split
   .rcases A with _|⟨u,b⟩
    .rfl
    dsimp only;split
    .rw[?ip b ?b7]
    rfl
   split
   .show mW λa z b i=>?_;let n:=Jb i;split
    .rename_i o;rw[?ip o ?c8]
    .rename_i o;show mW λv E p j=>?_;let w:=Io (NU d) j;split
     .rw[?ip p ?c8]
     rw[?ip p ?c8]
     show mW λl C q k=>?_;let x:=EG _ _ _ _ _ k;show mW λ_ B a m=>?_;let y:=tK m;rw[?ip a ?c8]
    rfl
   split
   .rfl
   rw[?ip A ?c]
  |numbers=>
   unfold kM;show mW λv z b i=>?_;let n:=Hr i;rw[?ip b n];show mW λa E o j=>?_;let w:=EG _ _ _ _ _ j;show mW λ_ C p k=>?_;let x:=tK k;split
   .rfl
   show mW λ_ B q m=>?_;let y:=tK m;rw[?ip q ?d]
  |words t=>
   unfold kM;show mW λv z b i=>?_;let n:=HM i;rw[?ip b n];show mW λa E o j=>?_;let w:=EG _ _ _ _ _ j;show mW λ_ C p k=>?_;let x:=tK k;split
   .rfl
   show mW λ_ B q m=>?_;let y:=tK m;rw[?ip q ?d]
def rd(b:Nat)(c:Sk.Mode)(d:Nat)(a:aP):?d3:=kM (R a+1) b c d a
def xR{c b:Nat}{e:Nat}{a:aP}(h:R a<c):kM c b d e a=rd b d e a:=k7 a.length c (R a+1) b d e a ?a2 h (wT _)
theorem alp(a:aP):Na a=match ?fS with|.error b=>.error b|.ok c=>.ok c.1:=by
 unfold Na;rw[xR ?d]
 cases ?fS<;>rfl
theorem asC(c:Nat)(d b:Bool)(a:Nat):rd c (?g7 b) a []=if b=M then ?gy else .ok (.nil,(a,[])):=rfl
theorem IZ(c:Nat)(d:Bool)(a:Nat)(b:aP):rd c (?g7 M) a (93::b)=.ok (.nil,(a,93::b)):=by unfold rd kM;rfl
def asB(b:Nat)(d c:Bool)(e:Nat)(a:UInt8)(f:aP)(h:AB a=M\/a=35):rd b (?g7 c) e (92::a::f)=next (rd b (?g7 c) (e+2) f) λi j k=>.ok (.esc a i,(j,k)):=by
 rw[rd]
 conv=>lhs;unfold kM
 try dsimp only
 rw[bp (λl=>bK l.1 ?i),?eZ,bz h,xR ?b7]
def aln(c:Nat)(e d:Bool)(b:Nat)(a:UInt8)(f:aP)(h:¬(AB a=M\/a=35)):rd c (.message e d) b (92::a::f)=.error ?a4:=by
 rw[rd]
 conv=>lhs;unfold kM
 try dsimp only
 rw[bp (λi=>bK i.1 ?i),?eZ,bp h]
theorem alo(b:Nat)(d c:Bool)(a:Nat):rd b (?g7 c) a [92]=.error ?aN:=by
 rw[rd]
 conv=>lhs;unfold kM
 try dsimp only
 rw[bp (λe=>bK e.1 ?i),?eZ]
def G5(d:Nat)(c e:Bool)(i:Nat)(a:UInt8)(j:aP)(h:AB a=I):rd d (.message c e) i (a::j)=next (rd d (.message c e) (i+1) j) λf n o=>.ok (if a=35/\c=M then .hash f else .char a f,(n,o)):=by
 let k:a≠93:=λb=>by subst b;revert h;decide
 let l:a≠92:=λb=>by subst b;revert h;decide
 let m:a≠123:=λb=>by subst b;revert h;decide
 rw[rd]
 conv=>lhs;unfold kM
 try dsimp only
 rw[bp (λb=>k b.1),bp l,bp m,bp (by rw[h];decide),xR ?c]
def asA(d:Nat)(j b:Bool)(c:Nat)(a:UInt8)(k:aP)(h:AB a=M)(e:¬(a=93/\b=M))(f:a≠92)(i:a≠123):rd d (.message j b) c (a::k)=.error c:=by
 rw[rd]
 conv=>lhs;unfold kM
 try dsimp only
 rw[bp e,bp f,bp i,bz h]
open Sk
def bm(b a:Bool):Sk.Mode:=if b=M then .numbers else .words a
def qr(c:Bool)(b:Nat)(a:aP):Sk.Got aP:=if c=M then Ci b a else ID b a
def mk(c:Bool)(a:Nat)(l b:jc):jc:=if c=M then .plural a l b else .select a l b
def ase{d f:Nat}(h:qr e d a=.ok (c,(f,b))):R b<R a:=by
 unfold qr at h;split at h
 .show Hr h
 show HM h
def Db(h:Nat)(j i:Bool)(c:aP)(pre:jc->jc)(k:?d3):?d3:=next k λd b a=>next (AA 93 b a) λ_ f e=>
 if c=rn then .ok (.other (pre d),(f,e))else next (AA 91 f e) λ_ n m=>next (rd h (bm j i) n m) λl b a=>.ok (.branch c (pre d) l,(b,a))
theorem WF(a:Nat)(c d:Bool)(o:Nat)(e:aP):rd a (bm c d) o e=next (qr c o e) λk b s=>Db a c d k id (rd a (.message (c||d) M) b s):=by
 let go:∀{k:aP} {b:Nat} {s:aP},R s<R e->∀(g:Bool),(next (kM e.length a (.message g M) b s) λj h f=>next (AA 93 h f) λ_ n m=>
  if k=rn then Es (Ys j,(n,m))else next (AA 91 n m) λ_ q p=>next (kM e.length a (bm c d) q p) λl h f=>.ok (.branch k j l,(h,f)))=Db a c d k id (rd a (.message g M) b s):=by
  intro k b s v g;unfold Db;rw[xR v];show mW λj h f r=>?_;let w:=EG _ _ _ _ _ (show kM (R s+1) a (.message g M) b s=_ from r);show mW λ_ n m t=>?_;let x:=tK t;split
  .rfl
  .show mW λ_ q p u=>?_;let y:=tK u;rw[xR ?d]
   rfl
 rcases c with _|_
 .rw[rd];unfold bm qr;rw[bp ?i,bp ?i]
  conv=>lhs;unfold kM
  show mW λk b s i=>?_;show go (HM i) d
 rw[rd];unfold bm qr;rw[?eZ,?eZ]
 conv=>lhs;unfold kM
 show mW λk b s i=>?_;show go (Hr i) M
def sy(d:Nat)(i e:Bool)(j:Bool)(f:Nat)(c:jc->jc)(k:?d3):?d3:=next k λl b a=>next (AA 125 b a) λ_ n m=>next (rd d (.message i e) n m) λh b a=>.ok (mk j f (c l) h,(b,a))
theorem CG(c:Nat)(d k:Bool)(p:Nat)(q:aP):rd c (?g7 k) p (123::q)=next (uv ?fg q) λf m r=>match r with
 |125::j=>next (rd c (?g7 k) (m+1) j) λb e i=>.ok (.arg f I b,(e,i))
 |32::j=>next (qk (if c=0 then[EL]else[EL,Yu,Yv]) (m+1) j) λa e i=>
  if a=0 then next (rd c (?g7 k) e i) λb o n=>.ok (.arg f M b,(o,n))else sy c d k (a==1) f id (rd (c-1) (bm (a==1) d) e i)
 |_=>.error m:=by
 rw[rd]
 conv=>lhs;unfold kM
 dsimp only;rw[bp (λe=>bK e.1 ?i),bp ?i,?eZ]
 show mW λf m r u=>?_;let A:=Jb u;split
 .rename_i j;rw[xR ?c8]
  rfl
 .rename_i j;change next _ _=next _ _;show mW λa e i v=>?_;let B:=Io (NU c) v;split
  .rw[xR ?c8]
  let s:(if a=1 then Sk.Mode.numbers else Sk.Mode.words d)=bm (a==1) d:=by
   unfold bm;by_cases h:a=1<;>simp[h]
  let t:∀l b,(if a=1 then Msg.plural f l b else Msg.select f l b)=mk (a==1) f l b:=λl b=>by
   unfold mk;by_cases h:a=1<;>simp[h]
  unfold sy;rw[s,xR ?c8]
  show mW λl o n w=>?_;let C:=EG _ _ _ _ _ (show kM (R i+1) (c-1) (bm (a==1) d) e i=_ from w);show mW λ_ P H x=>?_;let E:=tK x;rw[xR ?c8]
  show mW λb o n y=>?_;rw[t];rfl
 rename_i x1 x2;split
 .lia
 .show(x2 _ Z).elim
 rfl
structure Lv where
 pl:Bool
 slot:Nat
 n:Bool
 pre:jc->jc
 iK:jc->jc
 key:aP
def lT:List Lv->Bool
 |[]=>I
 |a::_=>a.pl||a.n
def fin:List Lv->(jc->jc)->?d3->?d3
 |[],pre,c=>next c λd e f=>.ok (pre d,(e,f))
 |a::b,pre,c=>fin b a.pre (sy (C5-R b) a.n (!b.isEmpty) a.pl a.slot a.5 (Db (C5-R b-1) a.pl a.n a.key pre c))
def go(a:List Lv)(pre:jc->jc)(c:Nat)(b:aP):?d3:=fin a pre (rd (C5-R a) (.message (lT a) (!a.isEmpty)) c b)
theorem uC(a:Nat):∀(b:List Lv) (pre:jc->jc),fin b pre ?gy=?gy
 |[],_=>rfl
 |c::b,pre=>uC a b c.pre
theorem CA(g:jc->jc)(a:List Lv)(pre:jc->jc)(b:?d3):fin a pre (next b λc d e=>.ok (g c,(d,e)))=fin a (λc=>pre (g c)) b:=by
 rcases a with _|⟨f,a⟩
 .cases b<;>rfl
 cases b<;>rfl
theorem ZU(a:aP):Na a=match go [] id 0 a with|.error b=>.error b|.ok c=>.ok c.1:=by
 rw[alp];change _=(match next ?fS (λd e f=>(.ok (id d,(e,f)):?d3))with|.error b=>(UZ b:Except Nat jc)|.ok c=>Es c.1)
 cases ?fS<;>rfl
section
variable{ls:List Lv}{pre:jc->jc}{p:Nat}
def E5(h:AB a=I)(i:¬(a=35/\lT ls=M)):?cP (a::e)=go ls (λb=>pre (.char a b)) ?fg e:=by
 unfold go;rw[G5 _ _ _ _ _ _ h];let f:(λ(b:jc) (c:Nat) (d:aP)=>(Es (if a=35/\lT ls=M then ZC b else ZB a b,(c,d)):?d3))=λb c d=>.ok (ZB a b,(c,d)):=by grind
 rw[f,CA]
def ap4(f:lT ls=M):?cP (35::d)=go ls (λa=>pre (.hash a)) ?fg d:=by
 unfold go;rw[G5 _ _ _ _ _ _ ?i]
 let e:(λ(a:jc) (b:Nat) (c:aP)=>(Es (if(35:UInt8)=35/\lT ls=M then ZC a else ZB 35 a,(b,c)):?d3))=λa b c=>.ok (ZC a,(b,c)):=by simp_all
 rw[e,CA]
def arX(h:AB a=M\/a=35):?cP (92::a::b)=go ls (λc=>pre (.esc a c)) (p+2) b:=by unfold go;rw[asB _ _ _ _ _ _ h,CA]
def akY(h:¬(AB a=M\/a=35)):?cP (92::a::b)=.error ?fg:=by unfold go;rw[aln _ _ _ _ _ _ h,uC]
theorem akZ:?cP [92]=.error ?fg:=by unfold go;rw[alo,uC]
def L8(h:AB a=M)(c:¬(a=93/\ls≠[]))(d:a≠92)(e:a≠123):?cP (a::i)=.error p:=by unfold go;rw[asA _ _ _ _ _ _ h (λb=>c (b.1,λf=>by rw[f]at b;show bK b.2 ?i)) d e,uC]
def arW(h:ls=[]):?cP []=.ok (?bI,(p,[])):=by subst h;rfl
def arV(h:ls≠[]):?cP []=.error p:=by unfold go;rw[asC,bz (by cases ls with|nil=>show bK Z h|cons _ _=>rfl),uC]
def ajS{a:Nat}(h:uv ?fg b=?gy):?cP (123::b)=?gy:=by unfold go;rw[CG,h,u4,uC]
def arU{a c:Nat}(h:uv ?fg e=.ok (a,(c,125::d))):?cP (123::e)=go ls (λb=>pre (.arg a I b)) (c+1) d:=by unfold go;rw[CG,h,wq];change fin ls pre (next (?bc (c+1) d) λb i f=>.ok (.arg a I b,(i,f)))=_;rw[CA]
def aix{i c:Nat}(h:uv ?fg d=.ok (i,(c,a)))(e:∀b,a≠125::b)(f:∀b,a≠32::b):?cP (123::d)=.error c:=by
 unfold go;rw[CG,h,wq];split
 .lia
 .show bK Z (f _)
 show uC _ _ _
def MO{a c e:Nat}(h:uv ?fg f=.ok (a,(c,32::d)))(k:?a3 (c+1) d=.error e):?cP (123::f)=.error e:=by unfold go;rw[CG,h,wq];change fin ls pre (next (?a3 (c+1) d) λb j i=>if b=0 then next (?bc j i) λl n m=>.ok (.arg a M l,(n,m))else ?dP (lT ls) (b==1) a id (rd (C5-R ls-1) (bm (b==1) (lT ls)) j i))=_;rw[k,u4,uC]
def an3{c f b:Nat}(h:uv ?fg j=.ok (c,(f,32::i)))(k:?a3 (f+1) i=.ok (0,(b,a))):?cP (123::j)=go ls (λe=>pre (.arg c M e)) b a:=by unfold go;rw[CG,h,wq];change fin ls pre (next (?a3 (f+1) i) λd b a=>if d=0 then next (?bc b a) λe m l=>.ok (.arg c M e,(m,l))else ?dP (lT ls) (d==1) c id (rd (C5-R ls-1) (bm (d==1) (lT ls)) b a))=_;rw[k,wq,?eZ,CA]
def ap6{d f c a:Nat}(l:a≠0)(h:uv ?fg j=.ok (d,(f,32::i)))(k:?a3 (f+1) i=.ok (a,(c,b))):?cP (123::j)=next (qr (a==1) c b) λm e o=>go ((a==1,d,lT ls,pre,id,m)::ls) id e o:=by
 unfold go;rw[CG,h,wq];change fin ls pre (next (?a3 (f+1) i) λa c b=>if a=0 then next (?bc c b) λn e q=>.ok (.arg d M n,(e,q))else ?dP (lT ls) (a==1) d id (rd (C5-R ls-1) (bm (a==1) (lT ls)) c b))=_;rw[k,wq,bp l,WF];rcases qr (a==1) c b with r|e
 .show uC _ _ _
 rfl
def ap5{a:Lv}(j:a.key≠rn):go (a::ls) pre p (93::91::b)=next (qr a.pl (p+2) b) λc d i=>go ({a with iK:=λe=>a.5 (?e2 a.key e),key:=c}::ls) id d i:=by
 change fin (a::ls) pre (?cy (93::91::b))=_;change fin ls a.pre (sy _ _ _ _ _ a.5 (if a.key=rn then _ else next (rd (C5-R ls-1) (bm a.pl a.n) (p+2) b) λl h f=>.ok (?e2 a.key l,(h,f))))=_;rw[bp j,WF];rcases qr a.pl (p+2) b with k|d
 .show uC _ _ _
 let(c,d,i):=d;unfold sy;rw[amG];rfl
def ajR{a:Lv}(d:a.key≠rn)(h:∀e,b≠91::e):go (a::ls) pre p (93::b)=.error ?fg:=by
 change fin (a::ls) pre (?cy (93::b))=_;change fin ls a.pre (sy _ _ _ _ _ a.5 (if a.key=rn then _ else next (AA 91 ?fg b) _))=_;rw[bp d];let c:AA 91 ?fg b=.error ?fg:=by
  unfold AA;rcases b with _|⟨i,b⟩
  .rfl
  dsimp only;rw[bp (λf=>h b (by rw[f]))]
 rw[c];show uC _ _ _
def an2{a:Lv}(d:a.key=rn)(e:a.n=lT ls):go (a::ls) pre p (93::125::b)=go ls (λc=>a.pre (mk a.pl a.slot (a.5 ?fk) c)) (p+2) b:=by unfold go;change fin (a::ls) pre (?cy (93::125::b))=_;rw[IZ];change fin ls a.pre (?dP a.n a.pl a.slot a.5 (if a.key=rn then .ok (?fk,(p+1,125::b))else _))=_;rw[bz d,e];change fin ls a.pre (next (?bc (p+2) b) λc h f=>.ok (mk a.pl a.slot (a.5 ?fk) c,(h,f)))=_;rw[CA]
def aiy{a:Lv}(d:a.key=rn)(h:∀e,b≠125::e):go (a::ls) pre p (93::b)=.error ?fg:=by
 change fin (a::ls) pre (?cy (93::b))=_;rw[IZ];change fin ls a.pre (?dP a.n a.pl a.slot a.5 (if a.key=rn then .ok (?fk,(p+1,b))else _))=_;rw[bz d];let c:AA 125 ?fg b=.error ?fg:=by
  unfold AA;rcases b with _|⟨i,b⟩
  .rfl
  dsimp only;rw[bp (λf=>h b (by rw[f]))]
 unfold sy;rw[wq,c];show uC _ _ _
end
open Sk
def Tj:∀a,a<10->(Nat.digitChar a).toNat=48+a:=by decide
def p6:∀(c a:Nat),a<10^c->0<c->(rp c a).map Hv=(Hi 10 a).map Ej:=by
 intro k
 induction k with
 |zero=>
  intro a h f;show ?b2 f
 |succ c ih=>
  intro a h _;unfold rp;rw[Nat.toDigits_eq_if ?i]
  let j:a %10<10:=Nat.mod_lt _ ?i
  let e:(xj (48+a %10)).toNat=48+a %10:=by
   rw[DI]
   lia
  by_cases b:a<10
  .rw[bz b,bz b,Td,Li,Li,e,Tj a b];rw[afx b]
  rw[bp b,bp b,iD,iD,Li,Li,e,Tj _ j];let i:0<c:=by
   rcases Lk c with d|d
   .subst d
    lia
   show d
  rw[ih (a/10) (by rw[BS]at h;lia) i]
def akP{a:Nat}(h:a<10^40):(wd a).map Hv=(Hi 10 a).map Ej:=p6 40 a h ?i
def XI{a:Int}(h:a.natAbs<10^40):(qg a).map Hv=(if a<0 then[45]else[])++(Hi 10 a.natAbs).map Ej:=by unfold qg;rw[iD,akP h];split<;>rfl
def d_(c:aP)(b:Nat):Nat->aP->aP
 |_,[]=>[]
 |a,d::e=>(if 0<a/\(b-a) %3=0 then c else[])++d::d_ c b ?aN e
theorem TX(d:aP)(c:Nat):∀(a:aP) (b:Nat) (e:UInt8),b+1+R a=c->d_ d c ?a4 a=((if a.isEmpty=I/\R a %3=0 then d else[])++CM d a)
 |[],b,e,h=>by
  unfold d_ CM;simp
 |f::a,b,e,h=>by
  unfold d_ CM;let i:(c-?a4) %3=(f::a).length %3:=by
   congr 1
   lia
  rw[i,TX d c a ?a4 f (by simp at h;lia)]
  simp
theorem amn(b:aP)(a:aP):d_ b a.length 0 a=CM b a:=by
 rcases a with _|⟨c,d⟩
 .rfl
 unfold d_ CM;rw[bp (λe=>?b2 e.1),TX b _ d 0 c ?b7]
 rfl
open Sk
def vD(l:?dK)(c:Nat):Nat:=(wb c).foldl (λ(b a:Nat)=>if ?i6=M then b+2^a else b) 0
theorem Nn(l:?dK)(a:Nat):vD l ?aN=if ?i6=M then vD l a+2^a else vD l a:=by unfold vD;rw[List.range_succ,ae4];rfl
theorem Of(l:?dK):∀a,vD l a<2^a
 |0=>wT 0
 |a+1=>by
  have ih:=Of l a;rw[Nn,BS];split<;>lia
theorem Zc(l:?dK):∀b a,(vD l b).testBit a=(decide (a<b)&&?i6)
 |0,a=>by
  change(0:Nat).testBit a=_;simp
 |b+1,a=>by
  let k:=Of l b;have ih:=Zc l b a;rw[Nn];by_cases h:a=b
  .subst h;let i:(vD l a).testBit a=I:=V6 k;by_cases d:?i6=M
   .rw[bz d,ahS,Nat.testBit_two_pow_add_eq,i,d];simp
   .rw[bp d,i];simp[d];simpa using d
  .let j:(vD l b+2^b).testBit a=(if a<b then(vD l b).testBit a else(vD l b+2^b).testBit a):=by
    split
    .rename_i c;rw[ahS,Nat.testBit_two_pow_add_gt c]
    .rfl
   by_cases c:a<b
   .let e:a<b+1:=Lx c;split
    .rw[j,bz c,ih];simp[c,e]
    .rw[ih];simp[c,e]
   .let e:¬a<b+1:=by lia
    let f:vD l ?a4<2^a:=jw (Of l ?a4) (Rg ?i ?d)
    rw[Nn]at f;rw[V6 f];simp[e]
theorem Ct(l:?dK)(a:Nat):(AX l).testBit a=(decide (a<16)&&?i6):=Zc l 16 a
def aoo:AX []=0:=by decide
theorem Zd{l:?dK}{a:Nat}(h:a<16):AX l|||2^a=AX (l++[a]):=by
 show Rf λc=>?_;rw[Nat.testBit_or,Ct,Ct,Nat.testBit_two_pow];by_cases b:a=c
 .subst b;simp[h]
 let d:¬c=a:=λe=>b e.symm;simp[b,d,List.contains_eq_any_beq]
def No{l m:?dK}(h:∀b,b∈l<->b∈m):AX l=AX m:=by
 show Rf λa=>?_;rw[Ct,Ct];let c:?i6=m.contains a:=by
  rw[sZ,KO,KO];show h a
 rw[c]
def amz{l:?dK}(h:∀a∈l,a<16):AX l=0<->l=[]:=by
 constructor
 .intro b;rcases l with _|⟨a,e⟩
  .rfl
  let c:=Ct (a::e) a;rw[b]at c;let d:=h a ?c
  simp[d]at c
 intro b;rw[b];show aoo
open Sk
theorem bS:mO (a::c) (b::d)=(decide (a<b)||(a==b&&mO c d)):=rfl
theorem xq:∀a:aP,mO a a=I:=by
 intro b
 induction b with
 |nil=>
  show rfl
 |cons c a ih=>
  simp[bS,ih]
theorem BV:∀{e b c:aP},mO e b=M->mO b c=M->mO e c=M
 |[],[],c,d,_=>by cases d
 |[],_::_,[],_,a=>by cases a
 |[],_::_,_::_,_,_=>rfl
 |_::_,[],_,d,_=>by cases d
 |_::_,_::_,[],_,a=>by cases a
 |f::e,h::b,i::c,d,a=>by
  simp only[bS,GQ,ja,ik,jT]at d a ⊢;rcases d with d|⟨rfl,d⟩
  .rcases a with a|⟨rfl,a⟩
   .show .inl (UInt8.lt_trans d a)
   show .inl d
  rcases a with a|⟨rfl,a⟩
  .show ?ai
  show .inr (rfl,BV d a)
def Vl(h:mO a b=M):mO b a=I:=by
 rcases c:mO b a with _|_
 .rfl
 have:=BV h c;rw[xq]at this;cases this
theorem Hm:∀{a b:aP},a≠b->mO a b=M\/mO b a=M
 |[],[],h=>bK Z h
 |[],_::_,_=>?aG
 |_::_,[],_=>.inr Z
 |e::a,f::b,h=>by
  simp only[bS,GQ,ja,ik,jT];by_cases d:e=f
  .subst d;rcases Hm (a:=a) (b:=b) (λi=>h (by rw[i]))with c|c
   .show .inl (.inr (rfl,c))
   show .inr (.inr (rfl,c))
  rcases UInt8.lt_or_lt_of_ne d with c|c
  .show .inl ?js
  show .inr ?js
abbrev pO(l:?bl):Prop:=l.Pairwise λa b=>mO a b=M
theorem Eo:∀{d b:?bl},pO d->pO b->(∀c,c∈d<->c∈b)->d=b
 |[],[],_,_,_=>rfl
 |[],f::b,_,_,h=>?fO ((h f).mpr ?c)
 |c::d,[],_,_,h=>?fO ((h c).mp ?c)
 |c::d,f::b,p,q,h=>by
  let(k,m):=vQ.mp p;let(l,n):=vQ.mp q;let o:c=f:=by
   let r:=(h c).mp ?c
   let s:=(h f).mpr ?c
   rcases bM.mp r with a|a
   .show a
   rcases bM.mp s with j|j
   .show j.symm
   have:=Vl (k f j);rw[l c a]at this;cases this
  subst o;rw[Eo m n λi=>?_];constructor
  .intro e;rcases bM.mp ((h i).mp (gY _ e))with a|a
   .have:=k i e;rw[a,xq]at this;cases this
   show a
  intro e;rcases bM.mp ((h i).mpr (gY _ e))with a|a
  .have:=l i e;rw[a,xq]at this;cases this
  show a
def pO.nodup{l:?bl}(h:pO l):l.Nodup:=ae2 (λ{c d} a b=>by rw[b,xq]at a;cases a) h
theorem Ml(b:aP):∀(l:?bl) (a:aP),a∈insertKey b l<->a=b\/a∈l
 |[],a=>by simp[insertKey]
 |d::l,a=>by
  unfold insertKey;split
  .simp_all
  split
  .simp
  simp only[bM,Ml b l a];constructor
  .rintro(h|h|h)
   .simp_all
   .lia
   show ?jP
  rintro(h|h|h)
  .lia
  .show .inl h
  show ?jP
theorem SD(f:aP):∀{l:?bl},pO l->pO (insertKey f l)
 |[],_=>by simp[insertKey]
 |m::l,h=>by
  let(j,k):=vQ.mp h;unfold insertKey;split
  .show h
  rename_i a;split
  .rename_i b;show vQ.mpr (λc e=>?_,h);rcases bM.mp e with a|a
   .simp_all
   show BV b (j c a)
  rename_i b;show vQ.mpr (λc e=>?_,SD f k);rcases(Ml f l c).mp e with d|d
  .subst d;rcases Hm a with i|i
   .show bK i b
   show i
  show j c d
def ZZ(l:?bl):pO (l.foldr insertKey [])/\∀a,a∈l.foldr insertKey []<->a∈l:=by
 induction l with
 |nil=>show(awf,λa=>Iff.rfl)
 |cons b l ih=>
  show(SD b ih.1,λa=>?_);rw[List.foldr_cons,Ml,ih.2,bM]
abbrev qi(l:List jz):Prop:=pO (l.map Yp)
def akR{l:List jz}(h:l.find? ?id=Y a):a∈l/\a.key=b:=
 (Bv h,by simpa using BK h)
def Nl{l:List jz}:l.find? ?id=U<->∀a∈l,a.key≠b:=by simp
theorem Ar(e:jz):∀{l:List jz},qi l->∀b,b∈BY e l<->b=e\/(b∈l/\b.key≠e.key)
 |[],_,b=>by simp[BY]
 |n::l,h,b=>by
  let(m,p):=vQ.mp h;let q:∀a∈l,a.key≠n.key:=λa i d=>by
   have:=m a.key (eM.mpr (a,i,Z));rw[d,xq]at this;cases this
  unfold BY;split
  .rename_i d;constructor
   .intro f;rcases bM.mp f with a|a
    .show ?ai
    show .inr (gY _ a,by rw[d];show q b a)
   rintro(a|⟨a,k⟩)
   .rw[a];simp
   rcases bM.mp a with c|c
   .show bK (by rw[c,d]) k
   show gY _ c
  rename_i d;split
  .rename_i r;let o:∀a∈n::l,a.key≠e.key:=λa i c=>by
    rcases bM.mp i with j|j
    .simp_all
    have:=BV r (m a.key (eM.mpr (a,j,Z)));rw[c,xq]at this;cases this
   constructor
   .intro f;rcases bM.mp f with a|a
    .show ?ai
    show .inr (a,o b a)
   rintro(a|⟨a,_⟩)
   .rw[a];simp
   show gY _ a
  have ih:=Ar e (l:=l) p b;rw[bM,ih,bM];constructor
  .rintro(a|a|a)
   .show .inr (?ai,by rw[a];show λc=>d c.symm)
   .show ?ai
   show .inr (.inr a.1,a.2)
  rintro(a|⟨a|a,k⟩)
  .show ?ab
  .show ?ai
  show .inr (.inr (a,k))
theorem Tn(b:jz):∀{l:List jz},qi l->qi (BY b l)
 |[],_=>by simp[BY,qi,pO]
 |o::l,h=>by
  let(k,m):=vQ.mp h;unfold BY;split
  .rename_i e;change pO (b.key::l.map Yp);rw[e];lia
  rename_i e;split
  .rename_i c;show vQ.mpr (λj d=>?_,h);rcases bM.mp (show j∈o.key::l.map Yp from d)with a|a
   .lia
   show BV c (k j a)
  rename_i c;show vQ.mpr (λj d=>?_,Tn b m);let(i,n,0):=eM.mp d;rcases(Ar b m i).mp n with a|a
  .subst a;rcases Hm e with f|f
   .show bK f c
   show f
  show k i.key (eM.mpr (i,a.1,Z))
def Xc{l:List jz}{e:jz}(h:qi l)(b:(l.getLast?.all λ(c:jz)=>mO c.key e.key)=M):qi (l++[e]):=by
 unfold qi;rw[iD];show KQ.mpr (h,by simp,λn i f j=>?_)
 have:f=e.key:=by simp_all
 subst this;let(c,d,0):=eM.mp i;let k:l≠[]:=λa=>by rw[a]at d;simp at d
 let(o,m,0):=xM k;rw[List.getLast?_append]at b;rcases iE.mp d with a|a
 .rw[qi,iD]at h;have:=(KQ.mp h).2.2 c.key (eM.mpr (c,a,Z)) m.key ?c
  show BV this b
 rw[lX.mp a];show b
def ag0(l:?t)(a:aP):pO (Cc l a):=X9 _ (ZZ _).1
theorem ajZ(l:?t)(b a:aP):a∈Cc l b<->(∃d∈(oE l b).drop 1,∃c∈d.entries,c.key=a)/\a∉pJ l b:=by unfold Cc Sk.backKeys;rw[tj,(ZZ _).2,List.mem_flatMap];simp only[eM,GL,X_,decide_eq_false_iff_not]
def l6(b:jc):=∀a∈b.names,a.1<16/\a.2<3
theorem HB(b:Nat)(e:jc)(a:Nat):(IC b e).testBit a=(decide (a<16)&&decide ((a,b)∈e.names)):=by
 unfold IC;rw[Ct];congr 1;rw[X_];show decide_eq_decide.mpr ?_;simp only[eM,tj,jT];constructor
 .intro ξ;let((i,j),(f,c),d):=ξ;simp only at c d;rw[<-c,<-d];show f
 intro h;show((a,b),(h,Z),Z)
def aks(m:l6 h):Nb h f=M<->∃a,a<3/\∃b,(IC a h).testBit b=M/\(IC a f).testBit b=I:=by
 unfold Nb;rw[vT];constructor
 .intro ξ;let((b,a),c,d):=ξ;let(k,l):=m _ c;show(a,l,b,?_,?_)
  .rw[HB,im k,im c];rfl
  rw[HB];have:(b,a)∉f.names:=λe=>by
   have:(f.names.any λ(j:Nat×Nat)=>b==j.1&&a==j.2)=M:=vT.mpr ((b,a),e,by simp)
   rw[this]at d;cases d
  rw[gu this,GX]
 intro ξ;let(a,p,b,c,d):=ξ;rw[HB,ik,ja,ja]at c;rw[HB,im c.1,Ak,decide_eq_false_iff_not]at d;show((b,a),c.2,?_);rw[GL,ae3];intro ξ;let(n,o):=ξ;intro i e;simp only[ik,jT]at e;rw[<-e.1,<-e.2]at i;lia
open Sk
abbrev Nx:=Option (Nat×(?t×aP))
def sk(c:Nat)(l:?t)(d:aP):?bl->Nx
 |[b,a,e]=>match EM e with
  |none=>U
  |some f=>if fh b=I\/(gt l b).isSome=M\/Eb<=R l\/(a≠[45]/\fh a=I)\/(l.getLast?.all λ(h:cq)=>vd h.3.rules)=I then U else Y (c+1,(l++[(b,if a=[45]then U else Y a,(f,[]),[])],d))
 |_=>U
def qd(d:Nat)(l:?t)(h:aP):?bl->Nx
 |[b,c,f,e,j,k]=>match l.getLast? with
  |none=>U
  |some a=>if a.entries.isEmpty=M/\R a.3.rules<bG then(match(Cq [b,c,f,e,j,k]).bind Nw with
   |none=>U
   |some i=>Y (d+1,(Sk.onLast (λ(g:cq)=>{g with ways:={g.ways with rules:=g.ways.rules++[i]}}) l,h)))else U
 |_=>U
def rC(i:Nat)(l:?t)(b:aP):?bl->Nx
 |[d,c]=>match l.getLast? with
  |none=>U
  |some e=>if lE d=M/\R e.entries<C6/\vd e.3.rules=M/\(e.entries.getLast?.all λ(h:jz)=>mO h.key d)=M then(match AS c with
   |none=>U
   |some a=>if C7<a\/R b<a+1\/(?bR).head?≠Y 10 then U else match Na ?ii with
    |.error _=>U
    |.ok g=>Y (i+1+((?ii).filter λ(c:UInt8)=>c==10).length+1,(Sk.onLast (λ(f:cq)=>{f with entries:=f.entries++[(d,?ii,g)]}) l,b.drop ?aN)))else U
 |_=>U
def xC(b:Nat)(l:?t)(d:aP):Nx:=match MZ d with
 |none=>U
 |some (e,c)=>match iJ e with
  |[]=>U
  |h::a=>if h=?a5 then sk b l c a else if h=?dw then qd b l c a else if h=?bp then rC b l c a else U
def aC:?dw≠?a5/\?bp≠?a5/\?bp≠?dw:=by decide
theorem Ho(z u:Nat)(l:?t)(f:aP):Fb (z+1) u l f=if f.isEmpty=M then(if(xx l&&l.all λ(e:cq)=>vd e.3.rules)=M then .ok l else .error u)else match xC u l f with
 |none=>.error u
 |some e=>Fb z e.1 e.2.1 e.2.2:=by
 let(B,C,E):=aC;change(if f.isEmpty=M then _ else _)=_;by_cases t:f.isEmpty=M
 .rw[bz t,bz t]
 rw[bp t,bp t];unfold xC;rcases MZ f with _|e
 .rfl
 let(H,y):=e;dsimp only;generalize iJ H=P;rcases P with _|⟨h,r⟩
 .cases l.getLast?<;>rfl
 dsimp only;by_cases d:h=?a5
 .rw[bz d];rcases r with _|⟨j,_|⟨m,_|⟨k,_|⟨n,_|⟨o,_|⟨p,_|⟨w,x⟩⟩⟩⟩⟩⟩⟩
  .cases l.getLast?<;>rfl
  .cases l.getLast?<;>rfl
  .rcases l.getLast? with _|b
   .rfl
   show bp λa=>C (a.1.symm.trans d)
  .show(bz d).trans ?_;unfold sk;dsimp only;rcases EM k with _|sep
   .rfl
   dsimp only;split<;>rfl
  .cases l.getLast?<;>rfl
  .cases l.getLast?<;>rfl
  .rcases l.getLast? with _|b
   .rfl
   show bp λa=>B (a.1.symm.trans d)
  cases l.getLast?<;>rfl
 rw[bp d];by_cases i:h=?dw
 .rw[bz i];rcases r with _|⟨j,_|⟨m,_|⟨k,_|⟨n,_|⟨o,_|⟨p,_|⟨w,x⟩⟩⟩⟩⟩⟩⟩
  .cases l.getLast?<;>rfl
  .cases l.getLast?<;>rfl
  .rcases l.getLast? with _|b
   .rfl
   show bp λa=>E (a.1.symm.trans i)
  .show bp d
  .cases l.getLast?<;>rfl
  .cases l.getLast?<;>rfl
  .unfold qd;dsimp only;rcases l.getLast? with _|b
   .rfl
   dsimp only;by_cases c:b.entries.isEmpty=M/\R b.3.rules<bG
   .rw[bz (i,c),bz c];cases(Cq [j,m,k,n,o,p]).bind Nw<;>rfl
   rw[bp λa=>c a.2,bp c]
  cases l.getLast?<;>rfl
 rw[bp i];by_cases q:h=?bp
 .rw[bz q];rcases r with _|⟨j,_|⟨m,_|⟨k,_|⟨n,_|⟨o,_|⟨p,_|⟨w,x⟩⟩⟩⟩⟩⟩⟩
  .cases l.getLast?<;>rfl
  .cases l.getLast?<;>rfl
  .unfold rC;dsimp only;rcases l.getLast? with _|b
   .rfl
   dsimp only;by_cases c:lE j=M/\R b.entries<C6/\vd b.3.rules=M/\(b.entries.getLast?.all λ(A:jz)=>mO A.key j)=M
   .rw[bz (q,c),bz c];rcases AS m with _|v
    .rfl
    dsimp only;by_cases s:C7<v\/R y<v+1\/(y.drop v).head?≠Y 10
    .rw[bz s,bz s]
    rw[bp s,bp s];cases Na (y.take v)<;>rfl
   rw[bp λa=>c a.2,bp c]
  .show bp d
  .cases l.getLast?<;>rfl
  .cases l.getLast?<;>rfl
  .rcases l.getLast? with _|b
   .rfl
   show bp λa=>i a.1
  cases l.getLast?<;>rfl
 rw[bp q];rcases r with _|⟨j,_|⟨m,_|⟨k,_|⟨n,_|⟨o,_|⟨p,_|⟨w,x⟩⟩⟩⟩⟩⟩⟩
 .cases l.getLast?<;>rfl
 .cases l.getLast?<;>rfl
 .rcases l.getLast? with _|b
  .rfl
  show bp λa=>q a.1
 .show bp d
 .cases l.getLast?<;>rfl
 .cases l.getLast?<;>rfl
 .rcases l.getLast? with _|b
  .rfl
  show bp λa=>i a.1
 cases l.getLast?<;>rfl
def Jm(h:MZ b=Y (f,j)):b=f++10::j/\10∉f:=by
 unfold MZ at h;let c:=List.takeWhile_append_dropWhile (p:=λ(a:UInt8)=>a !=10) (l:=b);by_cases i:(b.takeWhile λ(a:UInt8)=>a !=10).length=R b
 .simp only[i,if_true]at h;cases h
 simp only[i,if_false]at h;injection h with h;injection h with q r;let e:∃d,b.dropWhile (λ(a:UInt8)=>a !=10)=10::d:=by
  rcases e:b.dropWhile (λ(a:UInt8)=>a !=10)with _|⟨k,d⟩
  .rw[e,mD]at c;show bK (by rw[c]) i
  have:=List.head?_dropWhile_not (λ(a:UInt8)=>a !=10) b;rw[e]at this;have:k=10:=by simpa using this
  show(d,by rw[this])
 let(d,s):=e;rw[s]at c;let m:f=b.takeWhile λ(a:UInt8)=>a !=10:=q.symm;let o:j=d:=by
  rw[<-r]
  conv=>lhs;arg 2;rw[<-c]
  rw[So];simp
 show(by rw[o,m];show c.symm,λn=>?_)
 rw[m]at n;have:∀k∈b.takeWhile (λ(a:UInt8)=>a !=10),(k !=10)=M:=nO.mp List.all_takeWhile;simpa using this 10 n
def K9(h:10∉a):MZ (a++10::b)=Y (a,b):=by
 let d:(a++10::b).takeWhile (λ(c:UInt8)=>c !=10)=a:=by
  rw[List.takeWhile_append_of_pos]
  .simp
  intro i e;simp only[bne_iff_ne,ne_eq];intro f;show h (by rw[<-f];show e)
 unfold MZ;simp only[d];rw[bp ?c]
 simp
theorem anK:MZ a=U<->10∉a:=by
 constructor
 .intro h m;have:bN λj n=>a=j++10::n/\10∉j:=by
   clear h
   induction a with
   |nil=>simp at m
   |cons d a ih=>
    by_cases c:d=10
    .show([],a,by rw[c];rfl,by simp)
    rcases bM.mp m with b|b
    .show bK b.symm c
    let(k,l,e,f):=ih b;show(d::k,l,by rw[e];rfl,λb=>?_)
    rcases ?i3 with i|i
    .show c i.symm
    show f i
  let(k,l,e,f):=this;rw[e,K9 f]at h;cases h
 intro h;rcases c:MZ a with _|d
 .rfl
 let(b,o):=d;have:=(Jm c).1;rw[this]at h;show bK ?c h
def WA{d e:Nat}{l f:?t}(h:xC d l c=Y (e,(f,b))):R b<R c:=by
 unfold xC at h;rcases j:MZ c with _|k
 .rw[j]at h;cases h
 let(C,i):=k;rw[j]at h;let n:=(Jm j).1;let m:R i<R c:=by rw[n];simp;lia
 simp only at h;let o:∀a,sk d l i a=Y (e,(f,b))->R b<R c:=by
  intro a h;rcases a with _|⟨r,_|⟨s,_|⟨B,_|⟨k,a⟩⟩⟩⟩<;>try(cases h;done)
  unfold sk at h;dsimp only at h;split at h
  .cases h
  split at h
  .cases h
  cases h;show m
 let p:∀a,qd d l i a=Y (e,(f,b))->R b<R c:=by
  intro a h;rcases a with _|⟨t,_|⟨u,_|⟨v,_|⟨w,_|⟨x,_|⟨y,_|⟨z,A⟩⟩⟩⟩⟩⟩⟩<;>try(cases h;done)
  unfold qd at h;dsimp only at h;split at h
  .cases h
  split at h
  .split at h
   .cases h
   cases h;show m
  cases h
 let q:∀a,rC d l i a=Y (e,(f,b))->R b<R c:=by
  intro a h;rcases a with _|⟨r,_|⟨s,_|⟨k,a⟩⟩⟩<;>try(cases h;done)
  unfold rC at h;dsimp only at h;split at h
  .cases h
  split at h
  .split at h
   .cases h
   split at h
   .cases h
   split at h
   .cases h
   cases h;rw[lC]
   lia
  cases h
 split at h
 .cases h
 split at h
 .show o _ h
 split at h
 .show p _ h
 split at h
 .show q _ h
 cases h
theorem Vy:∀(b g c:Nat) (l:?t) (a:aP),R a<b->R a<g->Fb b c l a=Fb g c l a
 |0,_,_,_,_,h,_=>by lia
 |_+1,0,_,_,_,_,h=>by lia
 |b+1,g+1,c,l,a,k,m=>by
  rw[Ho,Ho];split
  .rfl
  rcases e:xC c l a with _|j
  .rfl
  let(f,i,d):=j;have:=WA e;show Vy b g f i d ?d ?d
def g_(b:Nat)(l:?t)(a:aP):Except Nat ?t:=Fb (R a+1) b l a
theorem ak9(c:Nat)(l:?t){a:aP}(h:a≠[]):g_ c l a=match xC c l a with
 |none=>.error c
 |some b=>g_ b.1 b.2.1 b.2.2:=by
 unfold g_;rw[Ho,bp ?dy]
 rcases e:xC c l a with _|b
 .rfl
 let(f,i,d):=b;have:=WA e;show Vy a.length (R d+1) f i d ?d ?d
theorem amy(a:Nat)(l:?t):g_ a l []=if(xx l&&l.all λ(b:cq)=>vd b.3.rules)=M then .ok l else ?gy:=by unfold g_;rw[Ho];rfl
theorem aoj(a:aP):Co a=match MZ a with
 |none=>.error 0
 |some (c,b)=>if c=?e3 then g_ 1 [] b else .error 0:=rfl
open Sk
theorem NP(a:Nat):Ed a []=Y []:=by unfold Ed;rfl
def Nt{a:Nat}{l:?dK}(h:l≠[])(c:Nw (l.take 6)=Y b):Ed ?aN l=(Ed a (l.drop 6)).map (b:: ·):=by
 rcases l with _|⟨d,l⟩
 .show bK Z h
 conv=>lhs;unfold Ed
 rw[c];rfl
def NO{a:Nat}{l:?dK}(h:l≠[])(b:Nw (l.take 6)=U):Ed a l=U:=by
 rcases l with _|⟨c,l⟩
 .show bK Z h
 rcases a with _|a
 .rfl
 unfold Ed;rw[b];rfl
theorem Yi:∀(a:Nat) (l:?dK),6*a<R l->Ed a l=U
 |0,[],h=>by simp at h
 |0,_::_,_=>rfl
 |a+1,[],h=>by simp at h
 |a+1,b::l,h=>by
  unfold Ed;rw[Yi a ((b::l).drop 6) ?iw]
  cases Nw ((b::l).take 6)<;>rfl
theorem B4:∀(a:Nat) (l:?dK) (b:List j3),Ed a l=Y b->R b<=a
 |a,[],b,h=>by rw[NP]at h;cases h;simp
 |0,_::_,b,h=>by cases h
 |a+1,e::l,b,h=>by
  rcases d:Nw ((e::l).take 6)with _|i
  .rw[NO ?c d]at h;cases h
  rw[Nt ?c d]at h
  rcases c:Ed a ((e::l).drop 6)with _|f
  .rw[c]at h;cases h
  rw[c]at h;cases h;have:=B4 a _ f c;simp
  lia
def Ei{l:?dK}(h:Nw l=Y i):vJ λc d f e a b=>l=[c,d,f,e,a,b]/\(c<=5/\d<=1/\f<=1/\e<4294967296/\a<4294967296/\b<4294967296)/\i=(c,d==1,f==1,e,a,b):=by
 rcases l with _|⟨c,_|⟨d,_|⟨f,_|⟨e,_|⟨a,_|⟨b,_|⟨j,k⟩⟩⟩⟩⟩⟩⟩<;>try(cases h;done)
 let h:(if c<=5/\d<=1/\f<=1/\e<4294967296/\a<4294967296/\b<4294967296 then Y (j3.mk c (d==1) (f==1) e a b)else U)=Y i:=h;split at h
 .cases h;show(_,_,_,_,_,_,Z,by assumption,Z)
 cases h
def alO{l:?dK}(h:R l≠6):Nw l=U:=by
 rcases a:Nw l with _|j
 .rfl
 let(d,e,i,f,b,c,0,_):=Ei a;show bK Z h
theorem alP{c d f e a b:Nat}:Nw [c,d,f,e,a,b]=if c<=5/\d<=1/\f<=1/\e<4294967296/\a<4294967296/\b<4294967296 then Y (c,d==1,f==1,e,a,b)else U:=rfl
theorem Yg(l:?dK):Nc l=match Ed 32 l with
 |none=>U
 |some a=>if vd a=M then Y a else U:=by
 unfold Nc;change(Ed 32 l).bind _=_;rcases Ed 32 l with _|a
 .rfl
 rfl
open Sk
theorem EA:∀(c a:aP),nk c a<=R c
 |[],a=>by simp[nk]
 |d::b,[]=>by simp[nk]
 |d::b,f::e=>by
  unfold nk;split
  .have:=EA b e;simp only[lO]
   lia
  simp
theorem Hy:∀(b a:aP),b.take (nk b a)=a.take (nk b a)
 |[],a=>rfl
 |d::c,[]=>by simp[nk]
 |d::c,f::e=>by
  unfold nk;split
  .rename_i h;subst h;rw[KY,KY,Hy c e]
  simp
theorem HF:∀(a:Nat) (c b:aP),a<=R c->a<=R b->?fN=?ii->a<=nk c b
 |0,_,_,_,_,_=>gI _
 |a+1,[],_,h,_,_=>by simp at h
 |a+1,_::_,[],_,h,_=>by simp at h
 |a+1,l::j,m::k,f,i,h=>by
  rw[KY,KY]at h;injection h with d e;unfold nk;rw[bz d];have:=HF a j k ?jd ?i9 e
  lia
def akH:∀{w b:aP},w<+:b->nk w b=R w:=λ{w b} h=>by
 let(a,0):=h;show Te (EA _ _) (HF _ _ _ ?a2 ?c ?c)
def alm(h:nk a b=R a):a<+:b:=by let c:=Hy a b;rw[h,nP]at c;rw[c];show DO _ _
def PF(l:?bl):=∀(a b:Nat) (c d:aP),l[a]?=Y c->l[b]?=Y d->c<+:d->a=b
def Oi(d:a<+:c)(e:b<+:c):a<+:b\/b<+:a:=by
 rcases Vc a.length b.length with h|h
 .show .inl (Qz d e h)
 show .inr (Qz e d h)
def amL{l:?bl}(k:PF l){a p:Nat}{c b:aP}(h:l[a]?=Y c)(j:c<+:b):qk l p b=.ok (a,(p+R c,b.drop c.length)):=by
 let n:a<R l:=(ig.mp h).1;let e:l.findIdx? (λ(c:aP)=>c.isPrefixOf b)=Y a:=by
  rw[S7];show(n,?_,λd r=>?_)
  .let e:l[a]=c:=(ig.mp h).2;rw[e];show Gh.mpr j
  intro q;let o:l[d]<+:b:=Gh.mp q;let i:l[d]?=Y l[d]:=gv _;rcases Oi o j with f|f
  .have:=k d a _ _ i h f
   lia
  have:=k a d _ _ h i f
  lia
 unfold qk;rw[e];let m:l.getD a []=c:=by rw[wO,h];rfl
 simp only[m]
theorem p8(b:Nat):∀(l:?dK) (a:Nat),a<=b->(∀c∈l,c<=b)->(a=b\/b∈l)->l.foldl max a=b
 |[],a,_,_,h=>by
  rcases h with h|h
  .show h
  .grind
 |c::l,a,e,d,f=>by
  let i:=d c ?c
  show p8 b l (max a c) (Nat.max_le.mpr (e,i)) (λk j=>d k (gY _ j)) ?_;rcases f with h|h
  .simp_all
  .rcases ?fb with h|h
   .show .inl ?d
   .simp_all
def XJ{l:?bl}{f d:Nat}(h:∀a∈l,¬a<+:b)(k:∀a∈l,nk a b<=d)(j:∃a∈l,nk a b=d):qk l f b=.error (f+d):=by
 let e:l.findIdx? (λ(a:aP)=>a.isPrefixOf b)=U:=by
  rw[List.findIdx?_eq_none_iff];intro a c;rcases n:a.isPrefixOf b with _|_
  .rfl
  show bK (Gh.mp n) (h a c)
 unfold qk;rw[e];let i:(l.map λ(a:aP)=>nk a b).foldl max 0=d:=by
  show p8 d _ 0 (gI _) (λo m=>?_) (.inr ?_)
  .grind
  let(a,c,e):=j;show eM.mpr (a,c,e)
 simp only[i]
def f_(l:?bl)(b:aP)(a:Nat):?bl:=l.filter λc=>decide (?fN=?ii)
def Aw{l:?bl}{a:Nat}:b∈f_ l c a<->b∈l/\?ii=?fN:=by simp[f_]
def Mo{c b:aP}{a:Nat}(f:a<R c)(i:a<R b):c.take ?aN=b.take ?aN<->?fN=?ii/\c[a]=b[a]:=by
 rw[S8 f,S8 i];constructor
 .intro h;let j:(?fN).length=(?ii).length:=by simp;lia
  let(d,e):=List.append_inj h j;lia
 intro ξ;let(d,e):=ξ;rw[d,e]
def alX{l:?bl}(s:PF l){d:aP}{b:Nat}(v:b<=R d)(m:a∈f_ l d b)(k:c∈f_ l d b)(h:R a<=b):a=c:=by
 let(p,e):=Aw.mp m;let(q,j):=Aw.mp k;rw[wQ h]at e;let r:a<+:c:=by grind
 let(n,t,f):=oA p;let(o,u,i):=oA q;have:=s n o a c (by rw[<-f];show gv _) (by rw[<-i];show gv _) r
 subst this;rw[<-f,<-i]
def rF(l:List ?ie):?bl:=l.map λa=>a.1++[a.2]
theorem PF.rF{l:List ?ie}(k:PF ?fT):PF (rF l):=by
 intro h i q r b c o;unfold Rm.rF at b c;rw[iC]at b c;rcases e:l[h]? with _|d
 .rw[e]at b;cases b
 rcases f:l[i]? with _|a
 .rw[f]at c;cases c
 rw[e]at b;rw[f]at c;let m:d.1++[d.2]=q:=gR b;let n:a.1++[a.2]=r:=gR c;subst m n;let p:d.1<+:a.1++[a.2]:=Y8 (RE _ _) o;rcases Oi p (RE a.1 [a.2])with j|j
 .show k h i d.1 a.1 (by rw[iC,e];rfl) (by rw[iC,f];rfl) j
 show(k i h a.1 d.1 (by rw[iC,f];rfl) (by rw[iC,e];rfl) j).symm
section
variable{l:List (aP×UInt8)}(pf:PF (l.map fw)){b:aP}{p n:Nat}
include pf
def Ym(f:c∈f_ ?fT b n)(k:∀m∈f_ (l.map fw) b n,n<R m)(y:n<=R b)(i:∀m∈f_ (l.map fw) b n,m[n]?≠b[n]?\/R b<=n):qk (rF l) p b=.error (p+n):=by
 let E:∀a∈l,nk ?ch b<=n:=by
  intro a d;show Sr λo=>?_;let e:=Hy ?ch b;let r:a.1∈?fT:=eM.mpr (a,d,Z);let t:(a.1++[a.2]).take n=b.take n:=by
   have:=fL (Eu n) e;rw[uY,uY,wV (yG o)]at this;show this
  let q:n<R b:=by
   have:=fL R e;rw[jR,jR]at this;let w:=EA ?ch b
   lia
  let h:=EA ?ch b;rw[iA]at h;simp only[lO,uX,Hj]at h;by_cases h:n<=a.1.length
  .rw[DB h]at t;let T:a.1∈f_ ?fT b n:=Aw.mpr (r,t);let X:=k _ T;let H:(a.1++[a.2]).take (n+1)=b.take (n+1):=by
    have:=fL (Eu (n+1)) e;rw[uY,uY,wV o]at this;show this
   rw[DB ?d]at H
   have:=((Mo X q).mp H).2;rcases i _ T with h|h
   .show h (by rw[gv X,gv q,this])
   lia
  let P:a.1.length<n:=by lia
  let v:a.1=b.take a.1.length:=by
   have:=fL (Eu a.1.length) t;rw[uY,uY,wV (yG P),DB ?a2,nP]at this;show this
  let(B,s):=Aw.mp f;let C:a.1<+:c:=by
   have:c.take a.1.length=b.take a.1.length:=by
    have:=fL (Eu a.1.length) s;rw[uY,uY,wV (yG P)]at this;show this
   rw[v,<-this];show DO _ _
  let(z,H,i):=oA r;let(A,P,j):=oA B;let x:=?gG
  subst x;let u:a.1=c:=i.symm.trans j;let h:=k c f;rw[<-u]at h
  lia
 let t:∀a∈l,a.1=c->nk ?ch b=n:=by
  intro a d e;show Te (E a d) (HF n _ _ ?_ y ?_)
  .let h:=k c f;rw[e,iA]
   lia
  let h:=k c f;rw[e,DB (yG h)];show(Aw.mp f).2
 show XJ (λm y o=>?_) (λm y=>?_) ?_
 .let(a,d,0):=eM.mp y;let w:=E a d;rw[akH o,iA]at w;simp only[lO,uX,Hj]at w;let r:a.1∈?fT:=eM.mpr (a,d,Z);let v:a.1<+:b:=Y8 (RE _ _) o;let(B,s):=Aw.mp f;let q:a.1=b.take a.1.length:=by
   let(m,0):=v;simp
  let C:a.1<+:c:=by
   have:c.take a.1.length=b.take a.1.length:=by
    have:=fL (Eu a.1.length) s;rw[uY,uY,wV ?d]at this
    show this
   rw[q,<-this];show DO _ _
  let(z,H,i):=oA r;let(A,P,j):=oA B;let x:=?gG
  subst x;let u:a.1=c:=i.symm.trans j;let h:=k c f;rw[<-u]at h
  lia
 .let(a,d,0):=eM.mp y;show E a d
 let(a,d,e):=eM.mp (Aw.mp f).1;show(_,eM.mpr (a,d,Z),t a d e)
def anw{c:Nat}{r:aP}(h:l[c]?=Y a)(d:b=a.1++a.2::r):qk (rF l) p b=.ok (c,(p+a.1.length+1,r)):=by
 let e:(rF l)[c]?=Y ?ch:=by
  unfold rF;rw[iC,h];rfl
 have:=amL (p:=p) (PF.rF pf) e (b:=b) (r,by rw[d];simp)
 rw[this,d];simp[Nat.add_assoc]
def Yl{j:Nat}{r:aP}(h:l[j]?=Y c)(o:b=c.1++r)(P:∀s,r≠c.2::s):qk (rF l) p b=.error (p+c.1.length):=by
 let z:c∈l:=lW h;let u:∀a∈l,a.1<+:b->a.1=c.1:=by
  intro a e q;let(i,m,k):=oA e;let T:c.1<+:b:=(r,o.symm);let f:(?fT)[j]?=Y c.1:=by rw[iC,h];rfl
  let d:(?fT)[i]?=Y a.1:=by rw[iC,gv m,k];rfl
  rcases Oi q T with t|t
  .have:=pf i j _ _ d f t;subst this;rw[f]at d;lia
  have:=pf j i _ _ f d t;subst this;rw[f]at d;show(gR d).symm
 let C:∀a∈l,¬?ch<+:b:=by
  intro a e ξ;let(s,v):=ξ;let H:=u a e (a.2::s,by rw[<-v];simp)
  let(i,m,k):=oA e;let f:(?fT)[j]?=Y c.1:=by rw[iC,h];rfl
  let d:(?fT)[i]?=Y a.1:=by rw[iC,gv m,k];rfl
  let u:=pf i j a.1 c.1 d f (by rw[H];show List.prefix_refl _)
  subst u;let X:a=c:=by
   rw[gv m,k]at h;show gR h
  subst X;rw[o,sY]at v;show P s (U9 v).symm
 let B:∀a∈l,nk ?ch b<=c.1.length:=by
  intro a e;show Sr λt=>?_;let y:=Hy ?ch b;let A:=EA ?ch b;rw[iA]at A;simp only[lO,uX,Hj]at A;rcases ahT a.1.length (nk ?ch b)with q|q
  .show C a e (alm ?_);rw[iA];simp only[lO,uX,Hj]
   lia
  rw[DB q]at y;let q:a.1.take (nk ?ch b)<+:b:=by rw[y];show DO _ _
  let x:c.1.length<(a.1.take (nk ?ch b)).length:=by rw[jR];lia
  let s:c.1<+:a.1.take (nk ?ch b):=Qz (r,o.symm) q (yG x);let q:c.1<+:a.1:=s.trans (DO _ _);let(i,m,k):=oA e;let f:(?fT)[j]?=Y c.1:=by rw[iC,h];rfl
  let d:(?fT)[i]?=Y a.1:=by rw[iC,gv m,k];rfl
  let u:=pf j i _ _ f d q;subst u;let E:c.1=a.1:=by rw[f]at d;show gR d
  rw[E]at x;rw[jR]at x
  lia
 show XJ (λd w=>?_) (λd w=>?_) (c.1++[c.2],eM.mpr (c,z,Z),Te (B c z) (HF _ _ _ ?c (by rw[o];simp) (by rw[o];simp)))
 .let(a,e,0):=eM.mp w;show C a e
 let(a,e,0):=eM.mp w;show B a e
end
open Sk
def Nu:∀(b a:Nat),a<10^b->jP (rp b a)=a:=by
 intro e
 induction e with
 |zero=>
  intro a h;have:a=0:=by simpa using h
  subst this;rfl
 |succ b ih=>
  intro a h;unfold rp;rw[EW];let d:(xj (48+a %10)).toNat=48+a %10:=by
   rw[DI]
   lia
  rw[d];by_cases c:a<10
  .rw[bz c];change 10*0+_=a
   lia
  rw[bp c,ih (a/10) (by rw[BS]at h;lia)]
  lia
def Wv{b a:Nat}(d:b<10^40)(c:a<10^40)(h:wd b=wd a):b=a:=by
 have:=fL jP h;unfold wd at this
 rwa [Nu 40 b d,Nu 40 a c]at this
def Vp:∀(b a:Nat),(rp b a).all mZ=M:=by
 intro d
 induction d with
 |zero=>
  intro a;show rfl
 |succ b ih=>
  intro a;unfold rp;rw[LN];let c:mZ (xj (48+a %10))=M:=by
   rw[uo,DI]
   lia
  simp only[um,Mp,c,mE];split
  .rfl
  show ih (a/10)
def aka{e b:Int}(k:e.natAbs<10^40)(j:b.natAbs<10^40)(h:qg e=qg b):e=b:=by
 let i:∀(d:Nat) (f:aP),wd d≠45::f:=λd f m=>by
  have:=Vp 40 d;let l:rp 40 d=45::f:=m;rw[l]at this;simp[mZ]at this
 unfold qg at h;by_cases c:e<0
 .by_cases a:b<0
  .rw[bz c,bz a]at h;have:=Wv k j (U9 h)
   lia
  rw[bz c,bp a]at h;show bK h.symm (i _ _)
 by_cases a:b<0
 .rw[bp c,bz a]at h;show bK h (i _ _)
 rw[bp c,bp a]at h;have:=Wv k j h
 lia
def u0(a:Nat)(b:a<=5)(c:aP):Yx a≠61::c:=by
 let h:∀a,a<=5->(Yx a).head?≠Y 61:=by decide
 intro d;show h a b ?gk
def aos:∀a,a<=5->∀b,b<=5->Yx a=Yx b->a=b:=by decide
def Ws{l:List j3}(h:∀a∈l,a.category<=5)(f:Int):As l f<=5:=by
 unfold As;generalize M=b
 induction l generalizing b with
 |nil=>simp[af9]
 |cons a i ih=>
  let d:=h a ?c
  let c:=λb=>ih (λa e=>h a (gY _ e)) b;unfold af9;split
  .split
   .show d
   show c _
  show c _
def amg{c:Iz}{a b:Int}(h:∀l∈c.rules,l.category<=5)(j:a.natAbs<10^40)(i:b.natAbs<10^40):C8 c (.number a) (61::qg b)=decide (b=a):=by
 change((61::qg b)==61::qg a||(61::qg b)==Yx (As c.rules a))=_;let k:=u0 (As c.rules a) (Ws h a) (qg b);let f:((61::qg b)==Yx (As c.rules a))=I:=beq_eq_false_iff_ne.mpr λd=>k d.symm;rw[f,Hb];by_cases e:b=a
 .subst e;simp
 rw[gu e];show beq_eq_false_iff_ne.mpr λd=>e ?_;injection d with _ d;show aka i j d
def amf{b:Iz}{a:Int}{i:Nat}(f:∀j∈b.rules,j.category<=5)(d:i<=5):C8 b (.number a) (Yx i)=decide (i=As b.rules a):=by
 change(Yx i==61::qg a||Yx i==Yx (As b.rules a))=_;let h:=u0 i d (qg a);let e:(Yx i==61::qg a)=I:=?dS;rw[e,BR];by_cases c:i=As b.rules a
 .rw[<-c];simp
 rw[gu c];show beq_eq_false_iff_ne.mpr λk=>c (aos i d _ (Ws f a) k)
def nE(c:Iz)(b:Ou):jc->jc
 |.branch d a e=>if C8 c b d=M then a else nE c b e
 |.other a=>a
 |a=>a
theorem Mm(b:Iz)(c:wm)(d:Int)(a:Ou):∀h:jc,kD b c h d a=kD b c (nE b a h) d a
 |.branch i e f=>by
  change(if C8 b a i=M then kD b c e d a else kD b c f d a)=kD b c (if C8 b a i=M then e else nE b a f) d a;split
  .rfl
  .show Mm b c d a f
 |.other e=>rfl
 |.nil=>rfl
 |.char _ _=>rfl
 |.esc _ _=>rfl
 |.hash _=>rfl
 |.arg _ _ _=>rfl
 |.plural _ _ _=>rfl
 |.select _ _ _=>rfl
theorem NE(c:Iz)(b:Ou):∀e:jc,fk (nE c b e)<=fk e
 |.branch f a d=>by
  change fk (if C8 c b f=M then a else nE c b d)<=fk a+fk d+1;have:=NE c b d;split<;>lia
 |.other a=>by change fk a<=fk a+1;lia
 |.nil=>?a2
 |.char _ _=>?a2
 |.esc _ _=>?a2
 |.hash _=>?a2
 |.arg _ _ _=>?a2
 |.plural _ _ _=>?a2
 |.select _ _ _=>?a2
structure Seg where
 m:jc
 n:Int
 p:Ou
def out(c:Iz)(b:wm):List Seg->aP×?dK
 |[]=>([],[])
 |a::d=>((kD c b a.m a.n a.p).1++(out c b d).1,(kD c b a.m a.n a.p).2++(out c b d).2)
theorem bF(b:Iz)(a:wm)(f:Nat)(g:Bool)(e:jc)(c:Int)(d:Ou):kD b a (.arg f g e) c d=match kL a f with
 |.number h=>((if g=M then MG b.sep h else qg h)++(kD b a e c d).1,(kD b a e c d).2)
 |.text i=>if g=M then((kD b a e c d).1,f::(kD b a e c d).2)else(i++(kD b a e c d).1,(kD b a e c d).2)
 |.none=>((kD b a e c d).1,f::(kD b a e c d).2):=rfl
theorem bV(b:Iz)(a:wm)(i:Nat)(h e:jc)(c:Int)(d:Ou):kD b a (.plural i h e) c d=match kL a i with
 |.number f=>((kD b a h f (.number f)).1++(kD b a e c d).1,(kD b a h f (.number f)).2++(kD b a e c d).2)
 |_=>((kD b a e c d).1,i::(kD b a e c d).2):=rfl
theorem bW(c:Iz)(a:wm)(h:Nat)(f e:jc)(b:Int)(d:Ou):kD c a (.select h f e) b d=match kL a h with
 |.text i=>((kD c a f b (.word i)).1++(kD c a e b d).1,(kD c a f b (.word i)).2++(kD c a e b d).2)
 |_=>((kD c a e b d).1,h::(kD c a e b d).2):=rfl
def bE{a:Seg}{e:Int}(i:aP)(j:?dK)(k:kD c b a.m a.n a.p=(i++(kD c b d e f).1,j++(kD c b d e f).2)):out c b (a::h)=(i++(out c b ((d,e,f)::h)).1,j++(out c b ((d,e,f)::h)).2):=by change axa ((kD c b a.m a.n a.p).1++_) ((kD c b a.m a.n a.p).2++_)=_;rw[k];show cb (sY _ _ _) (sY _ _ _)
def mn(l:List Seg):Nat:=(l.map λa=>fk a.m).sum
section
variable(w:Iz)(a:wm)(r:List Seg)(n:Int)(p:Ou)
theorem F3:?fx ((.nil,n,p)::r)=?fx r:=rfl
def aov(c:UInt8)(b:jc):?fx ((.char c b,n,p)::r)=(c::(?bh).1,(?bh).2):=rfl
def aqv(c:UInt8)(b:jc):?fx ((.esc c b,n,p)::r)=(c::(?bh).1,(?bh).2):=rfl
def aow(b:jc):?fx ((.hash b,n,p)::r)=(MG w.sep n++(?bh).1,(?bh).2):=fL (axa · (?bh).2) (sY _ _ _)
def amO(d:Nat)(g:Bool)(b:jc)(c:Int)(h:kL a d=.number c):?fx ((.arg d g b,n,p)::r)=((if g=M then MG w.sep c else qg c)++(?bh).1,(?bh).2):=bE _ [] (by rw[bF,h];rfl)
def amP(d:Nat)(b:jc)(c:aP)(h:kL a d=.text c):?fx ((.arg d I b,n,p)::r)=(c++(?bh).1,(?bh).2):=bE _ [] (by rw[bF,h];rfl)
def alg(b:Nat)(c:jc)(d:aP)(h:kL a b=.text d):?fx ((.arg b M c,n,p)::r)=?bv:=bE [] [b] (by rw[bF,h];rfl)
def amN(b:Nat)(g:Bool)(c:jc)(h:kL a b=.none):?fx ((.arg b g c,n,p)::r)=?bv:=bE [] [b] (by rw[bF,h];rfl)
def alh(d:Nat)(c e:jc)(b:Int)(h:kL a d=.number b):?fx ((.plural d c e,n,p)::r)=?fx ((nE w (.number b) c,b,.number b)::(e,n,p)::r):=bE (kD w a (nE w (.number b) c) b (.number b)).1 (kD w a (nE w (.number b) c) b (.number b)).2 (by rw[bV,h,<-Mm])
def VD(b:Nat)(e c:jc)(h:∀d,kL a b≠.number d):?fx ((.plural b e c,n,p)::r)=?bv:=bE [] [b] (by
 rw[bV];cases f:kL a b with
 |number d=>show bK f (h d)
 |none=>rfl
 |text e=>rfl)
def ali(d:Nat)(c e:jc)(b:aP)(h:kL a d=.text b):?fx ((.select d c e,n,p)::r)=?fx ((nE w (.word b) c,n,.word b)::(e,n,p)::r):=bE (kD w a (nE w (.word b) c) n (.word b)).1 (kD w a (nE w (.word b) c) n (.word b)).2 (by rw[bW,h,<-Mm])
def VE(b:Nat)(e c:jc)(h:∀d,kL a b≠.text d):?fx ((.select b e c,n,p)::r)=?bv:=bE [] [b] (by
 rw[bW];cases f:kL a b with
 |text d=>show bK f (h d)
 |none=>rfl
 |number e=>rfl)
end
theorem F4(e:Iz)(a:wm)(b:jc)(c:Int)(d:Ou):out e a [(b,c,d)]=kD e a b c d:=cb (mD _) (mD _)
open Sk
def aqM{a c:Nat}(d:1<=a)(e:a<=9):zr tP.toNat 20 a c b=nF tP.toNat a c b:=
 NK _ 20 a c b d (jw (by decide:tP.toNat<1*10^20) (KR _ d)) (fZ e ?i)
def aoS{a c:Nat}(d:1<=a)(e:a<=9):zr tP.toNat.succ 20 a c b=nF tP.toNat.succ a c b:=
 NK _ 20 a c b d (jw (by decide:tP.toNat.succ<1*10^20) (KR _ d)) (fZ e ?i)
def anu(b:Nat)(a:UInt8)(c:aP)(h:49<=a.toNat/\a.toNat<=57):uA b (45::a::c)=.ok (-((nF tP.toNat.succ ?dY (b+2) c).1:Int),(nF tP.toNat.succ ?dY (b+2) c).2):=by unfold uA;simp only[h,and_self,if_true];rw[aoS ?d ?d]
def ahO(b:Nat)(a:UInt8)(c:aP)(h:¬(49<=a.toNat/\a.toNat<=57)):uA b (45::a::c)=.error ?a4:=by unfold uA;simp only[h,if_false]
theorem alU(a:Nat)(b:aP):uA a (48::b)=.ok (0,(a+1,b)):=by unfold uA;rfl
def anv(e:Nat)(b:UInt8)(f:aP)(h:49<=b.toNat/\b.toNat<=57):uA e (b::f)=.ok (((nF tP.toNat ?gj (e+1) f).1:Int),(nF tP.toNat ?gj (e+1) f).2):=by
 let j:b≠45:=λi=>by rw[i]at h;revert h;decide
 let l:b≠48:=λi=>by rw[i]at h;revert h;decide
 let k:mZ b=M:=uo.mpr (by lia,h.2)
 unfold uA;split
 .rename_i a;injection a with c d;show bK c j
 .rename_i a;injection a with c d;show bK c j
 .rename_i a;injection a with c d;show bK c l
 .rename_i a;injection a with c d;subst c d;simp only[k,if_true];rw[aqM ?d ?d]
 rename_i a;cases a
def ant(h:Nat)(c:UInt8)(j:aP)(f:c≠45)(e:mZ c=I):uA h (c::j)=.error h:=by
 let i:c≠48:=λk=>by rw[k]at e;revert e;decide
 unfold uA;split
 .rename_i a;injection a with b d;show bK b f
 .rename_i a;injection a with b d;show bK b f
 .rename_i a;injection a with b d;show bK b i
 .rename_i a;injection a with b d;subst b d;simp[e]
 rename_i a;cases a
def amJ(a:Nat)(b:aP):Ci a (61::b)=next (uA ?aN b) λf c d=>next (AA 124 c d) λ_ h e=>.ok (61::qg f,(h,e)):=by unfold Ci;rfl
def Ba:List ?ie:=(Xj++[rn]).map λa=>(a,124)
theorem ajs:(Xj++[rn]).map (λ(a:aP)=>a++[124])=rF Ba:=by decide
def PH(l:?bl)(h:(wb l.length).all (λa=>(wb l.length).all λb=>(a==b)||!((l.getD a []).isPrefixOf (l.getD b [])))=M):PF l:=by
 intro a b m n c d k;let i:a<R l:=(ig.mp c).1;let j:b<R l:=(ig.mp d).1;have:=nO.mp (nO.mp h a (DS.mpr i)) b (DS.mpr j);let e:l.getD a []=m:=by rw[wO,c];rfl
 let f:l.getD b []=n:=by rw[wO,d];rfl
 rw[e,f,Gh.mpr k]at this;simpa using this
def OC:PF (Ba.map fw):=PH _ ?w
def WC{b:Nat}(h:∀e,a≠61::e):Ci b a=next (qk (rF Ba) b a) λc d f=>.ok ((Xj++[rn]).getD c [],(d,f)):=by
 unfold Ci;rw[ajs];split
 .show bK Z (h _)
 rfl
theorem Os(a:UInt8)(b:Nat)(c:aP):AA a b (a::c)=.ok ((),(b+1,c)):=by simp[AA]
def EI{c:Nat}(h:∀d,a≠b::d):AA b c a=.error c:=by
 unfold AA;split
 .rename_i f d;split
  .rename_i e;subst e;show bK Z (h _)
  rfl
 rfl
def XM{l:List ?ie}(f:PF ?fT){n o:Nat}(h:l[n]?=Y (i,c))(e:k=i++a):qk (rF l) o k=next (AA c (o+R i) a) λ_ b p=>.ok (n,(b,p)):=by
 rcases a with _|⟨m,a⟩
 .rw[EI ?c]
  show Yl f h (r:=[]) e ?c
 by_cases d:m=c
 .subst d;rw[Os];show anw f h (r:=a) e
 rw[EI (λr b=>by injection b with j _;show d j)]
 show Yl f h (r:=m::a) e (λr b=>by injection b with j _;show d j)
theorem amH{c:Nat}(h:i)(f:i->Nat->aP->Sk.Got j):next (next (AA b c a) λ_ e d=>.ok (h,(e,d))) f=next (AA b c a) λ_ e d=>f h e d:=by cases AA b c a<;>rfl
def Pt:List ?ie:=[(gO "group",125),(gO "plural",91),(gO "select",91)]
theorem aiA:rF Pt=[EL,Yu,Yv]:=by decide
def an9:PF (Pt.map fw):=PH _ ?w
def Ps:List ?ie:=[(gO "group",125)]
theorem aiz:rF Ps=[EL]:=by decide
def an8:PF (Ps.map fw):=PH _ ?w
theorem Yk(b:Nat)(a:aP):ID b a=if(?gz).take 16=[]then .error b else next (AA 124 (b+((?gz).take 16).length) (a.drop ((?gz).take 16).length)) λ_ c d=>.ok ((?gz).take 16,(c,d)):=by
 unfold ID;change(if((?gz).take 16).isEmpty=M then _ else _)=_;by_cases h:(?gz).take 16=[]
 .rw[bz h,bz (by rw[h];rfl)]
 rw[bp h,bp ?dy]
 rfl
def kl(pre:jc->jc)(c:?ka):=∀b a,a∈(pre b).names<->a∈c\/a∈b.names
theorem kl.id:kl id []:=λa b=>by simp
theorem kl.char{pre:jc->jc}(h:kl pre b)(c:UInt8):kl (λa=>pre (.char c a)) b:=λa d=>h (.char c a) d
theorem kl.esc{pre:jc->jc}(h:kl pre b)(c:UInt8):kl (λa=>pre (.esc c a)) b:=λa d=>h (.esc c a) d
theorem kl.hash{pre:jc->jc}(h:kl pre b):kl (λa=>pre (.hash a)) b:=λa c=>h (.hash a) c
theorem kl.arg{pre:jc->jc}(h:kl pre d)(b:Nat)(g:Bool):kl (λc=>pre (.arg b g c)) ((b,if g=M then 1 else 0)::d):=λc e=>by
 rw[h (.arg b g c) e];simp only[Yr,bM];constructor
 .rintro(a|a|a)
  .show .inl ?gO
  .show .inl ?ai
  show ?gO
 rintro((a|a)|a)
 .show ?ab
 .show ?ai
 show .inr ?gO
def kl.more{pre c:jc->jc}{b a:?ka}(h:kl pre b)(f:kl c a)(i:aP):kl (λd=>c (?e2 i d)) (a++b):=λd e=>by
 rw[f _ e];simp only[Yr,iE,h .nil e];simp only[kK,or_false];show or_assoc.symm
def kl.k6{l pre d:jc->jc}(p:kl l k)(h:kl pre i)(o:kl d j)(c:Bool)(e:Nat):kl (λf=>l (mk c e (d ?fk) f)) (k++((e,if c=M then 1 else 2)::(j++i))):=λf b=>by
 rw[p _ b];let m:(mk c e (d ?fk) f).names=(e,if c=M then 1 else 2)::((d ?fk).names++f.names):=by
  unfold mk;cases c<;>rfl
 rw[m];simp only[iE,bM,o _ b];let n:b∈(Ys ?bI).names<->b∈i:=by
  change b∈(?bI).names<->_;rw[h .nil b];simp[Yr]
 rw[n];constructor
 .rintro(a|a|(a|a)|a)
  .show .inl ?ai
  .show .inl ?ab
  .show .inl ?jZ
  .show .inl ?aT
  show ?gO
 rintro((a|a|a|a)|a)
 .show ?ai
 .show ?ab
 .show .inr (.inr (.inl ?ai))
 .show .inr (.inr (.inl ?gO))
 show ?aT
def ye(b:Nat)(a:?ka):Nat:=AX ((a.filter λ(c:Nat×Nat)=>c.2==b).map fw)
def Ni{k:Nat}(h:∀c,c∈b<->c∈a):ye k b=ye k a:=by show No λd=>?_;simp only[eM,tj,h]
theorem bits_add{b a:Nat}{c:?ka}(h:a<16):ye b c|||2^a=ye b ((a,b)::c):=by unfold ye;rw[Zd h];show No λd=>?_;simp;show Or.comm
def Cf{k a c:Nat}(h:a≠k):ye k ((c,a)::b)=ye k b:=by unfold ye;have:(a==k)=I:=?dS;rw[U_ (by simp[this])]
theorem MC(a:Nat)(b:jc):IC a b=ye a b.names:=rfl
end Rm
namespace Sm
section
def pN(a:L)(h:S)(c:Str)(d:Nat)(l:S):=∃b,a h=Y (?fD g.qS (Pp (.str c) ?gV ?bk))
def pL(a:L)(b:S)(e:Str)(d:V)(l:S):=∃c,a b=Y (.ins g.qL c (Ow (.str e) d ?bk))
def pj(i:L)(e:Bool)(a:aP)(b:Str)(c:V):=
 (a=rn/\b="other")\/
 (a≠rn/\((e=M/\∃f:Int,f.natAbs<10^40/\a=61::qg f/\b="same"/\c=.int f)\/(e=M/\∃d:Nat,d<5/\a=Yx d/\b="category"/\c=?gV)\/(e=I/\b="same"/\∃h,c=?dM/\i h=?bo)))
inductive Md where
 |it
 |br (a:Bool)
def io(a:L):jc->Md->?eQ->?au->Prop
 |.nil,.it,_,d=>d=[]
 |.char o f,.it,c,d=>∃b,d=iT o::b/\?eE a f c b
 |.esc o f,.it,c,d=>∃b,d=iT o::b/\?eE a f c b
 |.hash f,.it,c,d=>mr λb h l e=>d=?dM::b/\c=Y e/\e<16/\pN a h "group" e l/\a l=?j8/\?eE a f c b
 |.arg e t f,.it,c,d=>gG λb h l=>d=?dM::b/\e<16/\pN a h (if t=M then"group" else"any") e l/\a l=?j8/\?eE a f c b
 |.plural e n f,.it,c,d=>mr λb h l j=>d=?dM::b/\e<16/\pN a h "plural" e l/\a l=Y (.lst j)/\io a n (.br M) (Y e) j/\?eE a f c b
 |.select e n f,.it,c,d=>mr λb h l j=>d=?dM::b/\e<16/\pN a h "select" e l/\a l=Y (.lst j)/\io a n (.br I) c j/\?eE a f c b
 |.branch r p u,.br q,c,d=>vJ λb i s m l k=>d=?iB::b/\r≠rn/\pL a i s m l/\pj a q r s m/\a l=Y (.lst k)/\?eE a p c k/\io a u (.br q) c b
 |.other p,.br q,c,d=>mr λi m l k=>d=[?iB]/\pL a i "other" m l/\a l=Y (.lst k)/\?eE a p c k
 |_,_,_,_=>False
inductive rH(a:L)(h:S)(k:aP)(b:jc):Prop
 |i (j f d c e) (_:a h=Y (.ins g.e_ j (Ic ?bL ?J ?aC))) (_:a f=Y (.tup (bT k))) (_:a d=Y (.lst e)) (_:?eE a b U e) (_:a c=Y (.lst [.int (IC 0 b),.int (IC 1 b),.int (IC 2 b)])) (_:l6 b)
def vL(a:Bool):Int:=if a=M then 1 else 0
def sx(b:L)(c:S)(a:j3):=∃d,b c=Y (.ins g.Term d (JA (.int a.category) (.int (vL a.ends)) (.int (vL a.outside)) (.int a.modulus) (.int a.low) (.int a.high)))
def zf(a:L)(l:S)(c:List j3):=∃b:List S,a l=Y (.lst ?fl)/\jb (sx a) b c
end
section
variable{B B':L}
def pN.mono{h:S}{b:Nat}{l:S}(f:pN B h a b l)(e:?eR):pN B' h a b l:=by let(c,d):=f;show(c,?dl d)
def pL.mono{l:S}(h:pL B a c b l)(f:?eR):pL B' a c b l:=by let(d,e):=h;show(d,f _ _ e)
def pj.mono(a:pj B f d e c)(m:?eR):pj B' f d e c:=by
 rcases a with a|⟨b,a|a|⟨i,j,h,k,l⟩⟩
 .show ?ai
 .show .inr (b,?ai)
 .show .inr (b,?ab)
 show .inr (b,.inr (.inr (i,j,h,k,m _ _ l)))
theorem io.mono(b:?eR):∀{q:jc} {a:Md} {j:?eQ} {k:?au},io B q a j k->io B' q a j k:=by
 intro q
 induction q with
 |nil=>intro a j k h;cases a<;>show h
 |char A t ih=>
  intro a j k h;cases a with
  |it=>let(c,m,h):=h;show(c,m,ih h)
  |br p=>show h
 |esc A t ih=>
  intro a j k h;cases a with
  |it=>let(c,m,h):=h;show(c,m,ih h)
  |br p=>show h
 |hash t ih=>
  intro a j k h;cases a with
  |it=>let(c,d,l,u,n,C,o,e,f,i):=h;show(c,d,l,u,n,C,o,e.mono b,?ga f,ih i)
  |br p=>show h
 |arg u X t ih=>
  intro a j k h;cases a with
  |it=>let(c,d,l,n,o,e,f,i):=h;show(c,d,l,n,o,e.mono b,?ga f,ih i)
  |br p=>show h
 |plural u z t x s=>
  intro a j k h;cases a with
  |it=>let(c,d,l,v,n,o,e,f,i,r):=h;show(c,d,l,v,n,o,e.mono b,?ga f,x i,s r)
  |br p=>show h
 |select u z t x s=>
  intro a j k h;cases a with
  |it=>let(c,d,l,v,n,o,e,f,i,r):=h;show(c,d,l,v,n,o,e.mono b,?ga f,x i,s r)
  |br p=>show h
 |branch n q n P s=>
  intro a j k h;cases a with
  |it=>show h
  |br p=>let(c,d,T,w,l,y,m,H,e,f,i,r,E):=h;show(c,d,T,w,l,y,m,H,e.mono b,f.mono b,?ga i,P r,s E)
 |other q ih=>
  intro a j k h;cases a with
  |it=>show h
  |br p=>let(d,w,l,y,m,e,f,i):=h;show(d,w,l,y,m,e.mono b,?ga f,ih i)
theorem rH.mono(q:rH B b d c)(a:?eR):rH B' b d c:=by let(e,p,n,m,o,f,h,i,j,k,l):=q;show(e,p,n,m,o,?eM f,?eM h,?eM i,j.mono a,?eM k,l)
def sx.mono(f:sx B a b)(e:?eR):sx B' a b:=by let(c,d):=f;show(c,?dl d)
theorem zf.mono(i:zf B a c)(b:?eR):zf B' a c:=by let(d,e,f):=i;show(d,?ga e,jb.lu f λ_ _ h=>h.mono b)
end
def ic(e:V->L->VK->XK->Prop):Sp:=λf c d b=>∃a,f=[a]/\e a c d b
def kq(f:V->V->L->VK->XK->Prop):Sp:=λh d e c=>bN λa b=>h=[a,b]/\f a b d e c
def yl(h:V->V->V->L->VK->XK->Prop):Sp:=λi e f d=>gG λa b c=>i=[a,b,c]/\h a b c e f d
def Bl(i:V->V->V->V->L->VK->XK->Prop):Sp:=λj f h e=>mr λa b c d=>j=[a,b,c,d]/\i a b c d f h e
def sp5(j:V->V->V->V->V->L->VK->XK->Prop):Sp:=λk h i f=>mv λa b c d e=>k=[a,b,c,d,e]/\j a b c d e h i f
section
variable{x0:Str}
def nI{x1:Str}:∀a c d b,ic f a c d b->R a=[x1].length:=λ_ _ _ _ (_,e,_)=>by rw[e];rfl
def tV{x1 x2:Str}:∀a c d b,kq f a c d b->R a=[x1,x2].length:=λ_ _ _ _ (_,_,e,_)=>by rw[e];rfl
def Bd{x1 x2 x3:Str}:∀a c d b,yl f a c d b->R a=[x1,x2,x3].length:=λ_ _ _ _ (_,_,_,e,_)=>by rw[e];rfl
def Dk{x1 x2 x3 x4:Str}:∀a c d b,Bl f a c d b->R a=[x1,x2,x3,x4].length:=λ_ _ _ _ (_,_,_,_,e,_)=>by rw[e];rfl
def R1{x1 x2 x3 x4 x5:Str}:∀a c d b,sp5 f a c d b->R a=[x1,x2,x3,x4,x5].length:=λ_ _ _ _ (_,_,_,_,_,e,_)=>by rw[e];rfl
end
def Zr(d:S):Sp:=yl λh e i c f _=>∃b:S,h=?av/\c b=Y (xo b d U)/\∀a,c a=U->a≠b->f .cT (D (D (D c b (xo b d (Y a))) a (pW a [("refusal",e)])) a (pW a (dS "row" i [("refusal",e)])))
def XZ:gy ["self","refusal","row"] ["self","refusal","row"] (eO Mf):=(rfl,Z,Z,by decide+kernel,Z,by decide+kernel,by decide+kernel)
theorem vf[k:?da](e:oN g.K a)(p:?ag a "refusal")(q:?ag a "row"):bN λb c=>?c0 1 b c ["self","refusal","row"] (Zr a)/\?ej g.K c ["self","refusal","row"]/\FE g.K g.ph "__init__" b:=by
 let(b,c,d,l):=k.vf;show(b,c,Df d XZ Bd λb w r z B t C u s x h=>?_,d.g0 ?bF,l);let(v,y,A,0,j,0,n,o):=h;show(_,bx (w6 ?cJ ?a9 Z) (bw (w8 ?cJ ?dr Z)),?_);show(_,Z,_,Z,j,a,Z,n,e,p,λf m i=>?_);show ?gJ
 .rw[cY (bI i),bD]
 show o f m i
def Made(f d:S)(i:Int)(j:?au)(e:L)(h:VK):=∀(b:L) (a l:S),e a=U->e l=U->a≠d->l≠d->l≠a->b d=Y (xo d f (Y a))->b a=Y (pW a (dS "row" ?bk [("refusal",.int i)]))->b l=Y (.lst j)->(∀c,c≠d->c≠a->c≠l->b c=e c)->h .cT b
def Dn(b:S)(f:Int):Sp:=ic λe c d _=>∃a:S,e=?s/\c a=Y (xo a b U)/\Made b a f [] c d
def FQ(b:S)(f:Int):Sp:=kq λe h c d _=>∃a:S,e=?s/\c a=Y (xo a b U)/\Made b a f [h] c d
def xL{k:Int}{b:L}(r:b c=Y (xo c e U))(u:Made e c k i b p){l:S}(j:b l=U):∃d:S,V.ref c=?J/\D b l (.lst i) d=Y (xo d e U)/\∀a,D b l (.lst i) a=U->a≠d->p .cT (D (D (D (D b l (.lst i)) d (xo d e (Y a))) a (pW a [("refusal",.int k)])) a (pW a (dS "row" ?bk [("refusal",.int k)]))):=by
 let n:l≠c:=λo=>by rw[o,r]at j;cases j
 show(c,Z,by rw[cY (bI n)];show r,λa f m=>?_)
 let h:a≠l:=λo=>by rw[o,bD]at f;cases f
 rw[cY h]at f;show u _ a l f j m n (bI h) ?_ bD ?_ λv s q t=>?_
 .rw[cY (bI m),cY (bI m),bD]
 .rw[cY (bI h),cY (bI h),cY n,bD]
 rw[cY q,cY q,cY s,cY t]
def EV{p:Int}{E:XK}(h:XR b e p q E)(w:e a=U):Made b a p q (D e a (xo a b U)) λx i=>x=.cT/\∃c,i a=Y (xo a b (Y c))/\E ?av (Y c) (del i a):=by
 intro r c l k m n o y s t u v;show(rfl,c,s,h (del r a) c l ?_ (by rw[Jn n];show t) (by rw[Jn o];show u))
 rw[cY n]at k;rw[cY o]at m;intro j z d;let f:j≠a:=fO d w;rw[Jn f,v j f (fO d k) (fO d m),cY f];show d
def iI{d:Int}(h:XR a c d [] b):Fz a (Dn a d) [] b vH e j c:=
 (?b8,λi f=>(_,Z,i,Z,bD,EV h f))
section
variable[T:dL g]
def ahJ:?cd ["self"] (eO Se):=(rfl,Z,Z,by decide+kernel,Z,by decide+kernel,by decide+kernel)
def nR:g.sK 2 "NotAllowed" g.lD ["self"] (Dn g.lD (-1)):=zF T.aiD T.aiw ahJ ?v nI λo n j r s k t e h=>by
 let(m,0,u,0,f,i):=h;let(p,q,a,b,c):=vf T.Wh T.Rk T.SJ;show ?X;show(_,Z,_,Z,?b8,λl d=>?cS)
def ahI:?cd ["self"] (eO Sd):=(rfl,Z,Z,by decide+kernel,Z,by decide+kernel,by decide+kernel)
def aiL:g.sK 2 "NoLanguage" g.oX ["self"] (Dn g.oX (-3)):=zF T.aiC T.aiv ahI ?v nI λo n j r s k t e h=>by
 let(m,0,u,0,f,i):=h;let(p,q,a,b,c):=vf T.Wg T.Rj T.SH;show ?X;show(_,Z,_,Z,?b8,λl d=>?cS)
def aiQ:?cd ["self"] (eO SN):=(rfl,Z,Z,by decide+kernel,Z,by decide+kernel,by decide+kernel)
def MT:g.sK 2 "NoMessage" g.si ["self"] (Dn g.si (-4)):=zF T.ajT T.ajP aiQ ?v nI λo n j r s k t e h=>by
 let(m,0,u,0,f,i):=h;let(p,q,a,b,c):=vf T.Xi T.Rs T.Tl;show ?X;show(_,Z,_,Z,?b8,λl d=>?cS)
def ahE:?cd ["self"] (eO Sb):=(rfl,Z,Z,by decide+kernel,Z,by decide+kernel,by decide+kernel)
def aiK:g.sK 2 "ComesRound" g.uu ["self"] (Dn g.uu (-5)):=zF T.aiB T.aiu ahE ?v nI λo n j r s k t e h=>by
 let(m,0,u,0,f,i):=h;let(p,q,a,b,c):=vf T.Wf T.Ri T.SE;show ?X;show(_,Z,_,Z,?b8,λl d=>?cS)
def aqK:?cd ["self"] (eO WH):=(rfl,Z,Z,by decide+kernel,Z,by decide+kernel,by decide+kernel)
def Pk:g.sK 2 "Full" g.f8 ["self"] (Dn g.f8 (-9)):=zF T.ar0 T.arR aqK ?v nI λo n j r s k t e h=>by
 let(m,0,u,0,f,i):=h;let(p,q,a,b,c):=vf T.O1 T.TY T.XG;show ?X;show(_,Z,_,Z,?b8,λl d=>?cS)
def amW:gy ["self","place"] ["self","place"] (eO UG):=(rfl,Z,Z,by decide+kernel,Z,by decide+kernel,by decide+kernel)
def Iu:g.sK 2 "Faulty" g.nu ["self","place"] (FQ g.nu (-6)):=zF T.aob T.anX amW ?Z tV λo n j r s k u e h=>by
 let(m,t,0,v,0,f,i):=h;let(p,q,a,b,c):=vf T.B_ T.SG T.VA;show ?bq;show(_,Z,_,Z,_,Z,?cY,λl d=>?cS)
def VW:gy ["self","line"] ["self","line"] (eO SO):=(rfl,Z,Z,by decide+kernel,Z,by decide+kernel,by decide+kernel)
def akb:g.sK 2 "WrongLine" g.rk ["self","line"] (FQ g.rk (-6)):=zF T.Wy T.Wx VW ?Z tV λo n j r s k u e h=>by
 let(m,t,0,v,0,f,i):=h;let(p,q,a,b,c):=vf T.MW T.Lf T.LU;show ?bq;show(_,Z,_,Z,_,Z,?cY,λl d=>?cS)
def amX:gy ["self","slots"] ["self","slots"] (eO UK):=(rfl,Z,Z,by decide+kernel,Z,by decide+kernel,by decide+kernel)
def aoI:g.sK 2 "Wanted" g.wx ["self","slots"] (FQ g.wx (-7)):=zF T.aoe T.an0 amX ?Z tV λo n j r s k u e h=>by
 let(m,t,0,v,0,f,i):=h;let(p,q,a,b,c):=vf T.C3 T.SK T.VB;show ?bq;show(_,Z,_,Z,_,Z,?cY,λl d=>?cS)
end
theorem jC:vH=λ_ a b=>b [] a:=rfl
theorem jF(a:V):tC a=λ_ b c=>c a b:=rfl
theorem jA(a:TE)(b:TA):JK a b=λc d h=>a c d λi e=>b c e λj f=>h (i::j) f:=rfl
def gc{a:L}{o d:HO}(e:a c=U)(h:a b=Y d):D a c o b=Y d:=(cY (fO h e)).trans h
def bO{b:L}{o d:HO}(e:a≠c)(h:b a=Y d):D b c o a=Y d:=(cY e).trans h
def apw{b:L}(d:a≠c)(h:b a=U):D b c e a=U:=(cY d).trans h
def wB(h:D c b e a=U):c a=U/\a≠b:=by
 let d:a≠b:=λf=>by rw[f,bD]at h;cases h
 show((cY d).symm.trans h,d)
section
variable{K:cp}{H:L}{ah:V->Prop}{a C dx:S}{fs:List (Str×V)}{f:Str}{v:V}{xs:List V}
def arO[c:FO K C f](h:H a=Y ?gW)(l:fs.lookup f=Y v)(k:ah v):mv λd b j e i=>?fw=?J/\H d=Y (.ins b j e)/\jO K b/\eA K b f/\e.lookup f=Y i/\ah i:=
 (a,C,dx,fs,v,Z,h,c.cl,c.no,l,k)
def asw[e:FO K C f]{i:L->Prop}(h:H a=Y ?gW)(l:R fs<1000)(k:i (?j3 (.ins C dx (dS f v fs)))):mr λc b j d=>?fw=?aC/\H c=Y (.ins b j d)/\jO K b/\eA K b f/\R d<1000/\i (D H c (.ins b j (dS f v d))):=
 (a,C,dx,fs,Z,h,e.cl,e.no,l,k)
def pV{b:Int}{c:VK}(h:cJ K H a xs)(d:sS xs b=Y v)(e:c v H):dF K ?s ?dk H c:=.inl (a,xs,b,v,Z,Z,h,d,e)
def uc{b:Int}{c:VK}(h:cZ K H a xs)(d:sS xs b=Y v)(e:c v H):dF K ?s ?dk H c:=.inr (.inl (a,xs,b,v,Z,Z,h,d,e))
theorem ixS{d:Int}{e:VK}{b:Str}{c:Nat}(i:b.length<=cw)(h:sS b.cps.toList d=Y c)(j:e (.str ⟨#[c]⟩) H):dF K (.str b) ?gV H e:=.inr (.inr (b,d,c,rfl,rfl,i,h,j))
end
def append_at{b:L}{l:S}{d:VK}(h:b l=Y (.lst a))(f:R a<cw)(e:d .cT (D b l (.lst (a++[c])))):G2 ?bk [c] b d:=(l,a,c,Z,Z,h,f,e)
def cZ.mono(h:cZ c a d e)(l:?gR):cZ c b d e:=by
 rcases h with(h|⟨f,h⟩)|h
 .show .inl (.inl (?c5 h))
 .show .inl (.inr (f,?c5 h))
 show .inr h
def cJ.mono(h:cJ c a d e)(l:?gR):cJ c b d e:=by
 rcases h with(h|⟨f,h⟩)|h
 .show .inl (.inl (?c5 h))
 .show .inl (.inr (f,?c5 h))
 show .inr h
def Seq(b:cp)(a:L)(c:S)(d:?au):=cJ b a c d\/cZ b a c d
theorem Seq.mono(h:Seq d b e f)(l:Le b c):Seq d c e f:=h.imp (λa=>cJ.mono a l) (λa=>cZ.mono a l)
def zX{f:Int}{c:VK}(h:Seq b a d k)(e:sS k f=Y j)(i:c j a):dF b ?J (.int f) a c:=by
 rcases h with h|h
 .show pV h e i
 show uc h e i
def tF{c:Type}{a:List c}{n:Nat}{b:c}(h:a[n]?=Y b):sS a (n:Int)=Y b:=by let d:n<R a:=(ig.mp h).1;unfold sS zW;rw[bz (RD n),bz (Va.mpr d)];show h
def xA{c:Type}{b:List c}{a:c}:sS (b++[a]) (-1)=Y a:=by
 unfold sS zW;rw[bp ?i,bz ?b7]
 have:((-1:Int)+((b++[a]).length:Nat)).toNat=R b:=by simp;lia
 change(b++[a])[_]?=_;rw[this];simp
end Sm
namespace Sm
theorem vo:D b c d a=U<->b a=U/\a≠c:=(wB,λh=>apw h.2 h.1)
section
variable[T:dL g]
def Ye:Sp:=Bl λi j k l d h _=>bN λ(a e:S)=>i=?s/\d a=Y (?cv g.e_ e)/\(∀b:L,?cC->b a=Y (.ins g.e_ e (Ic j k l))->h .cT b)
def agE:gy ["self","text","parts","named"] ["self","text","parts","named"] (eO Ub):=(rfl,Z,Z,by decide+kernel,Z,by decide+kernel,by decide+kernel)
def amv:?jB "Message" g.e_ ["self","text","parts","named"] (Ye):=tN T.ams T.amm agE ?cj Dk λj e a o p b t k h=>by
 let(c,q,r,s,0,u,f,0,l,h):=h;show ?aS;dsimp only[eJ,jC,jF,jA];lk;show ?dj
def alc{i:S->L->Prop}(h:∀(a:S) (d:L),?iG->c a=U->(∃b,d a=Y (?fD g.e_ (Ic j k l)))->i a d):∀a b,c a=U->c b=U->b≠a->Ye ?iQ (?bm (?cv g.e_ b)) (λt n=>t=.cT/\i a n) m:=by intro a b f p u;show ?cK;intro d q r;show(_root_.rfl,?cG);rw[cY (fO e f),cY (fO e p)];show e
def H_:Sp:=Bl λi j k l d h _=>bN λ(a e:S)=>i=?s/\d a=Y (?cv g.qS e)/\(∀b:L,?cC->b a=Y (.ins g.qS e (Pp j k l))->h .cT b)
def aiP:gy ["self","kind","slot","branches"] ["self","kind","slot","branches"] (eO WI):=(rfl,Z,Z,by decide+kernel,Z,by decide+kernel,by decide+kernel)
def ar9:?jB "Hole" g.qS ["self","kind","slot","branches"] (H_):=tN T.ar1 T.arS aiP ?cj Dk λj e a o p b t k h=>by
 let(c,q,r,s,0,u,f,0,l,h):=h;show ?aS;dsimp only[eJ,jC,jF,jA];lk;show ?dj
def aqm{i:S->L->Prop}(h:∀(a:S) (d:L),?iG->c a=U->(∃b,d a=Y (?fD g.qS (Pp j k l)))->i a d):∀a b,c a=U->c b=U->b≠a->H_ ?iQ (?bm (?cv g.qS b)) (λt n=>t=.cT/\i a n) m:=by intro a b f p u;show ?cK;intro d q r;show(_root_.rfl,?cG);rw[cY (fO e f),cY (fO e p)];lia
def NN:Sp:=yl λj k l d i _=>bN λ(a f:S)=>j=?s/\d a=Y (?cv g.qL f)/\(∀(c:S) (b:L),?gl->b a=Y (.ins g.qL f (Ow k l ?aC))->d c=U->c≠a->b c=?j8->i .cT b)
def ahb:gy ["self","kind","fitting"] ["self","kind","fitting"] (eO UF):=(rfl,Z,Z,by decide+kernel,Z,by decide+kernel,by decide+kernel)
def Oe:?jB "Branch" g.qL ["self","kind","fitting"] (NN):=tN T.aoa T.anW ahb ?bF Bd λn k e s t f w o h=>by
 let(i,u,v,0,y,l,0,p,h):=h;show(_,(bx (?E ?a9) (bx (?E ?dr) (bw (?E ?fc)))),?_);dsimp only[eJ,jC,jF,jA];lk;show(by change 0<=cw;decide,λd c=>?_)
 let a:=c;simp only[vo]at a;let b:=a.2;lk;show h d _ (λj r q m=>by bv_omega) bD a.1.1 b ?aa
def HU{j:S->L->Prop}(h:∀(a e:S) (d:L),?iG->c a=U->(∃b,d a=Y (?fD g.qL (Ow n o ?aY)))->c e=U->e≠a->d e=?j8->j a d):∀a b,c a=U->c b=U->b≠a->NN (?s::([n,o]++[])) (?bm (?cv g.qL b)) (λw q=>w=.cT/\j a q) p:=by
 intro a b i m x;show(_,_,_,_root_.rfl,a,b,_root_.rfl,bD,?_);intro e d t u k l s;show(_root_.rfl,h a e d (λr v f=>t r v (fO f i) ?_) i (b,u) ?_ l s)
 .rw[cY (fO f i),cY (fO f m)];lia
 rw[cY l]at k;show(Le.new m).no k
def Yd:Sp:=ic λj d i _=>bN λ(a f:S)=>j=?s/\d a=Y (?cv g.rB f)/\(∀(c:S) (b:L),?gl->b a=Y (.ins g.rB f (EO ?aC ?dN))->d c=U->c≠a->b c=?j8->i .cT b)
def agD:?cd ["self"] (eO TZ):=(rfl,Z,Z,by decide+kernel,Z,by decide+kernel,by decide+kernel)
def amu:?jB "Display" g.rB ["self"] (Yd):=tN T.amr T.aml agD ?v nI λo l f s t i u p h=>by
 let(j,0,e,m,0,d,h):=h;show(_,(bx (?E ?fc) (bw (?E bP))),?_);dsimp only[eJ,jC,jF,jA];show(by change 0<=cw;decide,λb a=>?_)
 let c:b≠e:=(fO d a).symm;lk;show h b _ (λk r q n=>by bv_omega) bD a c ?aa
def alb{j:S->L->Prop}(h:∀(a e:S) (d:L),?iG->c a=U->(∃b,d a=Y (?fD g.rB (EO ?aY ?dN)))->c e=U->e≠a->d e=?j8->j a d):∀a b,c a=U->c b=U->b≠a->Yd (?s::([]++[])) (?bm (?cv g.rB b)) (λu o=>u=.cT/\j a o) n:=by
 intro a b i m v;show(_,_root_.rfl,a,b,_root_.rfl,bD,?_);intro e d r s k l q;show(_root_.rfl,h a e d (λp t f=>r p t (fO f i) ?_) i (b,s) ?_ l q)
 .rw[cY (fO f i),cY (fO f m)];lia
 rw[cY l]at k;show(Le.new m).no k
def Xd:Sp:=kq λl m f k _=>bN λ(a i:S)=>l=?s/\f a=Y (?A i [])/\(∀(c d e:S) (b:L),(∀h j,h≠a->f h=Y j->b h=Y j)->b a=Y (?A i (iX m (.ref g.mG) ?aC ?J ?aY))->f c=U->c≠a->b c=Y (.tup [])->f d=U->d≠a->b d=?j8->f e=U->e≠a->b e=?ke->d≠c->e≠c->e≠d->k .cT b)
def afX:gy ["self","tag"] ["self","tag"] (eO Tq):=(rfl,Z,Z,by decide+kernel,Z,by decide+kernel,by decide+kernel)
def ak5:?jB "Language" g.Language ["self","tag"] (Xd):=tN T.ak1 T.akW afX ?Z tV λz w r a a s a A h=>by
 let(t,a,0,a,x,0,B,h):=h;show(_,(bx (?E ?a9) (bx (?E ?cH) (bx (?E (CU aD)) (bx (?E ?fc) (bw (?E Ip)))))),?_);dsimp only[eJ,jC,jF,jA];lk;show(by change 0<=cw;decide,λd o=>?_)
 let c:=o;simp only[vo]at c;let l:=c.2;lk;show(by change 0<=cw;decide,λe p=>?_)
 let b:=p;simp only[vo]at b;let m:=b.2;let i:e≠d:=b.1.2;lk;show λf q=>?_;let a:=q;simp only[vo]at a;let n:=a.2;let j:f≠d:=a.1.1.1.2;let E:=bI j;let k:f≠e:=a.1.2;let H:=bI k;let o:=bI n;lk;show h d e f _ (λu X P y=>by bv_omega) bD c.1.1 l ?aa b.1.1.1.1 m ?aa a.1.1.1.1.1.1 n ?aa i j k
def aj2{m:S->L->Prop}(h:∀(a e f i:S) (d:L),?iG->c a=U->(∃b,d a=Y (?A b (iX t (.ref g.mG) ?aY ?bL ?iB)))->c e=U->e≠a->d e=Y (.tup [])->c f=U->f≠a->d f=?j8->c i=U->i≠a->d i=?ke->f≠e->i≠e->i≠f->m a d):∀a b,c a=U->c b=U->b≠a->Xd (?s::([t]++[])) (?bm (?A b [])) (λX v=>X=.cT/\m a v) u:=by
 intro a b l k c;show ?c9;intro e f i d A B n q x o r y p s z C E H;show(_root_.rfl,h a e f i d (λw P j=>A w P (fO j l) ?_) l (b,B) ?_ q x ?_ r y ?_ s z C E H)
 .rw[cY (fO j l),cY (fO j k)];lia
 .rw[cY q]at n;show(Le.new k).no n
 .rw[cY r]at o;show(Le.new k).no o
 rw[cY s]at p;show(Le.new k).no p
def B1:Sp:=Bl λi j k l d h _=>bN λ(a e:S)=>i=?s/\d a=Y (?cv g.Found e)/\(∀b:L,?cC->b a=Y (.ins g.Found e (Ji j k l))->h .cT b)
def ahF:gy ["self","steps","language","message"] ["self","steps","language","message"] (eO VH):=(rfl,Z,Z,by decide+kernel,Z,by decide+kernel,by decide+kernel)
def aqc:?jB "Found" g.Found ["self","steps","language","message"] (B1):=tN T.ap7 T.ap0 ahF ?cj Dk λj e a o p b t k h=>by
 let(c,q,r,s,0,u,f,0,l,h):=h;show ?aS;dsimp only[eJ,jC,jF,jA];lk;show ?dj
def aop{i:S->L->Prop}(h:∀(a:S) (d:L),?iG->c a=U->(∃b,d a=Y (?fD g.Found (Ji j k l)))->i a d):∀a b,c a=U->c b=U->b≠a->B1 ?iQ (?bm (?cv g.Found b)) (λt n=>t=.cT/\i a n) m:=by intro a b f p u;show ?cK;intro d q r;show(_root_.rfl,?cG);rw[cY (fO e f),cY (fO e p)];lia
def N6:Sp:=ic λk e j _=>bN λ(a h:S)=>k=?s/\e a=Y (?cv g.jG h)/\(∀(c d:S) (b:L),(∀f i,f≠a->e f=Y i->b f=Y i)->b a=Y (?iJ h (qu ?aC ?J))->e c=U->c≠a->b c=?ke->e d=U->d≠a->b d=Y (.dK [])->d≠c->j .cT b)
def akf:?cd ["self"] (eO XQ):=(rfl,Z,Z,by decide+kernel,Z,by decide+kernel,by decide+kernel)
def atn:?jB "Kit" g.jG ["self"] (N6):=tN T.atm T.atg akf ?v nI λt q m y z n A u h=>by
 let(o,0,l,r,0,k,h):=h;show(_,(bx (?E Ip) (bw (?E v6))),?_);dsimp only[eJ,jC,jF,jA];show λb c=>?_;let f:b≠l:=(fO k c).symm;lk;show λd j=>?_;let a:=j;simp only[vo]at a;let i:=a.2;let e:d≠b:=a.1.2;let C:=bI i;lk;show h b d _ (λp x w s=>by bv_omega) bD c f ?aa a.1.1 i ?aa e
def asn{l:S->L->Prop}(h:∀(a e f:S) (d:L),?iG->c a=U->(∃b,d a=Y (?fD g.jG (qu ?aY ?bL)))->c e=U->e≠a->d e=?ke->c f=U->f≠a->d f=Y (.dK [])->f≠e->l a d):∀a b,c a=U->c b=U->b≠a->N6 (?s::([]++[])) (?bm (?cv g.jG b)) (λz r=>z=.cT/\l a r) q:=by
 intro a b k j A;show(_,_root_.rfl,a,b,_root_.rfl,bD,?_);intro e f d v w m o t n p u x;show(_root_.rfl,h a e f d (λs y i=>v s y (fO i k) ?_) k (b,w) ?_ o t ?_ p u x)
 .rw[cY (fO i k),cY (fO i j)];show i
 .rw[cY o]at m;show(Le.new j).no m
 rw[cY p]at n;show(Le.new j).no n
def B3:Sp:=sp5 λj k l m n d i _=>bN λ(a f:S)=>j=?s/\d a=Y (?cv g.d8 f)/\(∀(c:S) (b:L),?gl->b a=Y (.ins g.d8 f (zt k l m n ?aC))->d c=U->c≠a->b c=?j8->i .cT b)
def ahH:gy ["self","kind","slot","counted","outer_parts"] ["self","kind","slot","counted","outer_parts"] (eO VJ):=(rfl,Z,Z,by decide+kernel,Z,by decide+kernel,by decide+kernel)
def aqd:?jB "Level" g.d8 ["self","kind","slot","counted","outer_parts"] (B3):=tN T.ap8 T.ap1 ahH (λ_ _ _ _ _ _=>us5 λ_ _ _ _ _=>rfl) R1 λn k e s t f y o h=>by
 let(i,u,v,w,x,0,A,l,0,p,h):=h;show(_,(bx (?E ?a9) (bx (?E ?dr) (bx (?E ?gH) (bx (?E (N 4)) (bw (?E ?fc)))))),?_);dsimp only[eJ,jC,jF,jA];lk;lk;lk;show(by change 0<=cw;decide,λd c=>?_)
 let a:=c;simp only[vo]at a;let b:=a.2;let z:=bI b;lk;show h d _ (λj r q m=>by bv_omega) bD a.1.1.1.1 b ?aa
def aoq{j:S->L->Prop}(h:∀(a e:S) (d:L),?iG->c a=U->(∃b,d a=Y (?fD g.d8 (zt n o p q ?aY)))->c e=U->e≠a->d e=?j8->j a d):∀a b,c a=U->c b=U->b≠a->B3 (?s::([n,o,p,q]++[])) (?bm (?cv g.d8 b)) (λy s=>y=.cT/\j a s) r:=by
 intro a b i m z;show(_,_,_,_,_,_root_.rfl,a,b,_root_.rfl,bD,?_);intro e d v w k l u;show(_root_.rfl,h a e d (λt x f=>v t x (fO f i) ?_) i (b,w) ?_ l u)
 .rw[cY (fO f i),cY (fO f m)];lia
 rw[cY l]at k;show(Le.new m).no k
def Zt:Sp:=kq λl m f k _=>bN λ(a i:S)=>l=?s/\f a=Y (?cv g.b8 i)/\(∀(c d e:S) (b:L),(∀h j,h≠a->f h=Y j->b h=Y j)->b a=Y (.ins g.b8 i (vt m ?dN ?aC ?J ?aY))->f c=U->c≠a->b c=?j8->f d=U->d≠a->b d=?j8->f e=U->e≠a->b e=Y (.lst [?dN,?dN,?dN])->d≠c->e≠c->e≠d->k .cT b)
def ahd:gy ["self","text"] ["self","text"] (eO UI):=(rfl,Z,Z,by decide+kernel,Z,by decide+kernel,by decide+kernel)
def aog:?jB "Reader" g.b8 ["self","text"] (Zt):=tN T.aod T.anZ ahd ?Z tV λy v r X a s a z h=>by
 let(t,a,0,a,w,0,A,h):=h;show(_,(bx (?E ?a9) (bx (?E bP) (bx (?E ?fc) (bx (?E ?fc) (bw (?E (ib (F bP (F bP (?q bP)))))))))),?_);dsimp only[eJ,jC,jF,jA];lk;show(by change 0<=cw;decide,λd o=>?_)
 let c:=o;simp only[vo]at c;let l:=c.2;lk;show(by change 0<=cw;decide,λe p=>?_)
 let b:=p;simp only[vo]at b;let m:=b.2;let i:e≠d:=b.1.2;lk;show(by change 3<=cw;decide,λf q=>?_)
 let a:=q;simp only[vo]at a;let n:=a.2;let j:f≠d:=a.1.1.1.2;let k:f≠e:=a.1.2;lk;show h d e f _ (λu P H x=>by bv_omega) bD c.1.1 l ?aa b.1.1.1.1 m ?aa a.1.1.1.1.1.1 n ?aa i j k
def amB{m:S->L->Prop}(h:∀(a e f i:S) (d:L),?iG->c a=U->(∃b,d a=Y (?fD g.b8 (vt t ?dN ?aY ?bL ?iB)))->c e=U->e≠a->d e=?j8->c f=U->f≠a->d f=?j8->c i=U->i≠a->d i=Y (.lst [?dN,?dN,?dN])->f≠e->i≠e->i≠f->m a d):∀a b,c a=U->c b=U->b≠a->Zt (?s::([t]++[])) (?bm (?cv g.b8 b)) (λX v=>X=.cT/\m a v) u:=by
 intro a b l k c;show ?c9;intro e f i d A B n q x o r y p s z C E H;show(_root_.rfl,h a e f i d (λw P j=>A w P (fO j l) ?_) l (b,B) ?_ q x ?_ r y ?_ s z C E H)
 .rw[cY (fO j l),cY (fO j k)];lia
 .rw[cY q]at n;show(Le.new k).no n
 .rw[cY r]at o;show(Le.new k).no o
 rw[cY s]at p;show(Le.new k).no p
def Zs:Sp:=kq λk l e j _=>bN λ(a h:S)=>k=?s/\e a=Y (?cv g.gU h)/\(∀(c d:S) (b:L),(∀f i,f≠a->e f=Y i->b f=Y i)->b a=Y (.ins g.gU h (qK l ?dN ?dN ?aC .cT ?J))->e c=U->c≠a->b c=?ke->e d=U->d≠a->b d=Y (.tup [])->d≠c->j .cT b)
def ahc:gy ["self","text"] ["self","text"] (eO UH):=(rfl,Z,Z,by decide+kernel,Z,by decide+kernel,by decide+kernel)
def aof:?jB "Loader" g.gU ["self","text"] (Zs):=tN T.aoc T.anY ahc ?Z tV λs p l y z m B t h=>by
 let(n,A,0,H,q,0,u,h):=h;show(_,(bx (?E ?a9) (bx (?E bP) (bx (?E bP) (bx (?E Ip) (bx (?E Jx) (bw (?E (CU aD)))))))),?_);dsimp only[eJ,jC,jF,jA];lk;show λc j=>?_;let b:=j;simp only[vo]at b;let f:=b.2;lk;show(by change 0<=cw;decide,λd k=>?_)
 let a:=k;simp only[vo]at a;let i:=a.2;let e:d≠c:=a.1.1.2;lk;show h c d _ (λo x w r=>by bv_omega) bD b.1.1.1 f ?aa a.1.1.1.1.1.1 i ?aa e
def amA{l:S->L->Prop}(h:∀(a e f:S) (d:L),?iG->c a=U->(∃b,d a=Y (?fD g.gU (qK q ?dN ?dN ?aY .cT ?bL)))->c e=U->e≠a->d e=?ke->c f=U->f≠a->d f=Y (.tup [])->f≠e->l a d):∀a b,c a=U->c b=U->b≠a->Zs (?s::([q]++[])) (?bm (?cv g.gU b)) (λA s=>A=.cT/\l a s) r:=by
 intro a b k j B;show ?c9;intro e f d w x m o u n p v y;show(_root_.rfl,h a e f d (λt z i=>w t z (fO i k) ?_) k (b,x) ?_ o u ?_ p v y)
 .rw[cY (fO i k),cY (fO i j)];lia
 .rw[cY o]at m;show(Le.new j).no m
 rw[cY p]at n;show(Le.new j).no n
def NM:Sp:=Bl λi j k l d h _=>bN λ(a e:S)=>i=?s/\d a=Y (?aB e [])/\(∀b:L,?cC->b a=Y (?aB e (Ov j k l))->h .cT b)
def Uj:gy ["self","number","row","text"] ["self","number","row","text"] (eO UE):=(rfl,Z,Z,by decide+kernel,Z,by decide+kernel,by decide+kernel)
def yU:?jB "Answer" g.Answer ["self","number","row","text"] (NM):=tN T.ZY T.ZQ Uj ?cj Dk λj e a o p b t k h=>by
 let(c,q,r,s,0,u,f,0,l,h):=h;show ?aS;dsimp only[eJ,jC,jF,jA];lk;show ?dj
def xu{i:S->L->Prop}(h:∀(a:S) (d:L),?iG->c a=U->(∃b,d a=Y (?aB b (Ov j k l)))->i a d):∀a b,c a=U->c b=U->b≠a->NM ?iQ (?bm (?aB b [])) (λt n=>t=.cT/\i a n) m:=by intro a b f p u;show ?cK;intro d q r;show(_root_.rfl,?cG);rw[cY (fO e f),cY (fO e p)];lia
def G_:Sp:=kq λi j d h _=>bN λ(a e:S)=>i=?s/\d a=Y (?cv g.pz e)/\(∀b:L,?cC->b a=Y (.ins g.pz e (Po j ?dN))->h .cT b)
def aiO:gy ["self","calls"] ["self","calls"] (eO WG):=(rfl,Z,Z,by decide+kernel,Z,by decide+kernel,by decide+kernel)
def ar8:?jB "Feed" g.pz ["self","calls"] (G_):=tN T.arZ T.arQ aiO ?Z tV λj e a o p b r k h=>by
 let(c,q,0,s,f,0,l,h):=h;show(_,(bx (?E ?a9) (bw (?E bP))),?_);dsimp only[eJ,jC,jF,jA];lk;show ?dj
def aql{i:S->L->Prop}(h:∀(a:S) (d:L),?iG->c a=U->(∃b,d a=Y (?fD g.pz (Po j ?dN)))->i a d):∀a b,c a=U->c b=U->b≠a->G_ (?s::([j]++[])) (?bm (?cv g.pz b)) (λr l=>r=.cT/\i a l) k:=by intro a b f n s;show ?c9;intro d o p;show(_root_.rfl,h a d (λm q e=>o m q (fO e f) ?_) f (b,p));rw[cY (fO e f),cY (fO e n)];lia
end
end Sm
namespace L2
section
variable{K:cp}{a:S}{xs ys:List V}{g:TG}{te:TE}{vs:List Nat}{σ:St}{H1:L}{aE:S}{Qd:L->Prop}
def OO{b:Nat}(h:R ys<=cw)(d:ys[b]?=Y e):∃c,?aZ H1 aE=Y (.lst c)/\R c<cw/\D (?aZ H1) aE (.lst (c++[e]))=?j6 (.lst (ys.take ?a4)):=by let f:b<R ys:=(ig.mp d).1;show(_,bD,by rw[jR];lia,by rw[JR,take_snoc d])
def ON(A:cZ K H1 a xs)(x:H1 aE=U)(p:R ys=?fH)(B:R ys<=cw)(C:∀b d k,xs[b]?=Y d->ys[b]?=Y k->∀(o:VK),o k (?aZ H1)->g d ?b1 (?aZ H1) λe l=>b7 e vs=?b1/\te e l o)(y:Qd (?j6 (.lst ys))):∃W:Nat->Nat->L->Prop,(∃j,?c3 j)/\∀b j c,W b j c->((sQ K a).stop b c/\Qd c)\/((sQ K a).go b c/\∃Nx:L->Prop,(∀f,Nx f->∃s,s<j/\W ?a4 s f)/\∀d f,(sQ K a).2 b c d f->g d ?b1 f λe l=>b7 e vs=?b1/\vI e l λt m=>
 if t=M then te e m λk n=>∃h,n aE=Y (.lst h)/\R h<cw/\Nx (D n aE (.lst (h++[k])))else Nx m):=by
 show M0 (xs:=xs) (H1:=H1) (aE:=aE) (λb c=>c=?aZ H1) Z (λb c _ i=>?_) (λb d c q i=>?_) λc i=>?_
 .rw[i];show cZ.mono A (Sm.Le.new x)
 .subst i;let z:b<R ys:=by rw[p];show(ig.mp q).1
  let r:=gv z;let(h,u,v,w):=OO (H1:=H1) (aE:=aE) B r;show C b d _ q r _ (h,u,v,w)
 rw[i,<-p,nP];show y
def IP(A:cJ K H1 a xs)(x:H1 aE=U)(p:R ys=?fH)(B:R ys<=cw)(C:∀b d k,xs[b]?=Y d->ys[b]?=Y k->∀(o:VK),o k (?aZ H1)->g d ?b1 (?aZ H1) λe l=>b7 e vs=?b1/\te e l o)(y:Qd (?j6 (.lst ys))):∃W:Nat->Nat->L->Prop,(∃j,?c3 j)/\∀b j c,W b j c->((sP K a).stop b c/\Qd c)\/((sP K a).go b c/\∃Nx:L->Prop,(∀f,Nx f->∃s,s<j/\W ?a4 s f)/\∀d f,(sP K a).2 b c d f->g d ?b1 f λe l=>b7 e vs=?b1/\vI e l λt m=>
 if t=M then te e m λk n=>∃h,n aE=Y (.lst h)/\R h<cw/\Nx (D n aE (.lst (h++[k])))else Nx m):=by
 show Fh (xs:=xs) (H1:=H1) (aE:=aE) (λb c=>c=?aZ H1) Z (λb c _ i=>?_) (λb d c q i=>?_) λc i=>?_
 .rw[i];show cJ.mono A (Sm.Le.new x)
 .subst i;let z:b<R ys:=by rw[p];show(ig.mp q).1
  let r:=gv z;let(h,u,v,w):=OO (H1:=H1) (aE:=aE) B r;show C b d _ q r _ (h,u,v,w)
 rw[i,<-p,nP];show y
def aqj{m l:Int}{c:Nat}(E:H1 aE=U)(A:R ys=c)(B:R ys<=cw)(C:∀b f,ys[b]?=Y f->∀(r:VK),r f (?aZ H1)->g (.int (m+(b:Nat)*l)) ?b1 (?aZ H1) λj n=>b7 j vs=?b1/\te j n r)(z:Qd (?j6 (.lst ys))):∃W:Nat->Nat->L->Prop,(∃i,?c3 i)/\∀b i e,W b i e->((zQ m l c).stop b e/\Qd e)\/((zQ m l c).go b e/\∃Nx:L->Prop,(∀d,Nx d->∃u,u<i/\W ?a4 u d)/\∀o d,(zQ m l c).2 b e o d->g o ?b1 d λj n=>b7 j vs=?b1/\vI j n λv p=>
 if v=M then te j p λf q=>∃k,q aE=Y (.lst k)/\R k<cw/\Nx (D q aE (.lst (k++[f])))else Nx p):=by
 show(λb i e=>i=c-b/\b<=c/\e=?aZ H1,(c,by simp,gI _,Z),?_)
 intro b i e ξ;let(0,H,h):=ξ;subst h;by_cases s:b<c
 .show .inr (s,λd=>d=?j6 (.lst (ys.take ?a4)),λd h=>(c-?a4,by lia,Z,s,h),λo d f=>?_)
  let(h,f):=f;subst h f;let t:=gv (show b<(R ys)by lia)
  let(k,w,x,y):=OO (H1:=H1) (aE:=aE) B t;show C b _ t _ (k,w,x,y)
 let h:b=c:=by lia
 subst h;show .inl (?a2,?_);rw[<-A,nP];show z
end
end L2
namespace HT
section
variable{dm:eP}{w:dZ}{A:eV}{E:J->aO->Prop}{s:aO}
def Z8{i:J->aO->Prop}(c:FA s.1 e a)(j:s.1.IsSliceOf f l m .none)(t:xN l b)(u:xN m d)(k:?aW 0 b=0/\?aW a.size d=Q a)(h:i ?aY s):?ax (xG ?aY ?bL) i:=by
 let(r,p,o,v):=id j;let n:s.TypeIs ?bL "slice":=(r,p,o);unfold xG
 try with_reducible refine wZ ?_
 first|show bC (dA ?_)|skip
 show bC (afc c.typeIs ?i ?_)
 show bC (Af (name:=mF "__getitem__") c.typeIs DA (wU DA c.typeIs entry_tuple_getitem ?_ (aeR _ _)))
 change ?aE (U1 ?aY>>=_) s;show bC (tupleItemsOf_ c ?_);show bC (Mr n ?_);rw[bz ?i]
 show bC (SZ j t u ?_);let q:?jK=M:=by
  rw[k.1,k.2];simp
 change ?aE (if ?jK=M then _ else _) s;rw[bz q];unfold avp;show bC (bC (Mr c.typeIs ?ek));rw[bz ?i]
 first
  |show bC (Nf (bC (dA (dA (_,Z,dA h)))))
  |show bC (Nf (dA (_,Z,dA h)))
  |show Nf (bC (dA (dA (_,Z,dA h))))
end
end HT
namespace L2
variable{X:Cx}
def auw:V->?bi->?bi->L->VK->Prop:=λj i h b f=>bN λc e=>j=?aC/\b c=Y (.tup e)/\∀d a,Sm.Le b a->a d=Y (.tup (oK e i h))->f ?J a
def OU:JU X auw:=by
 intro w y E d P A B C j f z q e p k m n h;let(b,a,0,i,o):=h;by_cases c:?cc 0 j=0/\?cc a.length f=R a
 .cases p;let(u,x,l,H):=e.tuple (cZ.of i);let s:Q u.toArray=R a:=by rw[jK];show x.length.symm
  show("tuple",_,DA.lookup,l.typeIs,?_);show HT.Z8 l k m n (by rw[s];show c) (?av,d,e,Z,o b d Sm.Le.refl ?_)
  let r:oK a j f=a:=by
   unfold oK;rw[c.1,c.2];simp
  rw[r];show i
 show asH w y E d ?av A B C j f z q e p k m n (b,a,Z,cZ.of i,c,λv t=>o v _ (Sm.Le.new t) bD)
section
variable{dm:eP}{w:dZ}{K:Type}[DecidableEq K]{mS:HeapKind dm w K}{A:eV}{E:J->aO->Prop}{s:aO}
def ags(e:(a==nS)=I):MeetsIn dm w (Builtin.«dict.__len__» ([?s],[])) (λ_ c s=>∃b,?gA a b/\c (.ok (.ret (.int b.length s.toks))) {s with toks:=s.toks+1}):=
 .of_wp λA c s (b,hm,h)=>by
  let(o,d,k,j,l,f,i,n,m):=hm;change ?aE (dictSize a>>=_) s;unfold dictSize;show bC (bC (DN j f ?ek));change ?aE (avu a>>=_) s;show bC (wpAny_pendingCount_other e ?_);show wpAny_ret_mkInt ?_;have:Q d=R b:=GT i;rw[Nat.add_zero,this];show h
def YZ{ah:J->aO->Prop}(e:(b==nS)=I)(c:?gA b a)(i:?c1<2^63)(h:ah (.int a.length (s.toks+1)) {s with toks:=s.toks+1+1}):?ax (Builtin.«len» ([?av],[])) (λfin f=>∃d,fin=.done (.ret d)/\ah d f):=by
 unfold Builtin.«len»;show bC (m:=oneArg "len" _) ?ek;show bC (m:=callSpecial? ?av (mF "__len__")) (Af (name:=mF "__len__") c.typeIs LK (call_meetsIn LK c.typeIs F.entry_dict_len (F.args_dict_len_1 _) (ags (mS:=mS) e) (a,c,?_)))
 change ?aE _ {s with toks:=s.toks+1};show bC (wZ ?ek);show bC (Wl ?_);change ?aE (if ?co<0 then _ else _) _;rw[bp ?d]
 change ?aE (if ?co>=2^63 then _ else _) _;rw[bp ?d]
 show bC (wpAny_mkInt (dA (_,Z,h)))
def al5{c:J->aO->Prop}(d:(a==nS)=I)(f:?gA a b)(e:(b.length:Int)<2^63)(h:c (.int b.length (s.toks+1)) {s with toks:=s.toks+1+1}):?ax (px ?jw [?s]) c:=
 Calls.call_function_entry kind_len plain_len entry_len (args_len1 _) (YZ d f e h)
def arn{ah:Bool->aO->Prop}(m:(j==nS)=I)(f:?gA j a)(n:?c1<2^63)(h:ah (!a.isEmpty) {s with toks:=s.toks+1+1}):?ax (Fp ?dh) ah:=by
 let k:(?c1 !=0)=!a.isEmpty:=by cases a<;>simp<;>lia
 let l:?ax (runValue (?jw ([?dh],[]))) (λb c=>b=.int a.length (s.toks+1)/\ah (!a.isEmpty) c):=by
  show wpAny_runValue (agb entry_len ?_);rw[eV.under_plainId plain_len _];show kX (YZ (ah:=λb c=>b=.int a.length (s.toks+1)/\ah (!a.isEmpty) c) m f n (rfl,h)) (λfin c e=>by let(b,0,i):=e;show i) λ_ _ d=>d
 unfold Fp
 first
  |show bC (V1 (name:=mF "__bool__") f.typeIs noBool_dict ?_)
  |show bC (dA (bC (V1 (name:=mF "__bool__") f.typeIs noBool_dict ?_)))
 first
  |show bC (GU (name:=mF "__len__") f.typeIs LK.lookup ?_)
  |show bC (dA (bC (GU (name:=mF "__len__") f.typeIs LK.lookup ?_)))
 first
  |show bC (kX l (λb c e=>by let(0,i):=e;show dA (k▸i)) λ_ _ d=>d)
  |show bC (dA (bC (kX l (λb c e=>by let(0,i):=e;show dA (k▸i)) λ_ _ d=>d)))
end
section
variable{X:Cx}{a:dz}{ta:TE}
def HE:qN X ?jw (λi c e=>bN λa b=>i=[?fw]/\Rd c a (.dT b)/\e (.int b.length) c):=by intro s t w c i v e d o h;let(a,b,0,k,n):=h;let(u,0,q):=vals1 o;cases q;let(r,l,m,p,j):=zE d.bU k;let f:R b=R m:=vV p;show al5 l j (by rw[<-f];rw[fU]at r;lia) (.int b.length,c,d.tok _,(_,by rw[f]),n)
def amR(t:?am a ta)(v:∀o,CJ a X.env o=(do let f<-o;uz a.pos;tG [f] (Fp f))):PT X a (λi c l=>ta i c λp j=>bN λd b=>p=?J/\Rd j d (.dT b)/\l (!b.isEmpty) j):=by
 intro y C i c l r h;show Vh (df (t y C i c _ r h) λf H A=>?_) (v _);let(p,q,k,B,d,b,e,u,z):=A;subst e;cases B;let(E,x,m,n,s):=zE k.bU u;let w:R b=R m:=vV n;let e:b.isEmpty=m.isEmpty:=by cases n<;>rfl
 show arn x s (by rw[<-w];rw[fU]at E;lia) (q,k.tok _,by rw[<-e];show z)
end
end L2
namespace HT
def aoL(e:eV)(d:aO)(b:Int)(j:Tok)(c:Int)(k:Tok)(i:eP)(l:dZ)(f:J->aO->Prop)(a:J->aO->Prop)(h:a (.bool (decide (b<=c))) d):bH (bQ i l) e (richCompare .LtE (?dk j) (?f3 k)) a f d:=
 (av6 h:bH (bQ i l) e (nU .LtE (?dk j) (?f3 k)) a f d)
def i5:?bD->?bD->Bool
 |[],_=>M
 |_::_,[]=>I
 |a::c,b::d=>if a=b then i5 c d else decide (a<=b)
theorem XC(a b:Int)(c d:?bD):i5 (a::c) (b::d)=if a=b then i5 c d else decide (a<=b):=rfl
section
open PySem.SeqAt
open PySem.AutoSeq1 (wpAny_loadPart')
open PySem.MeetsSeq PySem.MeetsSeq2 PySem.MeetsSeq3
def ahN(l i:S)(c d:?dD)(e f:Nat)(a b:?iD)(k m:Array ?bH)(p o:?bD)(H:yX c.toList p)(T:yX d.toList o):Meets (Builtin.«tuple.__le__» ([?bk,?iB],[])) (λ_ u j=>j.1.get? l=Y {cls:=?ay,dict:=a,data:=.seq c e,slots:=k}/\j.1.get? i=Y {cls:=?ay,dict:=b,data:=.seq d f,slots:=m}/\u (.ok (.ret (.bool (i5 p o)))) j):=
 .of_wp λX a0 E u j h=>by
  let(n,g,k,r,q):=j;let(b,a,h):=h
  let e:=AutoSeq1.sub_tuple_tuple;let e:Q c=R p:=by rw[<-H.length];simp
  let e:Q d=R o:=by rw[<-T.length];simp
  wp_walk using uj b,uj a,afE _ (λrest i A=>i.1=U/\A=(n,g,k,r,q)/\mr λ(s t:?aX) (f e:?bD)=>rest=s.zip t/\yX s f/\yX t e/\R f+Q d=R e+Q c/\u (.ok (.ret (.bool (i5 f e)))) (n,g,k,r,q)) _
  case turn=>
   intro ξ;let(a,a):=ξ;intro rest i A ξ;let(x,0,s,t,f,e,a,y,z,m,b):=ξ;cases y with
   |nil=>rw[List.zip_nil_left]at a;cases a
   |cons v B a1=>
    cases z with
    |nil=>rw[List.zip_nil_right]at a;cases a
    |cons w C a2=>
     rw[Lj]at a;injection a with i u;injection i with j i;subst j i;rw[XC]at b;simp only[lO]at m;let(i,j,P):=anT E.in1 (n,g,k,r,q) v B w C;show bC (j X a0 _ _ ?_);cases i with
     |true=>
      rw[bz (P.mp Z)]at b
      wp_walk
      show(rfl,Z,_,_,_,_,u,a1,a2,by lia,b)
     |false=>
      rw[bp (λi=>bK (P.mpr i) kU)]at b;let i:=aoL E.in1 (n,g,k,r,q) v B w C X a0
      wp_walk using i
      show(_,Z,by simpa using b)
  case fin=>
   intro ξ;let(i,i):=ξ;intro A ξ;let(x,0,s,t,f,e,a,y,z,m,b):=ξ;simp only at x;subst x;let X:i5 f e=decide (Q c<=Q d):=by
    cases y with
    |nil=>
     simp only[uX]at m;change M=_;show(im ?d).symm
    |cons v B X=>
     cases z with
     |nil=>
      simp only[uX,lO]at m;change I=_;show(gu ?d).symm
     |cons w C e=>
      rw[Lj]at a;cases a
   rw[X]at b
   wp_walk
   show(_,Z,by simpa[avh]using b)
  case h=>
   show(rfl,Z,c.toList,d.toList,p,o,Z,H,T,by lia,h)
end
section
variable{dm:eP}{w:dZ}{A:eV}{E:J->aO->Prop}{s:aO}
def ak8{l d:S}{c:J->aO->Prop}(v:FA s.1 l e)(r:FA s.1 d f)(t:yX e.toList b)(u:yX f.toList a)(x:A.units<pS)(h:c (.bool (i5 b a)) s):?ax (nU .LtE ?bk ?J) c:=by let((P,p,X,B),n,i,y,k):=id v;let((T,q,j,C),o,j,z,m):=id r;simp only at i k j m;subst i k j m;show richCompare_meets_room (op:=.LtE) (_,n,Z) (_,o,Z) PySem.F.slot_tuple_le PySem.F.entry_tuple_le (PySem.F.args_tuple_le_2 _ _) (ahN l d e f y z p q B C b a t u) (n,o,show yL (i5 b a)≠J.notImplemented/\c (.bool (i5 b a)) s from((λH=>nomatch H),h)) x
end
end HT
namespace L2
variable{X:Cx}
def S1(b:cp):R2:=λi j a h=>mr λc d f e=>i=?aC/\j=?J/\cZ b a c (f.map V.int)/\cZ b a d (e.map V.int)/\h (.bl (HT.i5 f e)) a
def ass(i:X.A.units<pS):ly X (nU .LtE) (S1 X.K):=by intro x y E d B C A z u a s t h;let(v,w,c,b,0,0,e,f,p):=h;cases s;cases t;let(l,q,n,_):=a.tuple e;let(m,r,o,_):=a.tuple f;let j:yX l.toArray.toList c:=intsAre_of q;let k:yX m.toArray.toList b:=intsAre_of r;show HT.ak8 n o j k i (.bl (HT.i5 c b),d,a,Z,p)
def apv{c:Nat}(b:ii c a):a.units<pS:=aeJ (BJ _ 64) b.units
end L2
namespace PySem
open PySem.SeqAt
open PySem.AutoSeq1 (wpAny_loadPart')
open PySem.MeetsSeq PySem.MeetsSeq2 PySem.MeetsSeq3
def ami(j:Nat->e->Sem (ForInStep e))(d:?dK->e->aO->Prop)(f:e->aO->Prop)(turn:∀o rest a b,d (o::rest) a b->bH m k (j o a) (λq n=>match q with|.yield i=>d rest i n|.done i=>f i n) l b)(fin:∀a b,d [] a b->f a b)(c:Nat)(a:e)(h:d (BW 0 c 1) a b):bH m k (forIn [:c] a j) f l b:=by
 rw[avf];let p:BW ([:c]:Sx).start ([:c]:Sx).size ([:c]:Sx).step=BW 0 c 1:=by
  change BW 0 ((c-0+1-1)/1) 1=_;simp
 rw[p];show afE j d f turn fin _ a h
def ahM(l:S)(a:?dD)(H:Nat)(s:?iD)(b:Array ?bH)(q:J)(j:J->Bool)(e:Nat)(f:e<Q a)(y:j a[e]=M)(A:∀m (i:m<Q a),m<e->j a[m]=I):Meets (Builtin.«tuple.index» ([?bk,q],[])) (λo p d=>d.1.get? l=Y {cls:=?ay,dict:=s,data:=.seq a H,slots:=b}/\(∀c,c∈a->EqAt o.in1 d c q (j c))/\p (.ok (.ret (.int e d.toks))) {d with toks:=d.toks+1}):=
 .of_wp λT j o p d h=>by
  let(B,g,r,b,P):=d;let(z,w,h):=h
  wp_walk using uj z,ami _ (λrest i n=>i.1=U/\n=(B,g,r,b,P)/\∃b,b<=e/\rest=BW b (Q a-b) 1) _
  case turn=>
   intro c rest i n ξ;let(v,0,b,x,f):=ξ;let k:b<Q a:=by lia
   let C:BW b (Q a-b) 1=b::BW ?a4 (Q a-?a4) 1:=by
    have:Q a-b=(Q a-?a4)+1:=by lia
    rw[this];rfl
   rw[C]at f;injection f with t u;subst t;let E:a[c]?=Y a[c]:=by simp[k]
   rw[E];show bC (w a[c] (Array.getElem_mem k) T j _ _ ?_);by_cases X:c=e
   .subst X;rw[y]
    wp_walk
    show(_,Z,h)
   .rw[A c k ?d]
    wp_walk
    show(rfl,Z,c+1,by lia,u)
  case fin=>
   intro i n ξ;let(v,0,b,x,f):=ξ;have:=fL R f;simp at this
   lia
  case h=>
   show(rfl,Z,0,gI _,by simp)
end PySem
namespace L2
section
variable{X:Cx}
def G3(e:cp):V->?au->L->VK->Prop:=λh i c f=>gG λ(d:S) (b:?au) (a:V)=>h=V.ref d/\i=[a]/\cZ e c d b/\qp a=M/\b.all qp=M/\f (.int (b.countP λj=>qW j a:Nat)) c
def Xs(k:RelV a f)(j:qp a=M)(h:a_ c d):c.all qp=M->d.countP (ub a)=c.countP λi=>qW i a:=by
 induction h with
 |nil=>show λ_=>rfl
 |cons e l ih=>
  intro b;rw[um,ik]at b;rw[afr,afr,ih b.2,Fq e b.1]
def amC:FV X "tuple.count" (G3 X.K):=by
 intro T a a m a a a a C b v w h;let(n,A,a,0,0,q,c,d,t):=h;cases v;cases w with
 |cons l u=>
  rename_i z e;cases u;let(j,k,((E,o,H,x),i,e,s,f),P):=b.tuple q;simp only at e f;subst e f;show El U7 (_,i,Z) PySem.F.entry_tuple_count (PySem.F.args_tuple_count_2 _ _) (SeqAt.tuple_countAt n j.toArray s o x z (ub a)) (i,λy r=>ET l c k d y (by simpa using r),?_)
  show(.int _,m,b.tok _,?f0,?_);let p:j.toArray.toList.countP (ub a)=A.countP λB=>qW B a:=Xs l c k d;rw[p];show t
def IY(j:cp):V->?au->L->VK->Prop:=λl m d k=>mv λ(e:S) (b:?au) (a:V) (c:Nat) (h:V)=>l=V.ref e/\m=[a]/\cZ j d e b/\qp a=M/\b.all qp=M/\b[c]?=Y h/\qW h a=M/\(∀(f:Nat) (i:V),f<c->b[f]?=Y i->qW i a=I)/\k (.int (c:Nat)) d
def Ze:FV X "tuple.index" (IY X.K):=by
 intro a a a p a a a a a k a b h;let(q,j,x,i,c,0,0,B,s,e,o,P,A,a0):=h;cases a;cases b with
 |cons d a=>
  rename_i w b;cases a;let(b,c,((a,r,a,f),n,l,T,m),a):=k.tuple B;simp only at l m;subst l m;let(l,C,a):=c.get o;let(v,u):=ig.mp C;let m:=c.length;let t:i<Q b.toArray:=by simpa using v
  show El QK (_,n,Z) PySem.F.entry_tuple_index (PySem.F.args_tuple_index_2 _ _) (ahM q b.toArray T r f w (ub x) i t ?_ ?_) (n,λf E=>ET d s c e f (by simpa using E),?_)
  .let d:b.toArray[i]=l:=by simpa using u
   rw[d,Fq a (E3 e o)];show P
  .intro a w y;let f:a<R b:=by simpa using w
   let z:a<R j:=by lia
   let f:j[a]?=Y j[a]:=gv z;let(j,H,i):=c.get f;let(_,x):=ig.mp H;let d:b.toArray[a]=j:=by simpa using x
   rw[d,Fq i (E3 e f)];show A a _ y f
  show(.int _,p,k.tok _,?f0,a0)
end
section
variable{X:Cx}{e:dz}{te:TE}{p p2 pos:Pos}
def S5(h:V->L->(Bool->Prop)->Prop)(b:String)(te:TE):TE:=Qp (λi a d=>∃c,i=[c,.ty b]/\h c a λf=>d (.bl f) a) (JK te (JK (tC (.ty b)) vH))
def isInt(c:cp):V->L->(Bool->Prop)->Prop:=λf h d=>(∃k,f=.int k/\d M)\/(bN λa l=>f=?s/\cZ c h a l/\d I)\/mr λa b i j=>f=?s/\h a=Y (.ins b i j)/\jO c b/\m8 c b/\d I
def P0(f:cp):V->L->(Bool->Prop)->Prop:=λc d a=>(∃h,c=.int h/\a I)\/bN λb i=>c=?av/\cZ f d b i/\a M
def Nr(w:?jr "isinstance")(y:X.mg "isinstance"=U)(x:?jr "int")(z:X.mg "int"=U)(he:?am e te)(l:?arf (?G [e,.Name "int" p2]=?de::?G [.Name "int" p2])):?am (?as (?cN "isinstance") [e,.Name "int" p2] pos) (S5 (isInt X.K) "int" te):=by
 show gq (he:=l) (r:=λm b j=>∃i,m=[i,.ty "int"]/\isInt X.K i b λs=>j (.bl s) b) (λa a a b m a j c r a=>?_) w y aga (F he (?q (F6 (v:=.ty "int") x z av1 Z)) l);let(i,0,a):=a;cases r with
 |cons f h=>
  cases h with
  |cons C h=>
   cases h;cases C;rcases a with⟨d,rfl,a⟩|⟨q,d,rfl,B,a⟩|⟨q,E,H,P,rfl,t,k,d,a⟩
   .let(h,0):=f;show av3 (.bl M,b,c,Z,a)
   .cases f;let(h,h,(h,A,u,_),_):=c.tuple B;show avX A u (.bl I,b,c.tok _,Z,a)
   cases f;let(f,o,_,_,_,_):=IN c.bU t;let(f,n,T):=o.i8;show PySem.W.kin_callT c.iH n d.nt PySem.F.isi_meta_int (k.get _) k.hd d.ha d.hn d.4 d.hm (.bl I,b,c.tok _,Z,a)
def aiJ(n:?jr "isinstance")(q:X.mg "isinstance"=U)(o:?jr "tuple")(s:X.mg "tuple"=U)(he:?am e te)(i:?arf (?G [e,.Name "tuple" p2]=?de::?G [.Name "tuple" p2])):?am (?as (?cN "isinstance") [e,.Name "tuple" p2] pos) (S5 (P0 X.K) "tuple" te):=by
 show gq (he:=i) (r:=λk b h=>∃f,k=[f,.ty "tuple"]/\P0 X.K f b λl=>h (.bl l) b) (λB E a b k P h c r a=>?_) n q aga (F he (?q (F6 (v:=.ty "tuple") o s Au Z)) i);let(f,0,a):=a;cases r with
 |cons j d=>
  cases d with
  |cons w d=>
   cases d;cases w;rcases a with⟨y,rfl,a⟩|⟨x,T,rfl,u,a⟩
   .let(H,0):=j;show avW (.bl I,b,c.tok _,Z,a)
   cases j;let(z,C,(A,t,m,_),_):=c.tuple u;show avH t m (.bl M,b,c,Z,a)
end
theorem Zb{d e:Type}(a:d->e):∀(l:List d) (b:Nat),(l.map a).eraseIdx b=(l.eraseIdx b).map a
 |[],_=>rfl
 |_::_,0=>rfl
 |c::l,b+1=>by
  change a c::(l.map a).eraseIdx b=a c::(l.eraseIdx b).map a;rw[Zb a l b]
section
variable{dm:eP}{w:dZ}{K:Type}[DecidableEq K]{mS:HeapKind dm w K}{A:eV}{E:J->aO->Prop}{s:aO}
def apm{f:Nat}{r:Option rj->aO->Prop}(v:mS.room A)(u:mS.is s.1 b t)(T:?gA h c)(o:c[f]?=Y (b,q))(X:R c<=cw)(y:∀n,(gG λk a m=>n.get? h=Y k/\k.ExactDict/\k.data=.dict a m/\a.toList=(c.eraseIdx f).map (Nd mS)/\((c.eraseIdx f).map (·.1)).Nodup)->xf h s.1 n->r (Y (Nd mS (b,q))) {s with heap:=n,toks:=s.toks+mS.draws b}):?ax (X7 h (.ref t)) r:=by
 let(k,a,m,j,z,d,i,P,p):=T;let B:Q a<=cw:=by rw[GT i];show X
 unfold X7
 try with_reducible refine wZ ?_
 show bC (mS.pyHash v u ?_);show bC (wpAny_dictFind_heap (s:={s with toks:=s.toks+mS.draws b}) v u j d i P p (λe=>bK o (e f q)) λe h C=>?_);let H:e=f:=idxH_unique p C o;subst H;show bC (DN (s:={s with toks:=s.toks+mS.draws b}) j d ?_);rw[entry_at i e,o];show bC (wpAny_updateDictKeys (hz:=B) (s:={s with toks:=s.toks+mS.draws b}) j d (dA (y _ (_,_,m+1,Bz _ j (Obj.isFreed_of_dict (Y1 d _)),z.mapDictKeys _,Y1 d _,?_,?_) (Gz ..))))
 .let x:(a.eraseIdxIfInBounds e).toList=a.toList.eraseIdx e:=by let⟨l⟩:=a;simp
  rw[x,i,Zb]
 show av9 ((List.eraseIdx_sublist c e).map _) p
def agt{k:K}(X:(b==nS)=I):MeetsIn dm w (Builtin.«dict.pop» ⟨[?av,?bL],[]⟩) (λA m s=>gG λa e l=>mS.room A.in1/\mS.is s.1 k f/\?gA b a/\R a<=cw/\a[e]?=Y (axa k l)/\∀d,(gG λi c n=>d.get? b=Y i/\i.ExactDict/\i.data=.dict c n/\c.toList=(a.eraseIdx e).map (Nd mS)/\((a.eraseIdx e).map (·.1)).Nodup)->xf b s.1 d->m (.ok (.ret l.2)) {s with heap:=d,toks:=s.toks+mS.draws k}):=
 .of_wp λA m s H=>by
  let⟨a,e,l,y,r,j,x,o,h⟩:=H;let⟨i,c,n,u,T,p,q,i,i⟩:=id j;unfold Builtin.«dict.pop»;show ?ju;unfold avo;show bC (X4 j.typeIs ?_);change ?aE (pure (axa b (axa (dR f) U))) s;show ?ek;let v:(keyPart (dR f)).isSome=I:=rfl;simp only[v,yt,if_false];show bC (DN u p (bC ?ek));let t:c.isEmpty=I:=by
   let P:=GT q;let b:e<R a:=(ig.mp o).1;rcases z:c.isEmpty with _|_
   .rfl
   rw[Array.isEmpty_iff_size_eq_zero]at z
   lia
  rw[t];simp only[yt,if_false];show bC (apm y r j o x λd B C=>?_);simp only[Option.isNone_some,yt,if_false];show bC (Wl (dA ⟨_,Z,h d B C⟩))
end
def aru{i:Type}[DecidableEq i]{e:List (i×V)}{a:i}{f:V}(h:eQ e a=Y f):∃d:Nat,e[d]?=Y (a,f):=by
 unfold eQ at h;rcases c:e.find? λb=>decide (b.1=a)with _|b
 .rw[c]at h;cases h
 rw[c]at h;let(d,m,j):=oA (Bv c);let k:b.1=a:=by simpa using BK c
 let l:b.2=f:=gR h;show(d,?_);rw[gv m,j,<-k,<-l]
theorem MM{f:Type}[DecidableEq f]:∀{c:List (f×V)} {a:Nat} {k:f} {v:V},(c.map (·.1)).Nodup->c[a]?=Y (k,v)->c.eraseIdx a=qo c k
 |[],a,k,v,_,h=>by simp at h
 |d::e,0,k,v,b,h=>by
  let j:d=(k,v):=gR h;rw[iF,iu]at b;subst j;rw[amc Z,ZN b.1];rfl
 |d::e,a+1,k,v,b,h=>by
  rw[iF,iu]at b;let i:e[a]?=Y (k,v):=h;let l:¬d.1=k:=λm=>b.1 (eM.mpr ((k,v),lW i,m.symm));rw[YM l];change d::e.eraseIdx a=_;rw[MM b.2 i]
theorem jb.erase{f h:Type}{c:f->h->Prop}:∀{d:List f} {e:List h} (a:Nat),jb c d e->jb c (d.eraseIdx a) (e.eraseIdx a)
 |_,_,_,.nil=>.nil
 |_,_,0,.cons _ b=>b
 |_,_,a+1,.cons i b=>.cons i (jb.erase a b)
def aa8(h:KT c a b):a.map (·.1)=b.map (·.1):=by
 induction h with
 |nil=>rfl
 |cons d e ih=>rw[iF,iF,ih,d.1]
section
variable{X:Cx}{o e:dz}{td ty:TE}{gQ gF:Pos}
def as1(td ty:TE):TE:=λj k l=>td j k λm f=>∃a,m=?s/\IsD f a/\ty j f λn b=>mr λd c h i=>b a=Y (.dT d)/\n=?dM/\b h=Y (.tup (c.map kV))/\eQ d c=Y i/\l i (D b a (.dT (qo d c)))
def aoz(b2:X.A.units+1<pS)(b0:?am o td)(a9:?am e ty)(a:M1 X o "pop" gQ e gF):?am (?as (?dq "pop" gQ) [e] gF) (as1 td ty):=by
 intro x c6 y z d5 B h;show wpAny_Call_method a.base a.gM a.line PySem.F.plainAttrs_dict W6 PySem.F.type_dict_pop (df (b0 x c6 y z _ B h) λd2 c7 c1=>?_);let(e3,A,s,c4,C,a3,E,c0):=c1;subst a3;obtain rfl:d2=dR C:=c4;let(d0,d1,_):=ar5 s E;show(d0,d1,?_);rw[a.4];show KJ Z (Rc (RC (df (a9 x c7 y A _ s c0) λe1 e2 c2=>?_)));let(e4,d4,i,c5,q,k,d6,d3,m,a4,a0,l,c3):=c2;show RQ ?_;subst a4;cases c5;let(f,t,d,c,j):=O8 i.bU m;let b4:R d<=cw:=by rw[<-vV c];show f
 let(p,n):=aru l;let((b5,w),b3,P,d7,T):=pK c n;obtain rfl:k=b5:=P;let v:(q.map (·.1)).Nodup:=by
  let e:q.map (·.1)=d.map (·.1):=aa8 c;let(_,_,_,_,_,_,_,_,b6):=j;rw[e];show b6
 show call_meetsIn W6 j.typeIs PySem.F.entry_dict_pop (PySem.F.args_dict_pop_2 _ _) (agt (mS:=Ew (pM X.1 X.w)) (k:=k) t) (d,p,w,GG b2,CQ i.bU a0,j,b4,b3,λe0 H b1=>?_);let(r,a2,a1,u,a5,a6,a7,a8):=H;show(d3,_,OF i (by rw[m];show yK) b1 (r,u) (ob:=.dT (qo q k)) (?_,t,d.eraseIdx p,?_,r,a2,a1,u,a5,a6,a7,a8),T,c3)
 .rw[<-MM v n];show fZ (by rw[List.length_eraseIdx];split<;>lia) f
 rw[<-MM v n];show jb.lu (jb.erase p c) λw r b=>(b.1,?_,b.2.2);rw[cY (gW b.2.1 m (λf=>nomatch f))];show b.2.1
end
end L2
namespace PySem
open PySem.Sem (wp)
open PySem.AutoSeq1 (wpAny_loadPart')
section
variable{dm:eP}{w:dZ}{A:eV}{E:J->aO->Prop}{s:aO}
def afo{a l:S}{d:Nat}{i}{x:J}{h:J->aO->Prop}(f:s.1.IsTupleIter a l d)(n:s.1.IsTuple l i)(p:i[d]?=Y x)(j:∀e,e.IsTupleIter a l (d+1)->xf a s.1 e->h x {s with heap:=e}):?ax (KE ?s) h:=by
 let(r,c,k,b):=id f;let(t,o,_,q,m):=n;show bC (?ei f.typeIs KA (wU KA f.typeIs T_ ?_ (T8 _)))
 change ?aE (field ?s 0>>=_) s;show bC (rf c b (x:=?bk) Z ?_);show bC (rf c b (x:=?gV 0) Z ?_);change ?aE (seqItems? ?bk>>=_) s;show bC (TQ o m ?_);simp only[uh,p];show bC (wX c b ?c (dA (x,Z,dA (j _ ?_ (Gz ..)))))
 show(_,Bz _ c (Gr (yu b _)),(Ly ..).trans k,by
  rw[yu b];simp[nX])
def SL{b l:S}{h:Nat}{n}(k:A.handled=U)(e:s.1.IsTupleIter b l h)(r:s.1.IsTuple l n)(u:n[h]?=U)(p:∀c j,Wi b s.1 c->(∃i,c.get? j=Y i/\i.cls=.type "StopIteration")->E ?dh {s with heap:=c}):?ax (KE ?av) o:=by
 let(i,f,v,d):=id e;let(z,t,_,y,q):=r;show bC (?ei e.typeIs KA (wU KA e.typeIs T_ ?_ (T8 _)))
 change ?aE (field ?av 0>>=_) s;show bC (rf f d (x:=?bk) Z ?_);rw[bp (show¬((dR l==jL)=M)from kU)];change ?aE (field ?av 1>>=_) s;show bC (rf f d (x:=.int h 0) Z ?_);show bC (TQ t q ?_);simp only[uh,u];show bC (Nf (bC (wX f d ?c ?_)))
 change ?aE (newExc (.type "StopIteration") []>>=_) _;show ?ju;simp only[newExc,newTuple];show bC ?im
 show ?fj
 show ?im
 simp only[Ib];show bC (Ut ?_)
 first|rw[show A.in1.handled=U from k]|rw[k]
 show bC (dA (MJ ?_));show ?il (((Gz ..).extBut.push _).push _) (_,?dd,Z)
def ame{a c l:S}{e:Nat}{f:?bH->aO->Prop}(o:A.handled=U)(i:Je s.1 a c e y)(p:s.1.IsTupleIter c l e)(q:s.1.IsTuple l j)(t:j[e]?=U)(k:∀d,Wi c s.1 d->f U {s with heap:=d}):?ax (zp ?s) f:=by
 let h:s.TypeIs ?s "enumerate":=(_,i,Z);unfold zp;show bC (Mi (?ei h W2 (wU W2 h F.entry_enumerate_next ?_ (F.args_enumerate_next_1 _))))
 change ?aE (field ?s 2>>=_) _;show bC (rf i Z (x:=?aC) Z ?_);show bC (SL o p q t λd x n u=>?_);let(v,r,m):=u;show bC (Sz (T:="StopIteration") (b:=M) (v,r,m) isSubtype_stop ?_);show dA (k _ n)
end
def amb{A:eV}(s:A.handled=U)(c l:S)(u:l≠c)(e:?dD):Draws w z A c [c,l] e.size (λb y=>e[b]?=Y y) (λb h=>h.IsTupleIter c l b/\h.IsTuple l e)where
 live:=λ_ _ a=>let(d,v,_):=a.1;(d,v)
 frame:=λ_ _ _ a j=>(a.1.at λd f=>j c ?c d f,a.2.at λd f=>j l ?c d f)
 item:=λb m o n i a r=>by
  show afo a.1 a.2 (x:=e[b]) ?fo λp t k=>?_
  show r _ p m.toks ?fo (t,a.2.extBut k.extBut u) k
 done:=λm o n a q=>SL s a.1 a.2 ?c q
def ctt{a:Bool->aO->Prop}(h:∀f,a f b):bH e c (cD i) a d b:=by unfold cD;show bC (wpAny_stack_any λj=>dA (h _))
def agV(l:S)(d:?dD)(e:Nat)(j:?iD)(o:Array ?bH):Meets (Builtin.«enumerate.__new__» ([?iH,?bk],[])) (λ_ c a=>a.1.get? l=Y {cls:=?ay,dict:=j,data:=.seq d e,slots:=o}/\c (.ok (.ret (.ref (?gc).1.size))) {a with heap:=(?gc).push {cls:=?iH,data:=.fields #[.none,.bool I,?jk,nX 0,.none,.none]}}):=
 .of_wp λs t q c a h=>by
  let(m,g,i,p,n):=a;let(b,h):=h
  let r:=sub_enumerate;let k:dg.IsTuple (aO.heap (m,g,i,p,n)) l d:=(_,b,Z,e,Z)
  wp_walk using uj b,ctt
  intro f;cases f<;>(wp_walk using uj b,Lm k;show(_,Z,h))
section
variable{dm:eP}{w:dZ}{A:eV}{E:J->aO->Prop}{s:aO}
def aeU{l:S}{i:J->aO->Prop}(q:s.1.IsTuple l f)(h:∀a,Je a ?gi s.1.1.size 0 .none->a.IsTupleIter s.1.1.size l 0->Q a.1=?O+2->(∀b o,?fh=Y o->a.get? b=Y o)->i (.ref ?gi) {s with heap:=a}):?ax (px ?iH [?bk]) i:=by
 let((m,n,p,u),r,c,k,d):=q
 replace c:m=?ay:=c
 replace d:p=.seq f k:=d
 subst c d;show callType_new F.called_enumerate ?i (F.typeCall_enumerate_1 _) (F.newCall_enumerate_1 _) (λt=>F.args_object_init_2 t _) F.entry_enumerate_new (agV l f k n u) (r,?_)
 let e:(?ce).1.size=?O+1:=qb ..;change _/\_;rw[e];let j:Je ((?ce).push {cls:=?iH,data:=.fields #[.none,.bool I,?cs,nX 0,.none,.none]}) ?gi s.1.1.size 0 .none:=by
  have:=kh ?ce (o:={cls:=?iH,data:=.fields #[.none,.bool I,?cs,nX 0,.none,.none]}) Z;rw[e]at this;lia
 show((_,j,Z),h _ j (_,?e1 ?dd,Z,Z) (by rw[qb,e]) λb o v=>?e1 (?e1 v))
end
end PySem
namespace L2
def FU(e:cp)(h:S):It:=
 (λc b=>bN λ(a:?au) (d:V)=>cZ e b h a/\a[c]?=Y d,λc b j i=>bN λf d=>j=?bL/\b f=U/\i=D b f (.tup [.int (c:Nat),d])/\∀a,cZ e b h a->a[c]?=Y d,λc b=>∃a:List V,cZ e b h a/\R a<=c)
def alQ{f:Nat}(m i d:S):i6 c k a (.Tuple e f j) (FU a m) [i,d] i (λb h=>(∃t,Je h i d ((b:Nat):Int) t)/\h.IsTupleIter d m b/\i≠d)where
 mem:=by simp
 obj:=λb h l e j=>by
  let((t,f),(p,a4,r,k),_):=l;let a0:e=i\/e=d:=by simpa using j
  rcases a0 with a|a
  .rw[a];show(_,f,λn c=>nomatch c)
  .rw[a];show(p,a4,λn c=>by rw[k]at c;cases c)
 keep:=λb h a1 l k=>let((t,f),o,n):=l;((t,k i (by simp) _ f),o.at λp c=>k d (by simp) p c,n)
 item:=by
  intro u q a5 a2 r b a8 s b1 X a6 k z l a3;subst q a5 a2;let((t,f),v,n):=l;let(b0,P,B,C):=a3;let(o,E,w,b6):=k.tuple B;let(a9,b4,c0):=E.get C;let a7:i<Q s.1.1:=fS f;let b3:d<Q s.1.1:=by let(_,c,_):=v;show fS c
  let T:m≠d:=λa=>by
   let(p,c,r,_):=v;let(b5,x,y,_):=(show s.1.IsTuple m o.toArray from w);rw[a,c]at x;cases x;rw[r]at y;injection y with H;lia
  let b2:i≠m:=λa=>by
   let(b5,x,y,_):=(show s.1.IsTuple m o.toArray from w);rw[<-a,f]at x;cases x;injection y with H;show bK H (by decide)
  let x:Q o.toArray=R b0:=by rw[jK];show E.length.symm
  let y:b<Q o.toArray:=by rw[x];show(ig.mp C).1
  show wpAny_pyNext_enum_itemD (amb (A:=u.A.in1) (k.ok.hd r) d m T o.toArray) f (v,w) y n (by simp[n,b2]) λT a1 H q a4 y b2 m b5=>?_
  let x:T=a9:=by
   let m:o.toArray[b]?=Y a9:=by simpa using b4
   rw[m]at q;show(gR q).symm
  subst x;let b4:=y.1;show(_,Z,U4 (s:={s with heap:=a1,toks:=H+1}) a4 λx a9 y=>?_);let a4:x.get? (Q s.1.1)=Y {cls:=.type "tuple",data:=.seq #[.int b H,T]}:=(y.2 _ (Hh a7)).trans b2;let b2:jt u.1 u.w (D X s.1.1.size (.tup [.int (b:Nat),P])) x s.1.1.size (.tup [.int (b:Nat),P]):=
   (by change 2<=cw;decide,[.int b H,T],.cons (_,Z) (.cons c0 .nil),(_,a4,Z,_,Z),_,a4,Z)
  let a4:Inv u a8 b1 (D X s.1.1.size (.tup [.int (b:Nat),P])) {s with heap:=x,toks:=H+1}:=
   k.NQ (ch:=[i,d]) (λe x j c=>(y.2 e (λa=>j (by simp[a]))).trans (b5 e x (λa=>j (by simp[a])) (λa=>j (by simp[a])) c)) z (dQ _) b2
  show(.ref s.1.1.size,_,a4,Z,(_,P,Z,k.bU.fresh (dQ _),Z,λx x=>by rw[k.Zv x B];show C),((T,?_),b4.at λp c=>(y.2 d (bI n)).trans c,n),λe j=>?_)
  .let m:((b+1:Nat):Int)=(b:Int)+1:=by lia
   show a9
  .let m:e<Q s.1.1:=by
    let a0:e=i\/e=d:=by simpa using j
    rcases a0 with a|a
    .rw[a];show a7
    .rw[a];show b3
   rw[cY (jS m)];show(z e j).1
 done:=by
  intro u q a5 a2 r b a8 s b1 X a6 k z l a3;subst q a5 a2;let((t,f),v,n):=l;let(b0,B,C):=a3;let(o,E,w,b6):=k.tuple B;let(i,m,a,n,o,q):=z d (by simp)
  let a:=E.length;show ame (k.ok.hd r) f v w (by simp;lia) λa1 a=>(rfl,k.turned (t':=s.toks) (λe p j c=>a e p j c) i m n o q)
 self:=λA b s a a6 l h=>let((_,f),_):=l;LA f h
def arY(c:cp)(f:TA):TI:=λj d e=>f j d λh b=>bN λa i=>h=[?s]/\cZ c b a i/\e (FU c a) b
def aoD{T pos a:Pos}{P:Nat}(y:Gl b "enumerate")(B:b.mg "enumerate"=U)(w:PA b [d] o)(E:?arf (dP [d] b.env=[(I,dU d b.env)])):PI b (.Tuple t P a) (?as (.Name "enumerate" T) [d] pos) (arY b.K o):=by
 intro n a p q c j h;show AN (wz j y B boot_enumerate (Ae (df (w pos n a p q _ j h) λa a d=>?_) E Z));let(c,i,c,f,e):=d;let(k,d,u,C,d):=e;subst u;cases f with
 |cons e f=>
  cases f;cases e;let(H,e,X,e):=c.tuple C;show aeU (show a.1.IsTuple k H.toArray from X) λv l z e A=>LA l ?_;let r:Inv b n p i {a with heap:=v}:=c.kept (t':=a.toks) A;show(?b0+1,[?b0+1,a.1.1.size],_,_,i,Z,r,alQ k ?N a.1.1.size,((.none,l),z,afy _),λe x=>?_,d);let s:e=?b0+1\/e=?b0:=by simpa using x
  let m:?b0<=e:=by
   rcases s with f|f
   .rw[f];show BJ _ _
   rw[f];show ?a2
  show c.yf m (c.bU.fresh m)
def amj{K:cp}{a:S}{xs:?au}{g:TG}{v:TS}{i:h_}{d:St}{c:L}(e:Nat->St->L->Prop)(x:e 0 d c)(B:∀b d c,b<=?fH->e b d c->cZ K c a xs)(C:∀b j k d c,xs[b]?=Y j->c k=U->e b d c->g ?gM d (D c k (.tup [.int (b:Nat),j])) λs l=>v {i with nx:=e ?a4,ct:=e ?a4,bk:=i.nx} s l)(z:∀d c,e xs.length d c->i.nx d c):∃W:Nat->Nat->St->L->Prop,(∃h,W 0 h d c)/\∀b h d c,W b h d c->((FU K a).stop b c/\i.nx d c)\/((FU K a).go b c/\∃m:St->L->Prop,(∀r f,m r f->∃u,u<h/\W ?a4 u r f)/\∀j f,(FU K a).2 b c j f->g j d f λs l=>?fQ):=by
 show ?fG
 intro b h d c ξ;let(0,A,o):=ξ;let p:=B b d c A o;by_cases t:b<?fH
 .show ?eW
  let(k,H,n,y,w,q):=q;subst n w;show C b H k d c (q xs p) y o
 let n:b=?fH:=by lia
 subst n;show .inl ((xs,p,?a2),z d c o)
section
variable{X:Cx}{K:cp}{e o:dz}{es:List dz}{ta to:TE}{t:TA}{f name:Str}{pos gQ gF:Pos}{T id:String}{r:V->List V->L->VK->Prop}
def OP(a:X.K=K)(c:?am e ta)(b:yF e f X.env (?V e)=?V e):?am (.Attribute e f pos) (S4 K ta f):=by rw[<-a];show bL c b
def PJ(n:PI X d e l)(p:PI X d e m):PI X d e (λc a b=>l c a b\/m c a b):=λj k c a b i h=>h.elim (n j k c a b i) (p j k c a b i)
def TupAt(K:cp)(b:L)(a:S):=(∃c,b a=Y (.tup c))\/∃o,K.lookup a=Y o/\o.cls=?ay/\o.dict=U
def auF(K:cp)(r:V->?au->L->VK->Prop)(to:TE)(t:TA):TE:=λd h j=>to d h λc a=>(∃b,c=?av/\TupAt K a b)/\t d a λk i=>r c k i j
def Ph(B:X.K=K)(a1:Slot "tuple" name id)(s:Jh (.builtin id)=?gw)(a0:FV X id r)(b:?am o to)(C:?dA)(E:?arf (yF o name X.env (?V o)=?V o))(H:?arf (((iS gF (?G ?ah)).all (λj=>!j.1)&&(?bG gF).all (λj=>j.1.isSome)&&?ey)=M))(a:?arf ((gQ.endLine==gF.line)=M))(x:?arf (?G ?ah=?de::?G es))(v:?arf ((iS gF (?G es)).any (·.1)=I)):?am (?as (?dq name gQ) ?ah gF) (auF K r to t):=by
 subst B;intro l c n u y w h;show V9 E H a Z (df (b l c n u _ w h) λa m a=>?_);let(j,p,k,b,(i,z,c),u):=a;subst z;cases b;let A:∃a,m.1.get? i=Y a/\a.cls=?ay/\a.dict=U:=by
  rcases c with⟨w,j⟩|⟨a,P,c,d⟩
  .let(_,_,_,(a,b,c,_),q,q,d):=(show ?g3 p m.1 i (.tup w)from k.bU i _ j);rw[b]at q;cases q;show(a,b,c,d)
  show(a,k.iH _ _ P,c,d)
 let(a,b,c,d):=A;show("tuple",id,PySem.F.plainAttrs_tuple,a1,s,(a,b,c),(λc c=>by cases c;show(a,b,d)),?_)
 let s:=C gF l m n p _ k u;rw[x]at s ⊢;show KJ (by change(I||(iS gF (?G es)).any (·.1))=I;rw[v]<;>rfl) (Rc ?_)
 show df s λj d a=>?_;let(k,v,x,c,b):=a;show a0 l d n v ?iB k _ j y x Z c b
def zH(K:cp):?au->L->VK->Prop:=λh a d=>bN λb c=>h=[?av]/\cJ K a b c/\∀l,a l=U->d ?bk (D a l (.tup c))
def Ax:qN X ?ay (zH X.K):=by show λj m s a p n c b l k=>?_;let(i,q,e,h,d):=k;show ahl j m s a p n c b l (i,q,e,.inl (h,d))
def anH(a:X.f6=M):qN X (.builtin "all") (R5 X.K):=arI a
def anI(a:X.f6=M):qN X (.builtin "any") (R6 X.K):=arJ a
end
end L2
namespace Sm
def apY{m:L}{n:S->S->V->Prop}[k:FO e a d](h:m c=Y (.ins a o i))(l:i.lookup d=Y j)(s:n c a j):mv λf b r p q=>V.ref c=?bL/\m f=Y (.ins b r p)/\jO e b/\eA e b d/\p.lookup d=Y q/\n f b q:=(c,a,o,i,j,Z,h,k.cl,k.no,l,s)
theorem zg(a:Bool):(V.int (vL a)=V.int 1)<->a=M:=by cases a<;>simp[vL]
def akr:Sp:=kq λf h a e _=>gG λ(d:S) (b:Nat) (c:j3)=>f=?J/\h=?dk/\sx a d c/\e (.bl (Cn b c)) a
example:fP UU ah6 T.aio VV 1 "term_holds" ((akr)) ["term","size"] ["told","inside"] (bx (?n 2 UU.nd (vA (qI (?B jV ?l bP) ?a9 (jW Jt ?a9 ?l)))) (bx (?n 3 UU.nd (u_ wG wG ?l ?dr ?l)) (bw (dM (vA (qI (?B jV ?l bP) (M_ ?gH) ?gH)))))):=by
 let(r,l,a,0,0,(p,q),k):=h;show(λd c=>H=c/\d=.int ((if a.modulus=0 then l else l %a.modulus:Nat):Int),?_,?_)
 .lk;show hU (λe=>?_) (λe=>?_)
  .lk;rw[bz ?dx]
  let j:¬a.modulus=0:=by simpa using e
  lk;show(Int.natCast_pos.mpr (Nat.pos_of_ne_zero j),Z,?_);rw[bp j];rfl
 intro d c ξ;let(0,0):=ξ;generalize o:(if a.modulus=0 then l else l %a.modulus)=n;let m:Cn l a=((decide (a.low<=n)&&decide (n<=a.high))!=a.outside):=by unfold Cn;rw[<-o]
 rw[m]at k;lk;show hU (λe=>?_) (λe=>?_)
 .let j:a.low<=n:=by simpa using e
  lk;show(λd c=>H=c/\d=.bl (decide (n<=a.high)!=a.outside),?_,?_)
  .lk;show ?bs
   .rw[zg]at b;lk;rw[b];simp
   rw[zg]at b;lk;simp at b;rw[b];simp
  intro d c ξ;let(0,0):=ξ;rw[im j,Ak]at k;show k
 let j:¬a.low<=n:=by simpa using e
 show(λd c=>H=c/\d=.bl (I !=a.outside),?_,?_)
 .lk;show ?bs
  .rw[zg]at b;lk;rw[b];simp
  rw[zg]at b;lk;simp at b;rw[b];simp
 intro d c ξ;let(0,0):=ξ;rw[gu j,TF]at k;show k
def alw:Sp:=kq λe f a d _=>gG λ(l:S) (b:Int) (c:List j3)=>e=?bk/\f=?dk/\zf a l c/\d (.int (As c b)) a
example:fP DU Uu T.aho UM 2 "category_of" ((alw)) ["terms","value"] ["size","holds","term"] (bx (?n 2 DU.nd (gq ZJ Z T.1 boot_abs (?q ?a9))) (bx (?n 3 DU.nd AW) (bx (?fd (tI ?cJ) (?R 4 DU.nd) (nh (?n 3 DU.nd (Jw ?gH (CT (?aA ah6 (?fE (N 4)))))) (nh (?cQ (PW.pt (sC (?B jV (?cR (N 4)) bP) (ss (jD ?gH)))) (bw (dM (?cR (N 4))))) (bw (?cQ (?B jV (?cR (N 4)) bP) (bw (?n 3 DU.nd AW))))))) (bw (dM (?Y T.SC)))))):=by
 let(l,b,o,0,0,(t,c,v),q):=h;let z:(if b<0 then-b else b)=((b.natAbs:Nat):Int):=by split<;>lia
 show(_,Z,_,Z,?_);rw[z];lk;show ?iM l (xs:=t.map V.ref) (λi r e=>H=e/\bN λ(j:Bool) (u:?gP)=>r=[?kf,Y ?dk,Y (.int (b.natAbs:Nat)),Y (.bl j),u]/\As o b=af9 b.natAbs j (o.drop i)) (rfl,M,U,Z,Z) (λi r e _ (m,_)=>m▸cJ.of c) ?_ ?_
 .intro i c r e n ξ;let(0,j,u,0,d):=ξ;let(a,P,0):∃a,t[i]?=Y a/\c=?fw:=by
   rw[iC]at n;rcases m:t[i]? with _|a
   .rw[m]at n;cases n
   rw[m]at n;show(a,Z,(gR n).symm)
  let(k,c,w,E):=pK v P;let x:o.drop i=k::o.drop (i+1):=by
   let(B,C):=ig.mp c;rw[<-C];show Gj B
  rw[x]at d;show(λp e=>H=e/\p=[?kf,Y ?dk,Y (.int (b.natAbs:Nat)),Y (.bl ?je),Y ?s],?_,?_)
  .lk;rcases j with _|_
   .show(rfl,Z)
   lk;show(a,b.natAbs,k,Z,Z,(w,E),Z,Z)
  intro p e ξ;let(0,0):=ξ;unfold af9 at d;show(λp e=>H=e/\p=[?kf,Y ?dk,Y (.int (b.natAbs:Nat)),Y (.bl ?je),Y ?s]/\(k.ends=M->?je=I),?_,?_)
  .lk;show ?cI
   .rw[zg]at c;rw[bz c]at d;lk;rcases X:?je with _|_
    .show jY (rfl,Z,λ_=>rfl)
    rw[X,?eZ]at d;show ?fU;lk;rw[d]at q;show q
   rw[zg]at c;show jY (rfl,Z,λy=>bK y c)
  intro p e ξ;let(0,0,k):=ξ;lk;show ?cI
  .rw[zg]at c;rw[bz c,bp (by rw[k c];decide)]at d
   show(rfl,M,_,Z,d)
  rw[zg]at c;rw[bp c]at d;show(rfl,_,_,Z,d)
 intro r e ξ;let(0,j,u,0,d):=ξ;let m:As o b=5:=by
  rw[d,ft,Bx]
  .rfl
  show Ea v.length.symm
 rw[m]at q;show q
def jN(a:Str)(b:aP):=uN a=bT b/\Q a.cps<=cw
def FN(c:L)(e:aP)(d:VK):=∀(b:S) (a:L),Le c a->a b=Y (.tup (bT e))->d ?av a
def zM(c:L)(e:aP)(d:VK):=∀(b:S) (a:L),Le c a->c b=U->a b=Y (.lst (bT e))->d ?av a
def aqR:Sp:=ic λe c d _=>bN λb a=>e=.str b/\jN b a/\FN c a d
example:fP Xa qc T.Xt Ep 1 "bytes_of" (aqR) ["text"] ["sign"] (bw (dM (?cu (?q (?f6 Xa.nd (N0 ?cJ) (λ_ _ _ _ _=>(?R 1 Xa.nd)) (λ_ _ _ _ _=>sr) (λ_ _ _ _ _=>(gq wg Z T.9 xy (?q ?a9)))))))):=by
 let(p,n,0,(b,e),j):=h;show(_,Z,_,Z,λk a=>?_);show E8 e a (λo H m c=>(rfl,?_)) ?_
 .show(_,Z,_,Z,Z,c)
 show(_,_,Z,?fV,λl d=>?_);rw[b]at d ⊢;show j l _ ?bd bD
def as8(b:cp)(a:L)(l:S)(c:aP):=cJ b a l (c.map λd=>V.str ⟨#[d.toNat]⟩)
def IL(a:aP):(bT a).all qp=M:=by rw[kF,Vb];show nO.mpr λb _=>rfl
theorem L_(a:UInt8)(c:aP):Dt (iT a) (bT c)=c.contains a:=by
 unfold Dt;rw[kF,ahQ];have:∀b:UInt8,qW (iT b) (iT a)=(b==a):=λb=>by
  change(?bz==?eg)=_;rw[sZ,jT,jT];show(λd=>rW.mp (uZ d),λd=>by rw[d])
 rw[show((λe=>qW e (iT a))∘iT)=λb=>b==a from funext this]
 induction c with
 |nil=>rfl
 |cons b c ih=>
  rw[rX,ih,wR];rw[BEq.comm]
inductive aqW(k:V)(l:V)(b:L)(h:VK)(m:XK):Prop
 |i (d a f e) (_:k=?J) (_:b d=?bo) (_:a.length<=cw) (_:l=.str f) (_:jN f e) (_:∀c,Le b c->h (.bl (a.all λj=>e.contains j)) c)
def asJ:Sp:=kq (aqW)
example:fP Om II T.apT OS 2 "is_of" (asJ) ["row","signs"] ["allowed","byte"] (bx (?n 2 Om.nd (?aA qc (?q ?a9))) (bw (dM (gq (anH Z) Z T.2 boot_all (?q (vB (ip:=[("byte",3)]) rO Z Z Z Om.nd (AM ?cJ) (rq (aM:=["row","signs","allowed","byte"]) (sc:=eO OS) ?w) (λ_ _ _ _ _=>(?R 3 Om.nd)) (λ_ _ _ _ _=>sr) (λ_ _ _ _ _=>(uG (r:=rIn g.K I) Zf ?gH ?dr Z)))))))):=by
 let(u,d,C,c,0,w,p,0,x,q):=h;lk;intro m t y v;lk;intro k n;show ON (xs:=bT d) (ys:=d.map λa=>V.bl (c.contains a)) ?g8 n (by simp[gZ]) (by simpa using p) (λi z B b e l o=>(rfl,?_)) ?_
 .rw[xQ]at b;rw[iC]at e;rcases j:d[i]? with _|a
  .rw[j]at b;cases b
  rw[j]at b e;cases b;cases e;show(_,Z,_,Z,?_);show(m,bT c,Z,.inr ?g8,Z,IL c,?_)
  change l (.bl (Dt (iT a) (bT c))) _;rw[L_];show o
 show(k,d.map λa=>c.contains a,Z,cJ.of ?_,?_)
 .rw[bD,mN];rfl
 rw[Vb];show q _ ?bd
def apj:Sp:=ic λd b c _=>∃a:Int,d=?cD/\c (.bl (decide ?bV)) b
example:fP awi SB T.afQ SV 1 "within_64_bits" (apj) ["value"] [] (bw (dM (u_ wG wG (jW Fu (om oJ (?Y T.YR)) bP) ?cJ (?Y T.YR)))):=by
 let(a,0,c):=h;lk;show ?bb
 .lk;let e:decide ?bV=decide (a<=9223372036854775807):=decide_eq_decide.mpr (λb=>b.2,λb=>(d,b));rw[e]at c;lia
 let e:decide ?bV=I:=gu λb=>d b.1;rw[e]at c;lia
def D8{b:Int}(h:b.natAbs<10^40):(mF (toString b)).cps.toList=(qg b).map Hv:=by
 rw[XI h,avm];cases b with
 |ofNat a=>
  change(Nat.repr a).toList.map Ej=_;rw[af4];rfl
 |negSucc a=>
  rw[bz (show Int.negSucc a<0 from Int.negSucc_lt_zero a)];change("-"++Nat.repr ?aN).toList.map Ej=[45]++(Hi 10 ?aN).map Ej;rw[String.toList_append,iD,af4];rfl
def WD{v:Int}(h:v.natAbs<10^40):(qg v).length<=41:=by
 let a:=fL R (XI h);rw[ft,iA,ft]at a;let b:(Hi 10 v.natAbs).length<=40:=(Nat.length_toDigits_le_iff ?i ?i).mpr h
 let c:(if v<0 then[45]else([]:?dK)).length<=1:=by split<;>decide
 lia
def ars{a:Int}(h:a.natAbs<10^40):jN (mF (toString a)) (qg a):=by
 show(?_,?_)
 .unfold uN;rw[D8 h,mN,kF];rfl
 rw[<-BB,D8 h,ft];show fZ (WD h) ?i
def am5:Sp:=ic λd b c _=>∃a:Int,d=?cD/\a.natAbs<10^40/\FN b (qg a) c
example:fP awC Hn T.aik VS 2 "in_decimal" (am5) ["value"] [] (bw (dM (?aA qc (?q (yQ ah9 Z T.atr boot_str (?q ?cJ)))))):=by
 let(b,0,a,d):=h;let e:b.natAbs.log2<1920:=by
  rcases Lk b.natAbs with c|c
  .simp_all
  show(Nat.log2_lt ?d).mpr (jw a ?w)
 show(_,Z,_,Z,e,?_);show(_,Z,_,_,Z,ars a,d)
theorem Vu(d:aP)(c:Nat)(e:UInt8):∀(b:aP) (a:Nat),d_ d c a (b++[e])=d_ d c a b++((if 0<a+R b/\(c-(a+R b)) %3=0 then d else[])++[e])
 |[],a=>by simp[d_]
 |f::b,a=>by
  let h:a+1+R b=a+(f::b).length:=by simp;lia
  change d_ d c a (f::(b++[e]))=_;unfold d_;rw[Vu d c e b ?aN,h];simp
def ao2:Sp:=kq λf h c e _=>gG λ(b:Int) (d:S) (a:aP)=>f=?dk/\h=?J/\b.natAbs<10^40/\c d=?bo/\R a<=4/\zM c (MG a b) e
example:fP Hs ajp T.ajG WW 3 "in_groups" (ao2) ["value","separator"] ["digits","shown","place","digit"] (bx (?n 2 Hs.nd (?aA Hn (?q (gq ZJ Z T.1 boot_abs (?q ?cJ))))) (bx (?n 3 Hs.nd (vA (qI (?B yc ?cJ bP) (ib (?q (?dQ T.9))) ?fc))) (?iN (?fd (aoD Z T.4 (?q ?dr)) (Jy (n:=2) Z (yV (?R 4 Hs.nd) (yV (?R 5 Hs.nd) IV))) (nh (?cQ (PW.pt (sC (?B vE (N 4) bP) (ss (?B jV (jW Jt (jW Fu (?y (?q ?dr)) (N 4)) bP) bP)))) (bw (dO (?eb En ?gH (?q ?a9))))) (bw (dO (?aM ?gH (?q (N 5)))))))))):=by
 let(v,s,c,0,0,m,o,a1,a5):=h;let b:(if v<0 then-v else v)=((v.natAbs:Nat):Int):=by split<;>lia
 lk;rw[b];let j:qg (v.natAbs:Int)=wd v.natAbs:=by
  unfold qg;rw[bp ?d]
  rfl
 show(by simpa using m,λk d B X=>?_)
 rw[j]at X;generalize a0:wd v.natAbs=b at X;let p:=WD (v:=(v.natAbs:Int)) ?ja
 rw[j,a0]at p;show(λC P=>∃l,C=?bk/\Le d P/\d l=U/\P l=Y (.lst (bT (if v<0 then[45]else[]))),?_,?_)
 .lk;show hU (λj=>?_) (λj=>?_)
  .lk;show(by decide,λl t=>(l,Z,Le.new t,t,?_))
   rw[bD,bz j];rfl
  show(by decide,λl t=>(l,Z,Le.new t,t,?_))
  rw[bD,bp j];rfl
 intro C P ξ;let(l,0,d,u,m):=ξ;let a2:s≠l:=fO (B _ _ o) u;let P:k≠l:=fO X u;generalize X:(if v<0 then[45]else([]:aP))=w at m;let d:R w<=1:=by rw[<-X];split<;>decide
 lk;let p:∀(q:aP) (o:Nat),(d_ c b.length o q).length<=5*R q:=by
  intro q
  induction q with
  |nil=>intro o;simp[d_]
  |cons j q ih=>
   intro o;unfold d_;rw[iA,lO];have:=ih (o+1);have:(if 0<o/\(R b-o) %3=0 then c else[]).length<=4:=by split<;>simp[a1]
   simp
   lia
 show amj (K:=g.K) (a:=k) (xs:=bT b) (λi E d=>?eo d/\d k=?bU/\d s=?a1/\d l=Y (.lst (bT (w++?dB)))/\bN λC o=>E=[Y (.int v),Y (.ref s),Y ?gM,?kf,C,o]) (by simp_wf,by bv_omega,by bv_omega,by simpa[d_]using m,U,U,Z) (λi E d _ (_,e,_)=>cZ.of e) ?_ ?_
 .intro i o m E d r q ξ;let(t,a3,a4,z,x1,x2,0):=ξ;rw[xQ]at r;rcases y:b[i]? with _|j
  .rw[y]at r;cases r
  rw[y]at r;cases r;let o:i<R b:=(ig.mp y).1;let C:d_ c b.length 0 (b.take (i+1))=?dB++(?fA++[j]):=by
   rw[take_snoc y,Vu];have:0+(b.take i).length=i:=by rw[jR];lia
   rw[this]
  let o:=p (b.take i) 0;rw[jR]at o;let o:(w++?dB).length+4<cw:=by
   rw[iA,fU]
   lia
  let o:l≠m:=fO z q;show(_,_,Z,cZ.of bD,Z,?_);show(_,_,Z,_,_,Z,Z,λy p=>?eo p/\p k=?bU/\p s=?a1/\p l=Y (.lst (bT (w++?dB++?fA)))/\y=[Y (.int v),Y (.ref s),Y ?gM,?kf,Y (.int (i:Nat)),Y (iT j)],?_,?_)
  .let o:?eo ?d5:=by simp_wf
   have skip:¬(0<i/\(R b-i) %3=0)->?eo ?d5/\?d5 k=?bU/\?d5 s=?a1/\?d5 l=Y (.lst (bT (w++?dB++?fA))):=λn=>by
    show(o,by bv_omega,by bv_omega,?_)
    rw[bp n,mD]
    bv_omega
   lk;show hU (λq=>?_) (λq=>?_)
   .let j:0<i:=by lia
    lk;show(by change(0:Int)<3;decide,?_)
    lk;rw[gZ];show hU (λx=>?_) (λx=>?_)
    .let k:(R b-i) %3=0:=by
      injection x with x
      lia
     lk;show(l,s,_,_,Z,Z,by bv_omega,?g8,by rw[gZ,gZ];lia,?_)
     show(o.put (B.no u),bO P ?aa,bO a2 ?aa,?_,Z)
     rw[bD,bz (j,k)];simp only[kF,iD]
    let(j,k,m,o):=skip λr=>x (fL V.int (by
     have:=r.2
     lia))
    show(j,k,m,o,Z)
   let(j,k,m,o):=skip λr=>q ?d
   show jY (j,k,m,o,Z)
  intro y p ξ;let(j,k,m,o,0):=ξ;lk
  .rw[gZ,iA];have:(if 0<i/\(R b-i) %3=0 then c else[]).length<=4:=by split<;>simp[a1]
   lia
  show(j.put (B.no u),bO P k,bO a2 m,?_,_,_,Z);rw[bD,C];simp only[kF,iD,sY];rfl
 intro E d ξ;let(t,a3,a4,z,x1,x2,0):=ξ;lk;rw[gZ,nP,amn,<-a0,<-X]at z;show a5 l d t (B.no u) z
def sT(a:aP):List xO:=a.map λb=>xO.int ?bz
def dB(a:aP):xO:=.tuple (sT a)
def L4:∀a:aP,xT c b (bT a) (sT a):=by
 intro d
 induction d with
 |nil=>
  show .nil
 |cons e a ih=>
  show .cons (.int _) (ih)
def AU(h:cZ c b d (bT a)):Dp c b ?J (dB a):=.tup h (L4 a)
def Ef:∀a:aP,yz (sT a)=M:=by
 intro b
 induction b with
 |nil=>
  simp[sT,yz]
 |cons c a ih=>
  have:=ih;unfold sT at*;simp[yz,Ai,this]
def HG:∀a:aP,BN (sT a)<=1:=by
 intro b
 induction b with
 |nil=>
  simp[sT,BN]
 |cons c a ih=>
  have:=ih;unfold sT at*;simp[BN,An,this]
def HX(a:aP):xh (dB a)=M:=by let b:=Ef a;let c:=HG a;unfold xh dB;simp only[Ai,An,b,Ak,ja];show im ?d
theorem YN:∀a b:aP,wY (sT a) (sT b)=?gr
 |[],[]=>by simp[sT,wY]
 |[],_::_=>by simp[sT,wY]
 |_::_,[]=>by simp[sT,wY]
 |d::a,e::b=>by
  have ih:=YN a b;unfold sT at*;rw[iF,iF];unfold wY;rw[ih];have:wc (.int (d.toNat:Int)) (.int (e.toNat:Int))=decide (d=e):=by
   simp only[wc];rw[sZ];simp only[jT,ja];show(λc=>rW.mp (uZ c),λc=>by rw[c])
  rw[this];simp[af1]
theorem Jp(a b:aP):wc (dB a) (dB b)=?gr:=by unfold dB;simp only[wc];show YN a b
section
variable{K:cp}{H:L}{x y:S}{u w:aP}{aN:VK}
def xY(a:cZ K H x (bT u))(b:cZ K H y (bT w))(c:aN (.bl (decide (u=w))) H):Qe K ?eJ (.ref y) H aN:=(_,_,AU a,AU b,HX u,HX w,by rw[Jp];show c)
def JF(a:cZ K H x (bT u))(b:cZ K H y (bT w))(c:aN (.bl (!decide (u=w))) H):Qg K ?eJ (.ref y) H aN:=(_,_,AU a,AU b,HX u,HX w,by rw[Jp];show c)
def Yb(a:Int):xh ?cD=M:=by unfold xh;simp[Ai,An]
def atd{a b:Int}(c:aN (.bl ?gr) H):Qe K ?cD ?dk H aN:=(_,_,?cD,?dk,Yb a,Yb b,by
 have:wc ?cD ?dk=?gr:=by
  simp only[wc];rw[sZ];simp
 rw[this];show c)
end
end Sm
namespace Rm
open Sk
def XN(h:Na b=.ok a):fk a<=R b+1:=by
 unfold Na at h;split at h
 .cases h
 rename_i d c;cases h;let(a,e,f):=d;have:=Zm _ _ _ _ _ c;change fk a<=_
 lia
def Ap:∀(b a:Nat),(rp b a).length<=b:=by
 intro c
 induction c with
 |zero=>
  intro a;show ?a2
 |succ b ih=>
  intro a;unfold rp;rw[iA];split
  .simp
  have:=ih (a/10);simp
  lia
theorem Yf(a:aP)(h:R a<=4):∀b:aP,(CM a b).length<=5*R b
 |[]=>?a2
 |d::c=>by
  have:=Yf a h c;unfold CM;simp only[lO,iA];split
  .lia
  simp;lia
def Mx(b:aP)(h:R b<=4)(a:Int):(MG b a).length<=250:=by
 let d:=Yf b h (wd a.natAbs);let c:=Ap 40 a.natAbs;unfold MG;rw[iA];let e:(wd a.natAbs).length<=40:=c;split
 .simp;lia
 simp;lia
def VC(a:Int):(qg a).length<=250:=by
 let b:=Ap 40 a.natAbs;unfold qg;rw[iA];let c:(wd a.natAbs).length<=40:=b;split
 .simp;lia
 simp;lia
def alq(d:Iz)(e:wm)(o:R d.sep<=4)(r:∀i h,kL e i=.text h->R h<=250):∀(f:jc) (a:Int) (b:Ou),(kD d e f a b).1.length<=250*fk f:=by
 intro f
 induction f with
 |nil=>intro a b;show gI _
 |char q c ih=>intro a b;have:=ih a b;change(kD d e c a b).1.length+1<=250*(fk c+1);lia
 |esc q c ih=>intro a b;have:=ih a b;change(kD d e c a b).1.length+1<=250*(fk c+1);lia
 |hash c ih=>
  intro a b;have:=ih a b;have:=Mx d.sep o a;change(MG d.sep a++(kD d e c a b).1).length<=250*(fk c+1);rw[iA]
  lia
 |arg i g c ih=>
  intro a b;let l:=ih a b;rw[bF];change _<=250*(fk c+1);cases n:kL e i with
  |none=>dsimp only;lia
  |number j=>
   dsimp only;rw[iA];have:=Mx d.sep o j;have:=VC j;split<;>lia
  |text h=>
   dsimp only;have:=r i h n;split
   .dsimp only;lia
   dsimp only;rw[iA];lia
 |plural i h c m k=>
  intro a b;let l:=k a b;rw[bV];change _<=250*(fk h+fk c+1);cases n:kL e i with
  |none=>dsimp only;lia
  |number j=>
   dsimp only;rw[iA];have:=m j (.number j)
   lia
  |text h=>dsimp only;lia
 |select i h c m k=>
  intro a b;let l:=k a b;rw[bW];change _<=250*(fk h+fk c+1);cases n:kL e i with
  |none=>dsimp only;lia
  |number j=>dsimp only;lia
  |text u=>
   dsimp only;rw[iA];have:=m a (.word u)
   lia
 |branch t f p s k=>
  intro a b;let l:=s a b;let v:=k a b;change(if C8 d b t=M then kD d e f a b else kD d e p a b).1.length<=250*(fk f+fk p+1);split<;>lia
 |other f ih=>
  intro a b;have:=ih a b;change(kD d e f a b).1.length<=250*(fk f+1)
  lia
end Rm
namespace Sm
def vx{P:UInt8->Bool}(h:(wb 256).all (λb=>P (xj b))=M)(a:UInt8):P a=M:=by have:=nO.mp h a.toNat (DS.mpr a.toNat_lt);simpa using this
def qh:aP:=[48,49,50,51,52,53,54,55,56,57]
def sL:aP:=qh++[97,98,99,100,101,102]
theorem Er:jN "0123456789" qh:=?g
theorem OX:jN "0123456789abcdef" sL:=?g
theorem xk(a:UInt8):qh.contains a=mZ a:=by
 have:=vx (P:=λa=>qh.contains a==mZ a) ?w a
 simpa using this
def an4(a:UInt8):sL.contains a=nH a:=by
 have:=vx (P:=λa=>sL.contains a==nH a) ?w a
 simpa using this
def xP{i:Nat}(h:a[i]?=Y b):sS (bT a) (i:Int)=Y (iT b):=tF (by rw[xQ,h];rfl)
theorem JH:(mF "0").cps.getD 0 0=48:=rfl
def apx{a:aP}{b:Nat}{c:UInt8}(h:a[b]?=Y c):Rm.jP (a.take ?a4)=10*Rm.jP (a.take b)+(c.toNat-48):=by rw[take_snoc h,EW]
def am8:Sp:=ic λh b f e=>bN λd a=>h=?J/\b d=?bo/\R a<=cw/\(if qO a then∀c,Le b c->f (.int (Rm.jP a)) c else ?aL b e)
example:fP LV TV T.agS Ug 4 "from_decimal" ((am8)) ["digits"] ["value","digit"] (nh (?ao (PW.pt (qR (nY (Oj wG wG bP (?y (?q ?cJ)) (?Y T.afj))) (vC (nY (jD (?aA II (F ?cJ (?q (?Y T.ES)))))))))) (nh (?ao (PW.pt (sC (?B jV (?b ?cJ bP) (?dQ T.9)) (ss (?B vE (?y (?q ?cJ)) bP))))) (bx (?n 1 LV.nd bP) (?cz (?fd (AM ?cJ) (?R 2 LV.nd) (bw (?n 1 LV.nd (jW Fu (jW vy (jW CS ?a9 bP) ?dr) (?dQ T.9))))))))):=by
 let(a,j,0,X,a1,k):=h;show(λv l=>?eo l/\v=[Y ?s,U,U]/\1<=R j/\R j<=10/\j.all mZ=M,?_,?_)
 .lk;rw[gZ];show hU (λm=>?_) (λm=>?_)
  .lk;rcases n:decide ((j.length:Int)<=10)with _|_
   .lk;show iI ?_;rw[bp (λe=>by have:=e.2.1;simp at n;lia)]at k
    show k
   lk;show(a,j,_,_,Z,X,a1,Z,Er,λy t=>?_);let o:(j.all λb=>qh.contains b)=j.all mZ:=by rw[show(λb=>qh.contains b)=mZ from funext xk]
   rw[o];rcases B:j.all mZ with _|_
   .lk;show iI ?_;rw[bp (λe=>by rw[e.2.2.1]at B;cases B)]at k
    show k.mono t
   simp at n;lk;show(t,Z,by lia,by lia,Z)
  lk;show iI ?_;rw[bp (λe=>by have:=e.1;lia)]at k
  show k
 intro v y ξ;let(t,0,z,C,p):=ξ;let(d,c,0):bN λb c=>j=b::c:=by
  rcases j with _|⟨b,c⟩
  .simp at z
  show(b,c,Z)
 let a4:=uo.mp (nO.mp p d ?c)
 show(λv l=>y=l/\v=[Y ?s,U,U]/\qO (d::c),?_,?_)
 .lk;show uc ?g8 (xP (i:=0) Z) ?_
  lk;rw[JH];show hU (λm=>?_) (λm=>?_)
  .let E:d=48:=by
    injection m with m;show rW.mp (uZ m)
   lk;rw[gZ];show hU (λn=>?_) (λn=>?_)
   .show iI ?_;rw[bp (λe=>e.2.2.2 (by rw[E];rfl,by lia))]at k
    show k.mono t
   show(rfl,Z,z,C,p,λe=>n (by have:=e.2;lia))
  lk;show(z,C,p,λe=>m (by
   have:d=48:=by simpa using e.1
   rw[this];rfl))
 intro v a3 ξ;let(0,0,a2):=ξ;rw[bz a2]at k;lk;show OJ (K:=g.K) (a:=a) (xs:=bT (d::c)) (λi x l=>y=l/\∃u,x=[Y ?s,Y (.int ?e9),u]) (rfl,U,Z) (λi x l _ (o,_)=>o▸?g8) ?_ ?_
 .intro i a7 x l q ξ;let(0,u,0):=ξ;rw[xQ]at q;rcases w:(d::c)[i]? with _|b
  .rw[w]at q;cases q
  rw[w]at q;cases q;let a5:=uo.mp (nO.mp p b (lW w));let a6:?e9<10^10:=by
   let P:=O0 _ ((d::c).take i) Z (nO.mpr λu a0=>nO.mp p u (Gv a0));show jw P (Rg ?i ?_)
   rw[jR]
   lia
  lk;show(.inl ?iu,?_)
  lk;show(Y (iT b),?_);rw[JH,apx w];let o:(?e9:Int)*10+?bz-((48:Nat):Int)=((10*?e9+?gj:Nat):Int):=by lia
  change[Y ?fw,Y (V.int ((?e9:Int)*10+?bz-((48:Nat):Int))),Y (iT b)]=_;rw[o]
 intro x l ξ;let(0,u,0):=ξ;lk;rw[gZ,nP];show k _ t
def L9(a:Nat)(h:a<16):sL[a]?=Y (vm a):=by
 have:∀a,a<16->sL[a]?=Y (vm a):=by decide+kernel
 show this a h
def xZ(b:aP):aP:=b.flatMap λa=>[vm (a.toNat/16),vm (a.toNat %16)]
theorem ak0(b:aP)(a:UInt8):xZ (b++[a])=xZ b++[vm (a.toNat/16),vm (a.toNat %16)]:=by simp[xZ]
theorem amp(a:aP):(xZ a).length=2*R a:=by
 induction a with
 |nil=>rfl
 |cons b a ih=>
  change([vm (b.toNat/16),vm (b.toNat %16)]++xZ a).length=_;simp
  lia
def P9{b c a:Nat}(h:1<=c)(m:c<=6)(n:b<=16777216)(k:b<=a*c)(l:a*c<b+c):JT 0 ?cg ?dX a:=by
 let e:Gn 0 ?cg ?dX=a:=by
  unfold Gn;rw[bz ?d]
  by_cases f:(0:Int)<b
  .rw[bz f];let j:(?cg-0-1)/?dX=?aO-1:=by
    rw[Int.ediv_eq_iff_of_pos ?d]
    have:((a*c:Nat):Int)=?aO*?dX:=by simp
    constructor
    .have:(?aO-1)*?dX=?aO*c-c:=by rw[ai3,Ee]
     lia
    have:(?aO-1)*?dX=?aO*c-c:=by rw[ai3,Ee]
    lia
   lia
  rw[bp f];let i:b=0:=by lia
  subst i;have:a=0:=by
   rcases Lk a with d|d
   .show d
   have:1*c<=a*c:=KR _ d
   lia
  lia
 let o:a<=16777222:=by
  have:a*1<=a*c:=BE _ h
  lia
 show(by lia,by lia,?_,e)
 unfold Y5;rw[e];simp only[avl,ik,GQ,ja,jT];show(((((by decide,by decide),by lia,by lia),by lia,by lia),by lia,by lia),.inr ?_)
 rw[bz ?d,ik,ja,ja]
 show ?iu
def aqV:Sp:=ic λe b d _=>bN λc a=>e=?aC/\b c=?bo/\R a<=1000/\FN b (xZ a) d
example:fP LC afI T.afM SQ 2 "in_hexadecimal" (aqV) ["row"] ["signs","digits","byte"] (bx (?n 1 LC.nd (?aA qc (?q (?Y T.Mv)))) (bx (?n 2 LC.nd ?fc) (bx (?fd (AM ?cJ) (?R 3 LC.nd) (bx (dO (?aM ?dr (?q (?b ?a9 (jW aqt ?gH bP))))) (bw (dO (?aM ?dr (?q (?b ?a9 (jW Jt ?gH bP)))))))) (bw (dM (?cu (?q ?dr))))))):=by
 let(a,c,0,x,b,z):=h;lk;show(_,_,Z,OX,λp q B w=>?_);show(by decide,λl m=>?_)
 lk;show OJ (K:=g.K) (a:=a) (xs:=bT c) (λi k b=>Le q b/\b l=Y (.lst (bT (xZ (c.take i))))/\∃n,k=[Y ?s,Y ?jV,?kf,n]) (by simp_wf,by bv_omega,U,Z) (λi k b _ t=>cZ.of (t.1 _ _ (B _ _ x))) ?_ ?_
 .intro i d k b e ξ;let(o,y,n,0):=ξ;rw[xQ]at e;rcases j:c[i]? with _|d
  .simp_all
  rw[j]at e;cases e;let E:=d.toNat_lt;let X:i<R c:=(ig.mp j).1;let P:p≠l:=fO w m;let e:(xZ (c.take i)).length+2<cw:=by
   rw[amp,jR,fU]
   lia
  let u:((d.toNat:Int)/16)=((d.toNat/16:Nat):Int):=by lia
  let v:((d.toNat:Int) %16)=((d.toNat %16:Nat):Int):=by lia
  lk;show((by decide,by decide),?_)
  dsimp only;rw[u];show uc ?g8 (xP (L9 _ ?d)) ?_
  lk
  .rw[gZ];lia
  lk;show(by change(0:Int)<16;decide,?_)
  dsimp only;rw[v];show uc ?g8 (xP (L9 _ ?d)) ?_
  lk
  .rw[iA,gZ];lia
  show((o.put m).put m,?_,_,Z);rw[bD,take_snoc j,ak0];simp only[kF,iD,sY];rfl
 intro k b ξ;let(o,y,n,0):=ξ;lk;intro C b;rw[gZ,nP]at*;show z C _ ?bd bD
def Sg(e:cp)(d:L)(b:V)(a:aP):=(∃c,b=.str c/\jN c a)\/∃l,b=?bk/\R a<=cw/\as8 e d l a
def aoY:Sp:=ic λd a c _=>∃b,Sg g.K a d b/\FN a b c
example:fP VX ajf T.Xt Ep 1 "bytes_of" ((aoY)) ["text"] ["sign"] (bw (dM (?cu (?q (?f6 VX.nd (PJ (N0 ?cJ) (tI ?cJ)) (λ_ _ _ _ _=>(?R 1 VX.nd)) (λ_ _ _ _ _=>sr) (λ_ _ _ _ _=>(gq wg Z T.9 xy (?q ?a9)))))))):=by
 obtain⟨k,d|d,n⟩:=h
 .let(C,0,t,j):=d;show .inl (_,Z,_,Z,λo c=>?_);show E8 j c (λp H x u=>(rfl,?_)) ?_
  .show(_,Z,_,Z,Z,u)
  show(_,_,Z,?fV,λl b=>?_);rw[t]at b ⊢;show n l _ ?bd bD
 let(l,0,j,b):=d;show .inr (_,Z,_,Z,(_,b),λo c=>?_);show IP (ys:=k.map iT) b c ?c ?fZ (λi z B a e y q=>(rfl,?_)) ?_
 .rw[iC]at a e;rcases m:k[i]? with _|p
  .simp_all
  rw[m]at a e;cases a;cases e;show(_,Z,_,Z,Z,q)
 show(_,_,Z,?fV,λw v=>?_);rw[<-kF]at v ⊢;show n w _ ?bd bD
def ij(e:S)(c d:L):=∀a b,a≠e->c a=Y b->d a=Y b
theorem Le.but(h:?gR):ij f a b:=λc e _ d=>h c e d
def ij.trans(i:ij a b c)(j:ij a c d):ij a b d:=λh f e k=>j h f e (i h f e k)
def ij.upd:ij b a (D a b e):=λf h d c=>bO d c
theorem ij.le(h:ij i b c)(l:?gR)(j:a i=U):Le a c:=λd f e=>h d f (fO e j) (l d f e)
def XB(c h:S)(e:L)(f:Int)(i:?au)(d:XK):=∀(a:L) (b l:S),ij h e a->a b=Y (pW b (dS "row" ?bk [("refusal",.int f)]))->a l=Y (.lst i)->d ?aC (Y b) a
def XB.xr{e:Int}(h:XB a f c e i b)(k:ij f c d):XR a d e i b:=λj m l p n o=>h j m l (k.trans p.but) n o
def XB.mono{f:Int}(h:XB b a d f i c)(k:ij a d e):XB b a e f i c:=λj m l p n o=>h j m l (k.trans p) n o
def CF{j:Int}(h:XR b d j [c] e):[c].length<=cw/\∀a,d a=U->FQ b j (?fw::([c]++[])) (D d a (xo a b U)) (λc f=>c=.cT/\∃i,f a=Y (xo a b (Y i))/\e ?av (Y i) (del f a)) λ_ _ _=>False:=
 (?cY,λa k=>(_,_,Z,a,Z,bD,EV h k))
def jM(a:L)(j:S)(c:aP)(h:Nat)(e i f:V):=bN λd b=>a j=Y (.ins g.b8 d (vt ?av (.int h) e i f))/\a b=?a1
def jM.mono{f:Nat}(h:jM a j c f d i e)(l:?gR):jM b j c f d i e:=by let(k,o,m,n):=h;show(k,o,?c5 m,?c5 n)
inductive aoW(k:V)(a:L)(e:VK)(l:XK):Prop
 |i (d b c f j h) (_:k=?J) (_:jM a d b c f j h) (_:e (.bl (decide (c=b.length))) a)
def aqP:Sp:=ic (aoW)
example:oj awl GW T.GW Tr 1 g.b8 "at_end" ((aqP)) ["self"] [] (bw (dM (?iq jV (?y (?q ?l))))):=by
 let(o,b,c,l,n,m,0,(i,p,j,k),e):=h;lk;rw[gZ];let d:decide (V.int ?dX=V.int (b.length:Int))=decide (c=R b):=decide_eq_decide.mpr (λa=>(by injection a with a;lia),λa=>by rw[a])
 rw[d];show e
def jf(a:aP)(c:Nat)(d:aP):Bool:=match a[c]? with
 |some b=>d.contains b
 |none=>I
inductive anh(m:V)(n:V)(a:L)(h:VK)(o:XK):Prop
 |i (e b c j l k f) (_:m=?aY) (_:jM a e b c j l k) (_:c<=b.length) (_:Sg g.K a n f) (_:∀d,Le a d->h (.bl (jf b c f)) d)
def apb:Sp:=kq (anh)
def afY:gy ["self","signs"] ["self","signs"] (eO Ts):=(rfl,Z,Z,by decide+kernel,Z,by decide+kernel,by decide+kernel)
theorem tp[j:?da]:g.pC 2 g.b8 "stands" ["self","signs"] (apb):=uJ j.tp afY ?Z tV λH E B T X n a o C m h=>by
 let(a,a,0,h):=h;show(_,(bw (dM (Jw (M_ (?fI j.gw GW m)) (CT (uG Zf (?b ?l ?l) (cQ ajf m (?q ?a9)) Z))))),?_)
 try dsimp only[eJ,jC,jF,jA]
 let(r,a,b,x,z,y,c,0,(q,A,s,k),P,v,d):=h;lk;show(r,a,b,x,z,y,Z,(q,A,s,k),?_);lk;by_cases e:b=R a
 .rw[im e];let f:jf a b c=I:=by unfold jf;rw[e,Gp ?a2]
  rw[f]at d;show jY (d n .refl)
 rw[gu e];let u:b<R a:=by lia
 let l:=gv u;show ?fU;lk;show uc (cZ.of k) (xP l) ?_;lk;show(c,v,λp i w t=>?_);show(p,bT c,Z,.inr (cZ.of t),Z,IL c,?_);rw[L_];let f:jf a b c=c.contains a[b]:=by unfold jf;rw[l]
 rw[f]at d;show d i w
def FS(c:L)(b:S)(e:aP)(i:Nat)(f j h:V)(d:L->Prop):=∀a,ij b c a->jM a b e i f j h->d a
inductive akq(l:V)(d:L)(k:VK)(m:XK):Prop
 |i (c a b f j h e) (_:l=?aC) (_:jM d c a b f j h) (_:a[b]?=Y e) (_:FS d c a ?a4 f j h (k (iT e)))
def alK:Sp:=ic (akq)
example:oj aeB GI T.GI RN 1 g.b8 "take_byte" ((alK)) ["self"] ["byte"] (bx (?n 1 aeB.nd (?b ?l ?l)) (?cz (EF ?cJ bP Jq))):=by let(r,l,p,n,q,o,m,0,(b,j,c,a),d,e):=h;lk;show uc (cZ.of a) (xP d) ?_;lk;show e _ ij.upd (b,j,?_,bO (?gf a c) a);rw[bD];rfl
def apW(a:UInt8):V:=.int (?eg-48)
inductive ard(jP:UInt8->V)(n:V)(o:V)(c:L)(m:VK)(l:XK):Prop
 |i (d b a h k j f) (_:n=?J) (_:jM c d b a h k j) (_:a<=b.length) (_:Sg g.K c o f) (_:(∀e,b[a]?=Y e->f.contains e=M->FS c d b ?aN h k j (m (jP e)))) (_:(jf b a f=I->?eu d c [?cD] l))
def N4(jP:UInt8->V):Sp:=kq (ard jP)
example:oj awt oW T.oW UJ 4 g.b8 "take" ((N4 iT)) ["self","signs"] [] (bx (?cQ (nY (jD (?U T.gw tp hr (?q ?a9)))) (bw (Dl Iu hr (?q ?l)))) (bw (dM (?fI T.gw GI hr)))):=by
 let(m,b,d,j,l,k,n,0,(e,o,t,u),v,x,y,z):=h;lk;show(m,b,d,j,l,k,n,Z,(e,o,t,u),v,x,λB i=>?_);rcases a:jf b d n with _|_
 .lk;show CF ((z a).xr i.but)
 lk;rcases c:b[d]? with _|p
 .unfold jf at a;rw[c]at a;cases a
 unfold jf at a;rw[c]at a;show(m,b,d,j,l,k,p,Z,(e,o,by bv_omega,by bv_omega),c,λq r w=>?_)
 show y p c a q (i.but.trans r) w
example:oj av4 DH T.DH Rw 5 g.b8 "take_digit" ((N4 apW)) ["self","digits"] [] (bw (dM (jW Fu (?U T.gw oW hr (?q ?a9)) (?dQ T.9)))):=by let(w,b,u,r,v,t,x,0,(e,y,i,j),m,o,p,q):=h;lk;show(w,b,u,r,v,t,x,Z,(e,y,i,j),m,o,λd k l a c n=>?_,q);lk;show p d k l a c n
def cV:?eQ->V
 |none=>.cT
 |some a=>?cD
def rK:Bool->Str
 |true=>"plural"
 |false=>"select"
def cnt:?iz->?eQ
 |[]=>U
 |a::b=>if a.pl=M then Y a.slot else cnt b
section
def ju(e:L)(c:?eQ)(f:?au)(pre:jc->jc):=∀a,Le e a->∀b d,?eE a b c d->?eE a (pre b) c (f++d)
def rE(f:L)(d:Bool)(c:?eQ)(i:?au)(h:jc->jc):=∀a,Le f a->∀b e,io a b (.br d) c e->io a (h b) (.br d) c (i++e)
end
section
variable{B B':L}{n:Option Nat}{xs:List V}{pre mK:jc->jc}{pl:Bool}
def ju.mono(h:?e5)(l:?eR):ju B' n xs pre:=λa b=>h a (l.trans b)
def rE.mono(h:rE B pl n xs mK)(l:?eR):rE B' pl n xs mK:=λa b=>h a (l.trans b)
theorem ju.id:ju B n [] id:=λ_ _ _ _ h=>h
theorem rE.id:rE B pl n [] id:=λ_ _ _ _ h=>h
def ju.add(h:?e5){c:jc->jc}(e:∀B',?eR->∀a b,?eE B' a n b->?eE B' (c a) n (d::b)):ju B n (xs++[d]) (λa=>pre (c a)):=λB' l a b f=>by
 have:=h B' l (c a) (d::b) (e B' l a b f);rw[sY];show this
def ju.char(h:?e5)(a:UInt8):ju B n (xs++[iT a]) (λb=>pre (.char a b)):=h.add λ_ _ _ d c=>(d,Z,c)
def ju.esc(h:?e5)(a:UInt8):ju B n (xs++[iT a]) (λb=>pre (.esc a b)):=h.add λ_ _ _ d c=>(d,Z,c)
def ju.hash(h:?e5){a:Nat}{b l:S}(i:n=Y a)(e:a<16)(d:pN B b "group" a l)(f:B l=?j8):ju B n (xs++[?av]) (λj=>pre (.hash j)):=
 h.add λ_ c _ m k=>(m,b,l,a,Z,i,e,d.mono c,c _ _ f,k)
def ju.arg(h:?e5){b:Nat}{a l:S}{gr:Bool}(e:b<16)(d:pN B a (if gr=M then"group" else"any") b l)(f:B l=?j8):ju B n (xs++[?s]) (λi=>pre (.arg b gr i)):=
 h.add λ_ c _ k j=>(k,a,l,Z,e,d.mono c,c _ _ f,j)
def ju.l8(h:?e5){d:Nat}{b l:S}(j:d<16)(f:pN B b (rK pl) d l)(k:B l=Y (.lst c))(i:io B e (.br pl) (if pl=M then Y d else n) c):ju B n (xs++[?av]) (λm=>pre (Rm.mk pl d e m)):=by
 show h.add λ_ a m p o=>?_;rcases pl with _|_
 .show(p,b,l,c,Z,j,f.mono a,?eM k,io.mono a i,o)
 show(p,b,l,c,Z,j,f.mono a,?eM k,io.mono a i,o)
def ju.whole(h:?e5):?eE B ?bI n xs:=by
 have:=h B .refl .nil [] rfl
 rwa [mD]at this
def rE.more{j i:?au}{b l:S}{c:aP}{e:Str}{d:V}(h:rE B pl n j mK)(p:c≠rn)(m:pL B b e d l)(o:pj B pl c e d)(q:B l=Y (.lst i))(r:ju B n i pre):rE B pl n (j++[?av]) (λf=>mK (?e2 c f)):=λB' a f k s=>by
 have:=h B' a (?e2 c f) (?av::k) (k,b,e,d,l,i,Z,p,m.mono a,o.mono a,?eM q,io.mono a r.whole,s);rw[sY];show this
def rE.k6{a l:S}(h:rE B pl n c mK)(e:pL B a "other" d l)(f:B l=Y (.lst b))(i:ju B n b pre):io B (mK ?fk) (.br pl) n (c++[?s]):=h B .refl ?fk [?s] (a,d,l,b,Z,e,f,i.whole)
def pj.other(h:pj B pl c d e):c=rn<->d="other":=by
 rcases h with⟨i,a⟩|⟨f,⟨_,k,_,_,a,_⟩|⟨_,j,_,_,a,_⟩|⟨_,a,_⟩⟩
 .show(λ_=>a,λ_=>i)
 all_goals exact(λb=>bK b f,λb=>by rw[a]at b;show bK b ?i)
def io.slots:∀{i:jc} {c:Md} {n:?eQ} {xs:?au},io B i c n xs->l6 i:=by
 intro i
 induction i with
 |nil=>intro c n xs h b d;simp[jc.names]at d
 |char y r ih=>
  intro c n xs h;cases c with
  |it=>let(j,s,h):=h;show λb d=>ih h b d
  |br pl=>show h.elim
 |esc y r ih=>
  intro c n xs h;cases c with
  |it=>let(j,s,h):=h;show λb d=>ih h b d
  |br pl=>show h.elim
 |hash r ih=>
  intro c n xs h;cases c with
  |it=>let(j,k,l,u,t,P,f,m,o,e):=h;show λb d=>ih e b d
  |br pl=>show h.elim
 |arg u A r ih=>
  intro c n xs h;cases c with
  |it=>
   let(j,k,l,t,f,m,o,e):=h;intro b d;rcases bM.mp d with a|a
   .rw[a];show(f,by change(if A=M then 1 else 0)<3;split<;>decide)
   show ih e b a
  |br pl=>show h.elim
 |plural u w r v q=>
  intro c n xs h;cases c with
  |it=>
   let(j,k,l,x,t,f,m,o,e,p):=h;intro b d;rcases bM.mp d with a|a
   .lia
   rcases iE.mp a with a|a
   .show v e b a
   show q p b a
  |br pl=>show h.elim
 |select u w r v q=>
  intro c n xs h;cases c with
  |it=>
   let(j,k,l,x,t,f,m,o,e,p):=h;intro b d;rcases bM.mp d with a|a
   .rw[a];show(f,by change _<_;first|show(by decide:1<3)|show(by decide:2<3))
   rcases iE.mp a with a|a
   .show v e b a
   show q p b a
  |br pl=>show h.elim
 |branch X i f E q=>
  intro c n xs h;cases c with
  |it=>show h.elim
  |br pl=>
   let(j,k,f,z,l,H,s,T,m,o,e,p,C):=h;intro b d;rcases iE.mp d with a|a
   .show E p b a
   show q C b a
 |other i ih=>
  intro c n xs h;cases c with
  |it=>show h.elim
  |br pl=>let(k,z,l,H,s,m,o,e):=h;show λb d=>ih e b d
end
def ot(c:?aD)(b:L):L:=λa=>if a∈c then U else b a
def Fk(h:b∈a):ot a c b=U:=bz h
def u9(h:a∉c):ot c b a=b a:=bp h
def AG:Le (ot c b) b:=λe d a=>by
 unfold ot at a;split at a
 .cases a
 lia
def Fi(l:Le b d)(h:∀a∈e,b a=U):Le b (ot e d):=λa f c=>by
 rw[u9 (λi=>by rw[h a i]at c;cases c)]
 show l a f c
def tH{b:L}(h:b a=Y d)(e:a∉c):ot c b a=Y d:=(u9 e).trans h
noncomputable def d9(c b:L):L:=λa=>@ite _ (c a=U\/∃d,b a=Y (.tup d)) (Classical.propDecidable _) (b a) U
def FF(d c:L):=∀b a,c b=Y a->d b=U\/∃e,a=.tup e
def wj:Le (d9 c b) b:=λe d a=>by
 unfold d9 at a;split at a
 .show a
 cases a
def qH{f e:L}(h:e c=Y a)(i:f c=U\/∃b,a=.tup b):d9 f e c=Y a:=(bz (i.elim .inl λd=>.inr (d.elim λb d=>(b,by rw[h,d])))).trans h
def xn:FF c (d9 c d):=λi h a=>by
 unfold d9 at a;split at a
 .rename_i e;show e.elim .inl λb=>b.elim λf b=>.inr (f,gR (a.symm.trans b))
 cases a
def Cs(l:?gR)(h:FF c a):Le a (d9 c b):=λf e d=>qH (l f e d) (h f e d)
def HR(h:FF b a):FF b (ot e a):=λd c f=>h d c (AG d c f)
def qP(b e:L)(k:Nat):?iz->?aD->S->?aD->Prop
 |[],f,_,j=>f=[]/\j=[]
 |a::c,f,t,j=>at5 λ(m:S) (n:?aD) (s h d:S) (i l:?au) (o:S) (q:Str) (p:V) (r:?aD)=>f=m::n/\j=h::d::r/\b m=Y (.ins g.d8 s (zt (.str (rK a.pl)) (.int a.slot) (cV (cnt (a::c))) ?J ?dM))/\a.slot<16/\a.n=lT c/\e h=Y (.lst (i++[?j1]))/\R i<=k/\rE b a.pl (cnt (a::c)) i a.5/\pL b o q p t/\pj b a.pl a.key q p/\e d=Y (.lst l)/\R l<=k/\ju b (cnt c) l a.pre/\qP b e k c n d r
theorem qP.mono{i j k l:L}{q r:Nat}(a:Le i j)(d:q<=r):∀{e:?iz} {m:?aD} {s:S} {f:?aD},qP i k q e m s f->(∀b∈f,∀o,k b=Y o->l b=Y o)->qP j l r e m s f
 |[],_,_,_,h,_=>h
 |a9::e,_,_,_,h,c=>by
  let(t,u,x,n,p,w,a8,v,a6,A,a7,y,z,B,P,T,X,a0,a1,a2,a3,a4,C,E,H):=h;subst y z;show(t,u,x,n,p,w,a8,v,a6,A,a7,Z,Z,?eM B,P,T,c n ?c _ X,fZ a0 d,a1.mono a,a2.mono a,a3.mono a,c p ?c _ a4,fZ C d,E.mono a,qP.mono a d H λb a5=>c b (by simp[a5]))
theorem qP.length{k:Nat}:∀{a:?iz} {b:?aD} {l:S} {j:?aD},qP c d k a b l j->R b=R a:=by
 intro i
 induction i with
 |nil=>
  intro _ _ _ h;rw[h.1];rfl
 |cons m a ih=>
  intro _ _ _ h;let(n,o,s,q,a,r,a,p,T,u,X,e,t,v,y,z,A,B,C,E,H,P,w,x,f):=h;subst e;simp[(ih f)]
theorem qP.lT{l:Nat}:∀{b:?iz} {e:?aD} {m:S} {k:?aD},qP c d l b e m k->Rm.lT b=(cnt b).isSome:=by
 intro j
 induction j with
 |nil=>
  intro _ _ _ h;show rfl
 |cons a b ih=>
  intro _ _ _ h;let(n,o,s,q,c,r,c,p,T,v,X,t,u,w,z,i,A,B,C,E,H,P,x,y,f):=h;change(a.pl||a.n)=(if a.pl=M then Y a.slot else cnt b).isSome;rcases b:a.pl with _|_
  .rw[i];simpa using(ih f)
  rfl
def O6:?iz->?ka->Prop
 |[],a=>a=[]
 |b::f,a=>gG λc d e=>kl b.5 c/\kl b.pre d/\O6 f e/\a=c++(d++e)
def sG(a:?ka):?au:=[.int (Rm.ye 0 a),.int (Rm.ye 1 a),.int (Rm.ye 2 a)]
structure jk(l d b:L)(k:S)(s:aP)(j:Nat)(e:List Rm.Lv)(pre:jc->jc)(f c h:S)(r i:List S)(p:List V)(m n o:List (Nat×Nat)):Prop where
 b0:Le l b
 bh:Le d b
 fb:FF l d
 rd:jM b k s j ?bL ?aC ?dM
 kS:b f=Y (.lst (r.reverse.map V.ref))
 lJ:b h=Y (.lst (sG m))
 kH:b c=Y (.lst p)
 xl:p.length<=j
 pa:ju d (cnt e) p pre
 su:qP d b j e r c i
 n1:kl pre n
 n2:O6 e o
 sub:∀a,a∈n\/a∈o->a∈m
 sup:∀a,a∈m->(a∈n\/a∈o)\/∃q∈e,q.pl=M/\a=(q.slot,1)
 nd:(k::f::h::c::i).Nodup
 no:∀a∈k::f::h::c::i,d a=U
 n0:∀a∈k::f::h::c::i,l a=U
 pb:j<=s.length
 dl:e.length<=8
def tR(b c:L)(p:S)(i:aP)(n:Nat)(j:?iz)(pre:jc->jc):=at4 λa k o m h l q d e f=>jk b a c p i n j pre k o m h l q d e f
theorem qP.has{p:Nat}:∀{e:?iz} {j:?aD} {q:S} {f:?aD},qP i d p e j q f->∀c∈f,∃r,d c=Y (.lst r):=by
 intro o
 induction o with
 |nil=>
  intro _ _ _ h c b;rw[h.2]at b;cases b
 |cons s e ih=>
  intro _ _ _ h c b;let(t,u,y,w,a,x,a,v,a,A,a,z,k,B,H,P,m,T,X,a,a,n,C,E,l):=h;subst k;rcases ?i3 with a|a
  .show(_,by rw[a];show m)
  rcases bM.mp a with a|a
  .show(_,by rw[a];show n)
  show(ih l) c a
section
variable{B0 B H H':L}{r:S}{b:aP}{p p':Nat}{ls:List Rm.Lv}{pre vG:jc->jc}{lv pt nm:S}{as mu:List S}{xs:List V}{aM N1 N2:List (Nat×Nat)}
theorem jk.has(h:?aK lv pt nm as mu xs aM N1 N2):∀d∈r::lv::nm::pt::mu,H d≠U:=by
 intro d c a;let(i,j,e,_):=h.rd;simp only[bM]at c;rcases c with rfl|rfl|rfl|rfl|c
 .lia
 .rw[h.5]at a;cases a
 .rw[h.6]at a;cases a
 .rw[h.7]at a;cases a
 let(k,f):=h.su.has d c;rw[f]at a;cases a
theorem jk.new(h:?aK lv pt nm as mu xs aM N1 N2)(c:H a=U):a∉r::lv::nm::pt::mu:=λd=>h.has a d c
def jk.Kc(h:?aK lv pt nm as mu xs aM N1 N2)(c:a∈r::lv::nm::pt::mu):B0 a=U:=h.n0 a c
def jk.move(h:?aK lv pt nm as mu xs aM N1 N2)(a:ij r H H')(rd:?fe p' (.ref pt))(c:p<=p')(l:p'<=R b):jk B0 B H' r b p' ls pre lv pt nm as mu xs aM N1 N2:=by let d:=h.nd;simp only[iu,bM,iw]at d;let((e,f,i,j),_):=d;show{b0:=a.le h.b0 (?e6 r),bh:=a.le h.bh (?dU r),fb:=h.fb,n0:=h.n0,rd:=rd,kS:=?eM (bI e) h.5,lJ:=?eM (bI f) h.6,kH:=?eM (bI i) h.7,xl:=fZ h.xl c,pa:=h.pa,su:=h.su.mono .refl c λq m o k=>?eM (λn=>j (n▸m)) k,n1:=h.n1,n2:=h.n2,sub:=h.sub,sup:=h.sup,nd:=h.nd,no:=h.no,pb:=l,dl:=h.dl}
def jM.keep(rd:jM H r b p f i h)(e:∀d a,(∀n,a≠.lst n)->H d=Y a->H' d=Y a):jM H' r b p f i h:=by let(j,m,k,l):=rd;show(j,m,e _ _ (λ_ c=>nomatch c) k,e _ _ (λ_ c=>nomatch c) l)
def jk.put(h:?aK lv pt nm as mu xs aM N1 N2)(q:ju B (cnt ls) (xs++[f]) vG)(o:kl vG N1)(c:?fH+1<=p):jk B0 B (D H pt (.lst (xs++[f]))) r b p ls vG lv pt nm as mu (xs++[f]) aM N1 N2:=by let i:=h.nd;simp only[iu,bM,iw]at i;let((t,u,v,w),(x,k,y),(l,z),(m,A)):=i;show{b0:=λj d e=>bO (λa=>by rw[a,?e6 pt]at e;cases e) (h.b0 _ _ e),fb:=h.fb,n0:=h.n0,bh:=λj d e=>bO (λa=>by rw[a,?dU pt]at e;cases e) (h.bh _ _ e),rd:=h.rd.keep λs d n e=>bO (λa=>by rw[a,h.7]at e;show n _ (gR e).symm) e,kS:=bO k h.5,lJ:=bO l h.6,kH:=bD,xl:=by simpa using c,pa:=q,su:=h.su.mono .refl ?a2 λj c d e=>bO (λa=>m (a▸c)) e,n1:=o,n2:=h.n2,sub:=h.sub,sup:=h.sup,nd:=h.nd,no:=h.no,pb:=h.pb,dl:=h.dl}
def jk.l8(h:?aK lv pt nm as mu xs aM N1 N2)(j:∀i e,i≠pt->i≠nm->H i=Y e->H' i=Y e)(y:H' pt=Y (.lst (xs++[?d6])))(x:H' nm=Y (.lst (sG k)))(C:ju (?cl (r::lv::nm::pt::mu)) (cnt ls) (xs++[?d6]) vG)(A:kl vG l)(E:∀d,d∈l\/d∈N2->d∈k)(P:∀d,d∈k->(d∈l\/d∈N2)\/∃n∈ls,n.pl=M/\d=(n.slot,1))(f:?fH+1<=p):jk B0 (?cl (r::lv::nm::pt::mu)) H' r b p ls vG lv pt nm as mu (xs++[?d6]) k l N2:=by
 let q:=h.nd;simp only[iu,bM,iw]at q;let((T,X,a,a),(t,u,a),(a,v),(w,a)):=q;let s:Le B H':=λd e a=>j d e (λc=>by rw[c,?dU pt]at a;cases a) (λc=>by rw[c,?dU nm]at a;cases a) (h.bh _ _ a)
 let z:=Fi (Cs s h.fb) h.no;show{b0:=λd e a=>j d e (λc=>by rw[c,?e6 pt]at a;cases a) (λc=>by rw[c,?e6 nm]at a;cases a) (h.b0 _ _ a),fb:=HR xn,n0:=h.n0,bh:=AG.trans wj,rd:=h.rd.keep λi e o a=>j _ _ (λc=>by rw[c,h.7]at a;show o _ (gR a).symm) (λc=>by rw[c,h.6]at a;show o _ (gR a).symm) a,kS:=j _ _ u t h.5,lJ:=x,kH:=y,xl:=by simpa using f,pa:=C,su:=h.su.mono z ?a2 λd f e a=>j _ _ (λc=>w (c▸f)) (λc=>v (c▸f)) a,n1:=A,n2:=h.n2,sub:=E,sup:=P,nd:=h.nd,no:=λd f=>Fk f,pb:=h.pb,dl:=h.dl}
def jk.lb(h:?aK lv pt nm as mu xs aM N1 N2)(f:∀a c,a≠pt->a≠nm->H a=Y c->H' a=Y c):Le B (?cl (r::lv::nm::pt::mu)):=
 Fi (Cs (λi c e=>f i c (λd=>by rw[d,?dU pt]at e;cases e) (λd=>by rw[d,?dU nm]at e;cases e) (h.bh _ _ e)) h.fb) h.no
theorem jk.mono(h:?aK lv pt nm as mu xs aM N1 N2)(a:?eo H'):jk B0 B H' r b p ls pre lv pt nm as mu xs aM N1 N2:=h.move a.but (h.rd.mono a) ?a2 h.pb
theorem jk.arg(h:?aK lv pt nm as mu xs aM N1 N2){i l:S}{c:Nat}{gr:Bool}(j:l∉r::lv::nm::pt::mu)(w:B0 l=U)(v:H l=?j8)(f:∀d o,d≠pt->d≠nm->H d=Y o->H' d=Y o)(n:H i=U)(k:pN H' i (if gr=M then"group" else"any") c l)(y:H' pt=Y (.lst (xs++[?iB])))(x:H' nm=Y (.lst (sG ((c,if gr=M then 1 else 0)::aM))))(u:c<16)(m:?fH+1<=p):tR B0 H' r b p ls (λz=>pre (.arg c gr z)):=by
 let s:l≠pt:=λa=>j ?aH
 let t:l≠nm:=λa=>j ?aH
 let(q,k):=k;show(_,_,_,_,_,_,_,_,_,_,h.l8 f y x ((h.pa.mono (h.lb f)).arg u (q,tH (qH k (.inl (h.b0.no n))) (h.new n)) (tH (qH (f _ _ s t v) (.inl w)) j)) (h.n1.arg c gr) ?_ ?_ m)
 .rintro e (a|a)
  .rcases bM.mp a with a|a
   .rw[a];simp
   show gY _ (h.sub e ?ai)
  show gY _ (h.sub e ?gO)
 intro e m;rcases bM.mp m with a|a
 .grind
 rcases h.sup e a with(a|a)|a
 .show .inl (.inl (gY _ a))
 .lia
 show ?gO
theorem qP.cnt:∀{ls:?iz} {as:?aD} {pt:S} {mu:?aD} {d:Nat},qP B H p ls as pt mu->Sm.cnt ls=Y d->d<16/\∃c∈ls,c.pl=M/\c.slot=d:=by
 intro j
 induction j with
 |nil=>
  intro _ _ _ _ _ a;cases a
 |cons c ls ih=>
  intro _ _ _ d h a;let(o,q,v,t,e,u,xs,s,e,y,e,w,x,z,i,E,P,T,X,e,e,e,A,C,f):=h;let a:(if c.pl=M then Y c.slot else Sm.cnt ls)=Y d:=a;split at a
  .rename_i k;have:=gR a;subst this;show(i,c,by simp,k,Z)
  let(l,e,m,n):=(ih f) a;show(l,e,gY _ m,n)
theorem jk.hash(h:?aK lv pt nm as mu xs aM N1 N2){e l:S}{k:Nat}(n:Sm.cnt ls=Y k)(f:l∉r::lv::nm::pt::mu)(z:B0 l=U)(y:H l=?j8)(d:∀c q,c≠pt->c≠nm->H c=Y q->H' c=Y q)(o:H e=U)(i:pN H' e "group" k l)(E:H' pt=Y (.lst (xs++[?aY])))(A:H' nm=Y (.lst (sG ((k,1)::aM))))(j:?fH+1<=p):tR B0 H' r b p ls (λT=>pre (.hash T)):=by
 let u:l≠pt:=λa=>f ?aH
 let v:l≠nm:=λa=>f ?aH
 let(x,s,w,C,P):=h.su.cnt n;let(t,i):=i;show(_,_,_,_,_,_,_,_,_,_,h.l8 d E A ((h.pa.mono (h.lb d)).hash n x (t,tH (qH i (.inl (h.b0.no o))) (h.new o)) (tH (qH (d _ _ u v y) (.inl z)) f)) h.n1.hash ?_ ?_ j)
 .show λm a=>gY _ (h.sub m a)
 intro m j;rcases bM.mp j with a|a
 .grind
 show h.sup m a
end
def arE{c:Type}{a:List c}{b:Nat}{d:c}(h:a[b]?=Y d):b<R a:=(ig.mp h).1
def CY(f:L)(b:?jY)(args:wm):=∀a:Nat,match ?dF a with
 |.none=>eQ b (gJ ?aO)=U
 |.number e=>eQ b (gJ ?aO)=Y (.int e)/\e.natAbs<10^40
 |.text d=>∃c,eQ b (gJ ?aO)=Y ?aC/\f c=?kc/\R d<=64
def CY.mono{args:wm}(h:CY a d args)(l:?gR):CY b d args:=λc=>by
 have:=h c;revert this;cases ?dF c with
 |none=>lia
 |number m=>show id
 |text k=>show λ(e,f,i,j)=>(e,f,?c5 i,j)
def K3(a:L)(c:S)(args:wm):=∃b,a c=Y (.dK b)/\CY a b args
def f9(a:Str):Sk.Arg->Bool
 |.none=>I
 |.number _=>!decide (a="select")
 |.text _=>decide (a="select")||decide (a="any")
inductive am7(h:V)(j:V)(a:L)(f:VK)(k:XK):Prop
 |i (b c e d l args) (_:h=?av) (_:j=?aC) (_:pN a b e d l) (_:K3 a c args) (_:f (.bl (f9 e (?dF d))) a)
def ao0:Sp:=kq (am7)
example:fP awL ajq T.ajH WX 1 "is_filled" ((ao0)) ["hole","arguments"] [] (bx (?cQ (uK (EE (lc hr) ?l ?a9)) (bw (dM AW))) (bx (?cQ (?B jV ?l (?Y T.ZR)) (bw (dM (aiJ Z T.6 Z T.zi (?ak ?a9 ?l))))) (bw (dM (PD (?iq jV (?Y T.O9)) (CT (Nr Z T.6 Z T.5 (?ak ?a9 ?l)))))))):=by
 let(x,n,c,d,l,args,0,0,(y,z),(v,o,w),b):=h;let m:=w d;lk;show(n,_,Z,lY.k (k:=gJ (d:Int)) o,?_);cases r:?dF d with
 |none=>
  rw[r]at m b;rw[show eQ v (gJ (d:Int))=U from m];lk;lia
 |number p=>
  rw[r]at m b;let(i,t):=m;rw[i];lk;show ?ds
  .let a:c="select":=by injection a
   lk;show ?bW
   lk;show .inl (p,Z,?_);rw[show f9 c (.number p)=I by unfold f9;rw[im a];rfl]at b
   show b
  let a:c≠"select":=λj=>a (by rw[j])
  rw[show f9 c (.number p)=M by unfold f9;rw[gu a];rfl]at b
  lk;by_cases e:c="any"
  .rw[im (fL V.str e)];show kQ b
  rw[gu (λj=>e (by injection j))]
  show ?gd;lk;show ?bW
  lk;show .inl (p,Z,b)
 |text q=>
  rw[r]at m b;let(u,i,t,B):=m;rw[i];lk;show ?ds
  .let a:c="select":=by injection a
   lk;show ?bW
   lk;rw[show f9 c (.text q)=M by unfold f9;rw[im a];rfl]at b
   show .inr (u,_,Z,cZ.of t,b)
  let a:c≠"select":=λj=>a (by rw[j])
  lk;by_cases e:c="any"
  .rw[im (fL V.str e)];rw[show f9 c (.text q)=M by unfold f9;rw[im e,DY]]at b
   show kQ b
  rw[gu (λj=>e (by injection j))]
  rw[show f9 c (.text q)=I by unfold f9;rw[gu a,gu e];rfl]at b
  show ?gd;lk;show ?bW
  lk;show .inr (.inl (u,_,Z,cZ.of t,b))
def PickAt(h:L)(e:Bool)(f:V)(d:Ou):=(e=M/\∃a:Int,f=?cD/\d=.number a/\a.natAbs<10^40)\/(e=I/\bN λb c=>f=?av/\h b=?a1/\d=.word c)
inductive apf(h:V)(t:V)(d:V)(b:L)(r:VK)(u:XK):Prop
 |i (a f c s l k j m q e o) (_:?gR) (_:h=?bL) (_:pN b f (rK c) s l) (_:a l=Y (.lst k)) (_:io a j (.br c) m k) (_:PickAt b c t o) (_:d=.ref q) (_:zf b q e.rules) (_:(∀d∈e.rules,d.category<=5)) (_:∀n p,a n=Y (.lst p)->io a (nE e o j) .it m p->r (.ref n) b)
def are:Sp:=yl (apf)
def aua(a:L)(d:Iz)(c:Ou)(n:Bool)(j:?eQ)(f:jc)(b:?au)(i:Nat):=
 (∃h,io a h (.br n) j (b.drop i)/\nE d c f=nE d c h)\/(i=R b/\mv λpre e m k l=>b=pre++[?aY]/\pL a e "other" m k/\a k=Y (.lst l)/\?eE a (nE d c f) j l)
example:fP Uk ahk T.ahr UP 3 "parts_taken" ((are)) ["hole","argument","terms"] ["category","branch"] (bx (?n 3 Uk.nd (vA (qI (?B jV ?l (?Y T.Ii)) (?aA Uu (F ?dr (?q ?a9))) Jx))) (bx (?fd (tI ?l) (?R 4 Uk.nd) (bx (?cQ (PW.pt (sC (?B jV (?cR (N 4)) (?Y T.Pc)) (ss (?B (zx hr.units) (?cR (N 4)) ?a9)))) (bw (dM (?cR (N 4))))) (bw (?cQ (PW.pt (sC (?B jV (?cR (N 4)) (?Y T.Xx)) (ss (?B jV (?cR (N 4)) ?gH)))) (bw (dM (?cR (N 4)))))))) (bw (dM (?cR (?b ?l ?gB)))))):=by
 let(c4,a,b2,i,l,v,C,e2,c3,e,t,y,0,(e7,e8),d4,d5,a2,0,d6,b6,a3):=h;let c1:=y _ _ d4;lk;show(λe3 m=>H=m/\(b2=M->∀k,t=.number k->e3=.int (As e.rules k)),?_,?_)
 .lk;rcases b2 with _|_
  .rw[gu (show¬V.str (rK I)=V.str "plural" by decide)]
   show jY (rfl,λd=>nomatch d)
  rw[im (show V.str (rK M)=V.str "plural" from rfl)];show ?fU;rcases a2 with⟨_,k,rfl,j,f0⟩|⟨d,_⟩
  .lk;show(c3,k,e.rules,Z,Z,d6,Z,λ_ f3 P=>by rw[j]at P;injection P with P;rw[P])
  cases d
 intro c5 m ξ;let(0,b0):=ξ;lk;show ?iM l (xs:=v) (λp a4 m=>H=m/\aua c4 e t b2 e2 C v p/\∃b3,a4=[Y ?s,Y v2,Y (.ref c3),Y c5,b3]) (rfl,.inl (C,by rw[LW];show d5,Z),U,Z) (λp a4 m _ j=>cJ.of (j.1▸c1)) ?_ ?_
 .intro p e4 a4 m c0 ξ;let(0,b1,b3,0):=ξ;let f1:=arE c0;rcases b1 with⟨b,c,a0⟩|⟨d,_⟩
  rotate_left 1
  .lia
  let b4:v.drop p=e4::v.drop ?fg:=by
   let(c7,d0):=ig.mp c0;rw[<-d0];show Gj c7
  rw[b4]at c;cases b with
  |nil=>show c.elim
  |char _ _=>show c.elim
  |esc _ _=>show c.elim
  |hash _=>show c.elim
  |arg _ _ _=>show c.elim
  |plural _ _ _=>show c.elim
  |select _ _ _=>show c.elim
  |other k=>
   let(a5,a9,q,u,j,(a7,w),o,n):=c;let b5:=y _ _ w;injection j with a8 X;subst a8;let e1:p+1=R v:=by
    have:=fL R X;rw[lC,uX]at this
    lia
   lk;show(.inr (e1,v.take p,a5,a9,q,u,?_,(a7,w),o,?_),_,Z)
   .rw[<-X,<-b4,QV]
   rw[a0];show n
  |branch x k z=>
   let(g1,a5,f2,a9,q,u,j,d3,(a7,w),d2,o,n,a1):=c;let b5:=y _ _ w;injection j with a8 X;subst a8;have stop:C8 e t x=M->nE e t C=k:=λd=>by rw[a0];show bz d
   let go:C8 e t x=I->nE e t C=nE e t z:=λd=>by rw[a0];show bp (by rw[d];decide)
   rw[<-X]at a1;rcases d2 with⟨d,_⟩|⟨_,⟨rfl,f5,e0,rfl,rfl,rfl⟩|⟨rfl,E,e9,rfl,rfl,rfl⟩|⟨rfl,rfl,f4,rfl,d7⟩⟩
   .show bK d d3
   .obtain⟨_,B,rfl,rfl,c2⟩|⟨d,_⟩:=a2
    rotate_left 1
    .cases d
    rw[amg b6 c2 e0]at stop go;lk;show atd ?_;lk;show ?bs
    .lk;show ?fJ
    lk;show ?iX
   .obtain⟨_,B,rfl,rfl,c2⟩|⟨d,_⟩:=a2
    rotate_left 1
    .cases d
    let b0:=b0 Z B Z;subst b0;rw[amf (i:=E) b6 ?d]at stop go
    lk;show ?bs
    .lk;let b:E=As e.rules B:=by
      let b:V.int ((E:Nat):Int)=V.int ((As e.rules B:Nat):Int):=b;injection b with b
      lia
     show ?fJ
    let b:¬E=As e.rules B:=λd=>b (by rw[d])
    lk;show ?iX
   obtain⟨d,_⟩|⟨_,e5,a6,rfl,d1,rfl⟩:=a2
   .cases d
   let c6:C8 e (.word a6) x=decide (x=a6):=by
    change(x==a6)=_;rw[sZ];simp
   rw[c6]at stop go;lk;show xY (cZ.of (y _ _ d7)) (cZ.of d1) ?_;lk;show ?bs
   .lk;show ?fJ
   lk;show ?iX
 intro a4 m ξ;let(0,b1,b3,0):=ξ;lk;rcases b1 with⟨b,c,a0⟩|⟨_,pre,a5,a9,q,u,rfl,⟨a7,w⟩,o,n⟩
 .rw[GN]at c;cases b with
  |nil=>show c.elim
  |char _ _=>show c.elim
  |esc _ _=>show c.elim
  |hash _=>show c.elim
  |arg _ _ _=>show c.elim
  |plural _ _ _=>show c.elim
  |select _ _ _=>show c.elim
  |other k=>let(_,_,_,_,j,_):=c;cases j
  |branch x k z=>let(_,_,_,_,_,_,j,_):=c;cases j
 let b5:=y _ _ w;show pV (cJ.of c1) xA ?_;lk;show a3 q u o n
def LT(a:L)(b:S)(c:?au):=a b=Y (.lst c)\/a b=Y (.tup c)
inductive anj(h:V)(o:V)(r:V)(a:L)(j:VK)(s:XK):Prop
 |i (k d q l n e) (_:h=?gM) (_:pN a k d q l) (_:r=?jN) (_:a n=Y (.tup (bT e))) (_:e.length<=4) (_:((∃b:Int,o=?dk/\b.natAbs<10^40/\∀m c,Le a c->LT c m (bT (if d="group" then MG e b else qg b))->j ?d6 c)\/(d≠"group"/\bN λf p=>o=?bL/\a f=Y (.tup (bT p))/\j ?bL a)))
def apg:Sp:=yl (anj)
example:fP awT al4 T.ama Zq 4 "text_of" ((apg)) ["hole","argument","separator"] [] (bx (?cQ (?B jV ?l (?Y T.CB)) (bw (dM (?aA ajp (?fE ?a9))))) (bw (dM (qI (jD (Nr Z T.6 Z T.5 ?a9)) (?aA Hn (?q ?a9)) ?a9)))):=by
 let(x,m,C,l,u,v,0,(z,B),0,p,r,h):=h;lk;rcases h with⟨n,rfl,k,b⟩|⟨o,w,y,rfl,q,t⟩
 .show ?ds
  .let a:m="group":=by injection a
   rw[bz a]at b;lk;show(n,u,v,Z,Z,k,p,r,λi c e _ d=>b i c e (.inl d))
  let a:m≠"group":=λj=>a (by rw[j])
  rw[bp a]at b;lk;show .inl (n,Z,?_);lk;show(k,λi c e d=>b i c e (.inr d))
 rw[gu (λj=>o (by injection j))]
 lk;show .inr (.inl (w,_,Z,cZ.of q,?_));lk;lia
end Sm
namespace L2
def P2(t:Bg d e j)(u:Bg d e k):Bg d e (λc q a b=>j c q a b\/k c q a b):=λi n s a c r p o b f m l h=>h.elim (t i n s a c r p o b f m l) (u i n s a c r p o b f m l)
end L2
namespace Sm
def vw(b:L)(args:wm):List Rm.Seg->?au->Prop
 |[],a=>a=[]
 |f::h,a=>gG λe rest d=>a=e++rest/\?eE b f.m d e/\(∀c,d=Y c->?dF c=.number f.n)/\vw b args h rest
section
variable{H:L}{args:wm}{w:Iz}
theorem io.none(h:?eE H b c []):b=.nil:=by
 cases b with
 |nil=>rfl
 |char _ _=>let(_,a,_):=h;cases a
 |esc _ _=>let(_,a,_):=h;cases a
 |hash _=>let(_,_,_,_,a,_):=h;cases a
 |arg _ _ _=>let(_,_,_,a,_):=h;cases a
 |plural _ _ _=>let(_,_,_,_,a,_):=h;cases a
 |select _ _ _=>let(_,_,_,_,a,_):=h;cases a
 |branch _ _ _=>show h.elim
 |other _=>show h.elim
theorem vw.nil:∀{a:List Rm.Seg},vw H args a []->?bB a=([],[]):=by
 intro e
 induction e with
 |nil=>
  intro _;show rfl
 |cons f n ih=>
  let(i,j,l):=f;intro h;let(m,rest,k,b,c,_,d):=h;let(0,0):=List.append_eq_nil_iff.mp b.symm;have:=c.none;dsimp only at this;subst this;rw[F3];show ih d
def vw.head:∀{f:List Rm.Seg},vw H args f (m::i)->mv λc d a rest b=>?bB f=?bB (c::d)/\mn (c::d)<=mn f/\i=a++rest/\?eE H c.m b (m::a)/\(∀l,b=Y l->?dF l=.number c.n)/\vw H args d rest:=by
 intro s
 induction s with
 |nil=>
  intro h;cases h
 |cons x d ih=>
  let(t,u,v):=x;intro h;let(a,rest,b,e,j,r,k):=h;rcases a with _|⟨A,a⟩
  .have:=j.none;dsimp only at this;subst this;rw[Td]at e;subst e;let(c,y,a,rest,b,p,z,q):=ih k;show(c,y,a,rest,b,by rw[F3];show p,?_,q)
   unfold mn at*;rw[iF,iF,DV,DV]at*
   lia
  injection e with n o;subst n;show((t,u,v),d,a,rest,b,Z,?a2,o,j,r,k)
theorem io.len:∀{d:jc} {b:?eQ} {a:?au},?eE H d b a->R a<=fk d:=by
 intro d
 induction d with
 |nil=>intro b a h;rw[show a=[]from h];simp
 |char k c ih=>intro b a h;let(e,0,h):=h;have:=ih h;show ca this
 |esc k c ih=>intro b a h;let(e,0,h):=h;have:=ih h;show ca this
 |hash c ih=>intro b a h;let(e,_,_,_,0,_,_,_,_,h):=h;have:=ih h;show ca this
 |arg j m c ih=>intro b a h;let(e,_,_,0,_,_,_,h):=h;have:=ih h;show ca this
 |plural j i c l f=>intro b a h;let(e,_,_,_,0,_,_,_,_,h):=h;have:=f h;change _+1<=fk i+fk c+1;lia
 |select j i c l f=>intro b a h;let(e,_,_,_,0,_,_,_,_,h):=h;have:=f h;change _+1<=fk i+fk c+1;lia
 |branch o d p n f=>intro b a h;show h.elim
 |other d ih=>intro b a h;show h.elim
theorem io.brs(h:io H a (.br d) c b):b≠[]:=by
 cases a with
 |nil=>show h.elim
 |char _ _=>show h.elim
 |esc _ _=>show h.elim
 |hash _=>show h.elim
 |arg _ _ _=>show h.elim
 |plural _ _ _=>show h.elim
 |select _ _ _=>show h.elim
 |branch _ _ _=>let(_,_,_,_,_,_,0,_):=h;simp
 |other _=>let(_,_,_,_,0,_):=h;simp
theorem vw.len:∀{b:List Rm.Seg} {a:?au},vw H args b a->R a<=mn b
 |[],_,h=>by rw[show _=_ from h];simp
 |m::l,_,h=>by
  let(k,rest,j,0,c,i,d):=h;let e:=c.len;let f:=d.len;unfold mn at*;rw[iF,DV,iA]
  lia
def arB(w:Iz)(args:wm)(c:Str)(b:Nat)(d:aP):=(∃a,?dF b=.number a/\d=if c="group" then MG w.sep a else qg a)\/(c≠"group"/\?dF b=.text d)
def at8(args:wm)(d:Bool)(b:Nat)(c:Ou):=(d=M/\∃e,?dF b=.number e/\c=.number e)\/(d=I/\∃a,?dF b=.text a/\c=.word a)
def amY{d:Rm.Seg}(q:?eE H d.m B (j::i))(T:∀c,B=Y c->?dF c=.number d.n):(bN λt a=>j=iT t/\?eE H a B i/\fk a<fk d.m/\∀b,?bB (d::b)=(t::(?bB ?fp).1,(?bB ?fp).2))\/(vJ λh l s y c a=>j=?dM/\c<16/\pN H h y c l/\H l=Y (.lst s)/\?eE H a B i/\fk a<fk d.m/\((f9 y (?dF c)=I/\∀b,?bB (d::b)=((?bB ?fp).1,c::(?bB ?fp).2))\/(f9 y (?dF c)=M/\s=[]/\∃n,arB w args y c n/\∀b,?bB (d::b)=(n++(?bB ?fp).1,(?bB ?fp).2))\/(f9 y (?dF c)=M/\s≠[]/\mv λf e m E k=>y=rK f/\io H e (.br f) m s/\at8 args f c E/\(∀X,m=Y X->?dF X=.number k)/\fk (nE w E e)+fk a<fk d.m/\∀b,?bB (d::b)=?bB ((nE w E e,k,E)::(a,d.n,d.p)::b)))):=by
 let(f,i,j):=d;dsimp only at q T ⊢;cases f with
 |nil=>cases(show _=_ from q)
 |branch _ _ _=>show q.elim
 |other _=>show q.elim
 |char t a=>
  let(C,m,h):=q;injection m with n o;subst n o;show .inl (t,a,Z,h,wT _,λb=>aov w args b i j t a)
 |esc t a=>
  let(C,m,h):=q;injection m with n o;subst n o;show .inl (t,a,Z,h,wT _,λb=>aqv w args b i j t a)
 |hash a=>
  let(C,h,l,c,m,f,x,u,v,r):=q;injection m with n o;subst n o;let d:=T c f;show .inr (h,l,[],_,c,a,Z,x,u,v,r,wT _,.inr (.inl (?_,Z,MG w.sep i,.inl (i,d,(?eZ).symm),λb=>aow w args b i j a)));rw[d];change(!decide (mF "group"=mF "select"))=M;decide
 |arg c A a=>
  let(C,h,l,m,x,u,v,r):=q;injection m with n o;subst n o;show .inr (h,l,[],_,c,a,Z,x,u,v,r,wT _,?_);cases f:?dF c with
  |none=>show .inl (rfl,λb=>amN w args b i j c A a f)
  |number k=>
   show .inr (.inl (by cases A<;>(first|(show(!decide (mF "any"=mF "select"))=M;decide)|(show(!decide (mF "group"=mF "select"))=M;decide)),Z,_,.inl (k,f,Z),λb=>?_))
   rw[amO w args b i j c A a k f];cases A
   .rfl
   rw[?eZ,bz ?i]
  |text e=>
   rcases A with _|_
   .show .inr (.inl (rfl,Z,e,.inr (by decide,f),λb=>amP w args b i j c a e f))
   show .inl (rfl,λb=>alg w args b i j c a e f)
 |plural c e a=>
  let(C,h,l,s,m,x,u,v,r,P):=q;injection m with n o;subst n o;show .inr ?g2
  cases f:?dF c with
  |none=>show .inl (rfl,λb=>VD w args b i j c e a ?ez)
  |text z=>show .inl (rfl,λb=>VD w args b i j c e a ?ez)
  |number k=>
   show .inr (.inr (rfl,r.brs,M,e,Y c,.number k,k,Z,r,.inl (rfl,k,f,Z),λX d=>by rw[<-gR d];show f,?_,λb=>alh w args b i j c e a k f))
   have:=NE w (.number k) e;change _<fk e+fk a+1
   lia
 |select c e a=>
  let(C,h,l,s,m,x,u,v,r,P):=q;injection m with n o;subst n o;show .inr ?g2
  cases f:?dF c with
  |none=>show .inl (rfl,λb=>VE w args b i j c e a ?ez)
  |number z=>show .inl (rfl,λb=>VE w args b i j c e a ?ez)
  |text z=>
   show .inr (.inr (rfl,r.brs,I,e,B,.word z,i,Z,r,.inr (rfl,z,f,Z),T,?_,λb=>ali w args b i j c e a z f));have:=NE w (.word z) e;change _<fk e+fk a+1
   lia
end
inductive apa(u:V)(t:V)(l:V)(a:L)(s:VK)(z:XK):Prop
 |i (n p d j args k e w x q r y b m o) (_:u=?jN) (_:cJ g.K a n p) (_:?eE a d U p) (_:fk d<=5000) (_:t=?dh) (_:K3 a j args) (_:l=?gM) (_:a k=Y (?A e (iX w x (.ref q) (.ref r) y))) (_:a q=Y (.tup (bT b.sep))) (_:b.sep.length<=4) (_:zf a r b.rules) (_:(∀v∈b.rules,v.category<=5)) (_:∀h f e c,Le a c->a h=U->a f=U->c h=Y (.ins g.rB e (EO (.ref f) (.int (AX (kD b args d m o).2:Nat))))->c f=Y (.lst (bT (kD b args d m o).1))->s (.ref h) c)
def aq7:Sp:=yl (apa)
inductive Pr(d:L)(args:wm)(m:Iz)(e:aP×List Nat)(r o q n l j:S)(k:Nat)(t:L2.St)(a:L):Prop
 |i (b:List Rm.Seg) (h:?au) (f:aP) (W:?dK) (p:S) (s:?gP) (_:Le d a) (_:a n=Y (.ins g.rB p (EO ?bk (.int (AX W:Nat))))) (_:a l=Y (.lst (bT f))) (_:a j=Y (.lst h.reverse)) (_:vw d args b h) (_:f++(Rm.out m args b).1=e.1) (_:(∀c,(c∈W\/c∈(Rm.out m args b).2)<->c∈e.2)) (_:k=mn b) (_:k<=5000) (_:t=[?jW,Y ?j1,Y (.ref q),Y ?jN,Y ?dh,s])
example:fP LJ agg T.agn Tw 5 "display_parts" ((aq7)) ["parts","arguments","language"] ["shown","left","part"] (bx (eG (i:=3) LJ.nd rfl ?aJ (P7 amu hr)) (bx (eG (i:=4) LJ.nd rfl ?aJ (F8 rfl rfl T.M6 rfl T.XH (?q ?cJ))) (?iN (wk lZ (Cu (N 4) ?dz) (bx (eG (i:=5) LJ.nd rfl ?aJ (M9 kz W7 W8 M5 (N 4))) (bw (fH (jD (Nr rfl T.Hq rfl T.PB (N 5))) (bw (dO (?aM (bL ?gH rfl) (?q (N 5))))) (bw (fH (nY (jD (?aA ajq (F (N 5) (?q ?a9))))) (bw (EF ?gH (jW M8 bP (bL (N 5) rfl)) O_)) (bw (fH (Cu (bL (N 5) rfl) ?dz) (bw (dO (?eb yP (N 4) (?q (F8 rfl rfl T.M6 rfl T.XH (?q (?aA ahk ?iV))))))) (bw (dO (?eb (P2 yP En) (bL ?gH rfl) (?q (?aA al4 ?iV)))))))))))))))):=by
 obtain⟨e0,h7,m,t,args,d6,o3,q9,v1,h9,n7,v4,w,f0,f2,rfl,p3,l4,q3,rfl,j9,rfl,l2,m4,d4,m6,k2,k⟩:=h;have p9:=fU;obtain⟨n1,k4,c7⟩:=j9;have g3:∀i e2,?dF i=.text e2->e2.length<=250:=λi e2 P=>by
  have:=c7 i;rw[P]at this;obtain⟨_,_,_,h⟩:=this
  lia
 have j2:=alq w args d4 g3 m f0 f2;lk;show alb λa5 v o2 n2 g8 e8 e7 f1 m5=>?_;obtain⟨i3,e8⟩:=e8;lk;intro r b6;lk;have e5:r≠a5:=λa=>by rw[a,e8]at b6;cases b6
 have d3:r≠v:=λa=>by rw[a,m5]at b6;cases b6
 have g4:=n2.no b6;generalize g2:kD w args m f0 f2=R at k j2;show(Pr H args w R e0 t d6 a5 v r,(_,[(m,f0,f2)],h7,[],[],i3,U,by simp_wf,by bv_omega,by bv_omega,bD,(h7,[],U,by simp,l4,λi a=>(nomatch a),rfl),?_,?_,rfl,?_,rfl),?_)
 .rw[F4,g2];rfl
 .rw[F4,g2];simp
 .unfold mn;simp
  lia
 intro q5 r2 c6 ξ;let(f3,e4,E,W,b2,r1,h4,h3,h1,d2,h0,q,u,0,p2,0):=ξ;have z:E.length+(?bB f3).1.length<=1250000:=by
  rw[<-iA,q]
  lia
 lk;rcases e4 with _|⟨j,e4⟩
 .show(I,.inl (_,cJ.of d2,rfl),?_);lk;rw[h0.nil]at q u;rw[mD]at q;show k a5 v b2 c6 h4 g8 e7 ?_ (by rw[<-q];show h1)
  rw[h3,No (l:=W) (m:=R.2) λi=>by rw[<-u i];simp]
 show(M,.inl (_,cJ.of d2,by rw[DL];cases e4.reverse<;>rfl),?_)
 show ?fU;show(λo1 i1=>∃b,b<mn f3/\Pr H args w R e0 t d6 a5 v r b o1 i1,λ_ _ a=>a,?_);obtain⟨c,d,n,rest,d7,m0,q1,rfl,l5,c0,c1⟩:=h0.head (w:=w);rw[m0]at q u z;rw[DL]at d2;have p1:=c1.len;lk;show(r,_,j,rfl,rfl,d2,by simp,?_)
 rw[Gu];have c3:=bO (o:=?eS) (bI e5) h3;have a2:=bO (o:=?eS) (bI d3) h1;have e:?eo (D c6 r ?eS):=h4.put g4;have a7:D c6 r ?eS r=_:=bD;generalize D c6 r ?eS=y at c3 a2 e a7;have q8:mn (c::d)=fk c.m+mn d:=by unfold mn;rw[iF,DV]
 have b0:∀b a3 h6,mn ((b,a3,h6)::d)=fk b+mn d:=λb a3 h6=>by unfold mn;rw[iF,DV]
 rcases amY (w:=w) l5 c0 with⟨i2,b,rfl,a8,l3,a0⟩|⟨h,l,g1,e9,i,b,rfl,l0,⟨d0,k5⟩,g5,a8,l3,k3⟩
 .rw[a0 d]at q u z;lk;show .inl (_,rfl,?_);lk
  .rw[gZ];simp at z;lia
  show(mn (?eA::d),by rw[b0];lia,?eA::d,n++rest,E++[i2],W,b2,_,e.put e7,bO (bI f1) c3,?_,bO d3 a7,(n,rest,d7,rfl,a8,c0,c1),by rw[<-q];simp,u,rfl,by rw[b0];lia,rfl)
  rw[bD];simp only[kF,iD];rfl
 have b5:=?dl k5;have g6:=?dl g5;have p0:=?dl l2;have b3:=?dl k4;have g9:=?dl m4;lk;show .inr (.inr (h,_,_,_,rfl,b5,T.Jl,T.aqq,?_));lk;show(h,t,e9,i,l,args,rfl,rfl,(d0,b5),(n1,b3,c7.mono e),?_);lk;rcases k3 with⟨b4,a0⟩|⟨b4,rfl,c5,h2,a0⟩|⟨b4,k1,e1,bm,h5,p,a3,rfl,k0,m2,l9,q0,a0⟩
 .rw[b4];lk;rw[a0 d]at q u z;show((by lia,by lia,by decide),?_)
  lk;rw[show Mg ((AX W:Nat):Int) (1*2^((i:Nat):Int).toNat)=((AX W|||2^i:Nat):Int)by
   rw[Bits.ZH ?d (by rw[Ee];show ahP (ai2 ?i))]
   rw[Ee,uh,uh];rfl,Zd l0]
  show(mn (?eA::d),by rw[b0];lia,?eA::d,n++rest,E,W++[i],b2,_,e.put g8,bD,bO f1 a2,bO e5 a7,(n,rest,d7,rfl,a8,c0,c1),q,?_,rfl,by rw[b0];lia,rfl)
  intro n0;rw[<-u n0];simp only[iE,lX,bM,kK,or_false];constructor
  .rintro((a|a)|a)
   .show ?ai
   .show ?ab
   show .inr ?gO
  rintro(a|a|a)
  .show .inl ?ai
  .show .inl ?gO
  show ?gO
 .rw[b4];rw[a0 d]at q u z;have q6:c5.length<=250:=by
   have d1:=z;rw[iA]at d1;rcases h2 with⟨j,_,rfl⟩|⟨_,P⟩
   .split
    .show Mx _ d4 _
    show VC _
   show g3 _ _ P
  have fin:∀(a9:S) a6,Le y a6->∃b,b<mn f3/\Pr H args w R e0 t d6 a5 v r b [Y (.ref e0),Y (.ref t),Y (.ref d6),Y (.ref a5),?jW,Y ?dM] (D a6 v (.lst (bT E++bT c5))):=by
   intro a9 a6 B;show(mn (?eA::d),by rw[b0];lia,?eA::d,n++rest,E++c5,W,b2,_,(e.trans B).put e7,bO (bI f1) (B _ _ c3),?_,bO d3 (B _ _ a7),(n,rest,d7,rfl,a8,c0,c1),by rw[<-q];simp,u,rfl,by rw[b0];lia,rfl)
   rw[bD];simp only[kF,iD]
  have f4:(bT E).length+(bT c5).length<=cw:=by
   rw[gZ,gZ];rw[iA]at z
   lia
  lk;show(I,.inl (_,cJ.of g6,rfl),?_);lk;have x:=c7 i;rcases h2 with⟨j,X,rfl⟩|⟨l1,X⟩
  .rw[X]at x;obtain⟨a4,C⟩:=x;show(t,_,rfl,by rw[<-a4];show ?ge,?_)
   lk;show(_,_,_,rfl,h,e9,i,l,h9,w.sep,rfl,(d0,b5),rfl,g9,d4,.inl (j,rfl,C,λa9 a6 B c2=>?_));rcases c2 with c2|c2
   .show .inl (v,a9,_,_,rfl,rfl,B _ _ a2,c2,f4,fin a9 a6 B)
   show .inr (v,a9,_,_,rfl,rfl,B _ _ a2,cZ.of c2,f4,fin a9 a6 B)
  rw[X]at x;obtain⟨c4,a4,C,n6⟩:=x;show(t,_,rfl,by rw[<-a4];show ?ge,?_)
  lk;show(_,_,_,rfl,h,e9,i,l,h9,w.sep,rfl,(d0,b5),rfl,g9,d4,.inr (l1,c4,c5,rfl,?dl C,?_));show .inr (v,c4,_,_,rfl,rfl,a2,cZ.of (?dl C),f4,fin c4 y .refl)
 rw[b4];rw[a0 d]at q u z;have go:∀j,PickAt y e1 j p->lY y t (.int i) (Y j)->bN λb1 f5=>V.ref t=V.ref b1/\lY y b1 (.int i) (Y f5)/\(j=f5/\PickAt y e1 f5 p):=λj d1 i4=>(t,j,rfl,i4,rfl,d1);obtain⟨j,q2,m3⟩:∃j,lY y t (.int i) (Y j)/\PickAt y e1 j p:=by
  have x:=c7 i;rcases m2 with⟨P,j,X,e3⟩|⟨P,c4,X,e3⟩
  .rw[X]at x;obtain⟨a4,C⟩:=x;show(.int j,by rw[<-a4];show ?ge,.inl (P,j,rfl,e3,C))
  rw[X]at x;obtain⟨b1,a4,C,n6⟩:=x;show(.ref b1,by rw[<-a4];show ?ge,.inr (P,b1,c4,rfl,?dl C,e3))
 lk;show(M,.inl (_,cJ.of g6,by cases g1 with|nil=>show bK rfl k1|cons _ _=>rfl),?_)
 lk;show(_,_,_,rfl,H,h,e1,i,l,g1,bm,h5,n7,w,p,e,rfl,(d0,b5),g5,k0,m3,rfl,m6.mono e,k2,λq7 h8 m1 g7=>?_);have p4:=?dl m1;have o7:=g7.len;lk;intro d5 a1;have n3:r≠d5:=λa=>by rw[<-a,a7]at a1;cases a1
 have n5:a5≠d5:=λa=>by rw[<-a,c3]at a1;cases a1
 have n4:v≠d5:=λa=>by rw[<-a,a2]at a1;cases a1
 have q4:(n++rest).length<=5000:=by
  have d1:=a8.len;rw[iA]
  lia
 show(r,d5,_,_,rfl,rfl,bO n3 a7,bD,?_,?_)
 .rw[GB,GB]
  lia
 show(?ir,?_,(nE w p bm,a3,p)::?eA::d,h8++(n++rest),E,W,b2,_,(e.f7 a1).put g4,bO (bI e5) (bO n5 c3),bO (bI d3) (bO n4 a2),?_,(h8,n++rest,h5,rfl,g7,l9,n,rest,d7,rfl,a8,c0,c1),q,u,rfl,?_,rfl)
 .rw[show ?ir=fk (nE w p bm)+(fk b+mn d)by unfold mn;simp]
  lia
 .rw[bD];simp
 rw[show ?ir=fk (nE w p bm)+(fk b+mn d)by unfold mn;simp]
 lia
def lP{d:Type}{a:List d}{b:Nat}{c:d}(h:a[b]?=Y c):?cf=c::a.drop ?a4:=by let(e,f):=ig.mp h;rw[<-f];show Gj e
def AD{c:Type}{a:List c}{b:Nat}(h:a[b]?=U):?cf=[]:=Bx (QF.mp h)
def qm{c:Type}{a:List c}{b:Nat}{d:c}(h:a[b]?=Y d):b<R a:=(ig.mp h).1
def yj:aP:=[48,49,50,51,52,53]
def J_:jN "012345" yj:=?g
def OD(a:UInt8):yj.contains a=M<->48<=a.toNat/\a.toNat<=53:=by
 have:=vx (P:=λa=>yj.contains a==decide (48<=a.toNat/\a.toNat<=53)) ?w a
 rw[jT]at this;rw[this,ja]
def aoT{a:Nat}(h:jf c a qh=I):uv a (c.drop a)=?gy:=by
 unfold jf at h;rcases d:c[a]? with _|i
 .rw[AD d];rfl
 rw[d]at h;let e:mZ i=I:=by rw[<-xk];show h
 let j:i≠49:=λk=>by rw[k]at e;revert e;decide
 rw[lP d];unfold uv;split
 .rename_i b;injection b with f _;show bK f j
 .rename_i b;injection b with f _;subst f;rw[bp (by rw[e];decide)]
 rename_i b;cases b
def aoV{b:aP}{a:Nat}{c:UInt8}(h:b[a]?=Y 49)(d:b[a+1]?=Y c)(e:yj.contains c=M):uv a ?bR=.ok (10+(c.toNat-48),(a+2,b.drop (a+2))):=by rw[lP h,lP d];unfold uv;simp only[bz ((OD c).mp e)]
def aoU{a:Nat}(h:b[a]?=Y c)(k:qh.contains c=M)(l:¬(c=49/\jf b ?aN yj=M)):uv a ?bR=.ok (c.toNat-48,(a+1,b.drop ?aN)):=by
 let m:mZ c=M:=by rw[<-xk];show k
 rw[lP h];unfold uv;split
 .rename_i f o d;injection d with i e;subst i;let j:b[a+1]?=Y f:=by
   have:(b.drop ?aN)[0]?=Y f:=by rw[e];rfl
   rwa [vP]at this
  rw[bp (λn=>l (rfl,by unfold jf;rw[j];show(OD f).mpr n)),e]
  rfl
 .rename_i d;injection d with i e;subst i e;rw[bz m]
 rename_i d;cases d
inductive aq9(o:V)(e:L)(n:VK)(m:XK):Prop
 |i (d a b j l k) (_:o=?J) (_:jM e d a b j l k) (_:b<=a.length) (_:(∀f,uv b ?cf=.error f->?eu d e [.int f] m)) (_:(∀h c,uv b ?cf=.ok (h,(c,a.drop c))->c<=a.length->FS e d a c j l k (n (.int h))))
def asT:Sp:=ic (aq9)
def Lg:?cd ["self","slot"] (eO RO):=(rfl,Z,Z,by decide+kernel,Z,by decide+kernel,by decide+kernel)
theorem Lr[c:?da]:?ec 6 "take_slot" (asT):=uJ c.Lr Lg ?v nI λb5 b4 b1 c2 c4 b3 c6 P b2 u h=>by
 let(c5,0,h):=h;show(_,(bx (?n 1 Lg.nd (?U c.gw DH u (?q (?Y c.ES)))) (?cz (?cQ (PW.pt (sC (?B jV ?a9 bP) (ss (jD (?U c.gw tp u (?q (?Y c.Sa))))))) (bw (?n 1 Lg.nd (jW vy bP (?U c.gw DH u (?q (?Y c.Sa))))))))),?_)
 try dsimp only[eJ,jC,jF,jA]
 let(j,e,d,l,n,m,0,(a0,b0,a2,a3),a4,a7,E):=h;lk;show(j,e,d,l,n,m,qh,Z,(a0,b0,a2,a3),a4,.inl (_,Z,Er),λb t A w x a9=>?_,λo=>a7 d (aoT o));let(k,p,s,z):=a9;let c0:=uo.mp (by rw[<-xk];show A:mZ b=M)
 let c3:=qm t;lk;let fin:¬(b=49/\jf e (d+1) yj=M)->∀a,ij j w a->jM a j e (d+1) l n m->P (.int (?bz-48)) a:=λa8 a T a5=>by
  have:=E _ _ (aoU t A a8) ?d a (x.trans T) a5
  rw[show((b.toNat-48:Nat):Int)=?bz-48 by lia]at this
  show this
 show hU (λf=>?_) (λf=>?_)
 .let a1:b=49:=by
   let f:V.int (?bz-48)=V.int 1:=f;injection f with f;show rW.mp (by change b.toNat=49;lia)
  subst a1;lk;show(j,e,d+1,l,n,m,yj,Z,(k,p,s,z),by lia,.inl (_,Z,J_),λa v=>?_)
  lk;rcases y:jf e (d+1) yj with _|_
  .lk;show fin (λq=>by rw[y]at q;cases q.2) a v.but (k,p,by bv_omega,by bv_omega)
  lk;let b6:a j=_:=v _ _ s;lk;show(j,e,d+1,l,n,m,yj,Z,(k,p,by bv_omega,by bv_omega),by lia,.inl (_,Z,J_),λr B C H X a6=>?_,λo=>by rw[y]at o;cases o)
  let c1:=(OD r).mp C;lk;have:=E _ _ (aoV t B C) (by have:=qm B;lia) H (x.trans (v.but.trans X)) a6
  rw[show((10+(r.toNat-48):Nat):Int)=10+((r.toNat:Int)-48)by lia]at this
  show this
 lk;show fin (λq=>f (by rw[q.1];rfl)) w (Le.refl.but) (k,p,s,z)
def Bj:aP:=[49,50,51,52,53,54,55,56,57]
def arq:jN "123456789" Bj:=?g
def OE(a:UInt8):Bj.contains a=M<->49<=a.toNat/\a.toNat<=57:=by
 have:=vx (P:=λa=>Bj.contains a==decide (49<=a.toNat/\a.toNat<=57)) ?w a
 rw[jT]at this;rw[this,ja]
def Zx:jN "-" [45]:=?g
def IS(a b:UInt8):[b].contains a=M<->a=b:=by simp
def zk{b:Nat}:jf a b [c]=M<->a[b]?=Y c:=by
 unfold jf;rcases a[b]? with _|d
 .simp
 simp
def Q3(a:aP)(b:Nat)(c:Int):=c≠0/\jf a b qh=M
inductive api(o:V)(f:L)(n:VK)(h:XK):Prop
 |i (d a c k m l) (_:o=?J) (_:jM f d a c k m l) (_:c<=a.length) (_:(∀j,uA c (a.drop c)=.error j->?eu d f [.int j] h)) (_:(∀e b,uA c (a.drop c)=.ok (e,(b,?cf))->b<=a.length->(Q3 a b e->?eu d f [?dk] h)/\(¬Q3 a b e->e.natAbs<10^40->FS f d a b k m l (n (.int e)))))
def ark:Sp:=ic (api)
def Bt:?cd ["self","sign","value","longer"] (eO QC):=(rfl,Z,Z,by decide+kernel,Z,by decide+kernel,by decide+kernel)
theorem KB[u:?da]:?ec 6 "take_whole_number" (ark):=uJ u.KB Bt ?v nI λa a a a a T a a3 a E h=>by
 let(a,0,h):=h;show(_,(bx (?n 1 Bt.nd bP) (nh (?cQ (jD (?U u.gw tp E (?q lI))) (bx (dO (?U u.gw oW E (?q lI))) (bw (?n 1 Bt.nd ?gB)))) (bx (?n 2 Bt.nd (jW CS ?a9 (?U u.gw DH E (?q (vA (qI (?B jV ?a9 bP) (?Y u.ES) (?Y u.afi))))))) (?jn (wk lZ (PW.pt (sC (?B wH ?dr bP) (ss (jD (?U u.gw tp E (?q (?Y u.ES))))))) (bx (?n 3 Bt.nd (jW vy (jW CS ?dr bP) (jW CS ?a9 (jW Fu (?b ?l ?l) (?dQ u.9))))) (bx (?cQ (nY (jD (cQ SB E (?q ?gH)))) (bw (Dl Iu E (?q ?l)))) (bx (dO (?U u.gw oW E (?q (?Y u.ES)))) (bw (?n 2 Bt.nd ?gH)))))))))),?_)
 try dsimp only[eJ,jC,jF,jA]
 let(r,b,e,w,y,x,0,(a,k,l,d),c,a7,a0):=h;let f:(-1:Int)=-1:=rfl;lk;show(λE v=>∃(m:Bool),ij r T v/\jM v r b (if m=M then e+1 else e) w y x/\(m=M<->b[e]?=Y 45)/\E=[?jW,Y (.int (if m=M then-1 else 1)),U,U],?_,?_)
 .lk;show(r,b,e,w,y,x,[45],Z,(a,k,l,d),c,.inl (_,Z,Zx),λs f=>?_);lk;rcases j:jf b e [45]with _|_
  .lk;show(I,f.but,(a,k,by bv_omega,by bv_omega),(λd=>(by cases d),λd=>by rw[zk.mpr d]at j;cases j),Z)
  let u:s r=_:=f _ _ l;lk;show(r,b,e,w,y,x,[45],Z,(a,k,by bv_omega,by bv_omega),c,.inl (_,Z,Zx),λo a a q A C=>?_,λa=>by rw[j]at a;cases a)
  lk;show(M,f.but.trans A,C,(λ_=>zk.mp j,λ_=>rfl),Z)
 intro E s ξ;let(m,a1,f,l,0):=ξ;generalize z:(if m=M then e+1 else e)=p at f;let a6:p<=R b:=by
  rw[<-z];rcases m with _|_
  .simpa using c
  have:=qm (l.mp Z);simp;lia
 let(a4,a8,a2,a5):=f;generalize f:(if m=M then(-1:Int)else 1)=sgn;generalize c:(if m=M then tP.toNat.succ else tP.toNat)=most;let k:tP.toNat=9223372036854775807:=rfl;let t:(sgn=1/\m=I/\most=9223372036854775807)\/(sgn=-1/\m=M/\most=9223372036854775808):=by
  rw[<-f,<-c,k];cases m
  .show .inl (rfl,Z,Z)
  show .inr (rfl,Z,Z)
 have first:∀j,b[p]?=Y j->(if m=M then Bj else qh).contains j=M->∀q,ij r s q->jM q r b ?fg w y x->∃c:Nat,sgn*((j.toNat:Int)-48)=sgn*?dX/\((c=0/\?ci=.ok (0,(p+1,b.drop ?fg)))\/(1<=c/\c<=most/\?ci=.ok (sgn*((nF most c ?fg (b.drop ?fg)).1:Int),(nF most c ?fg (b.drop ?fg)).2))):=by
  intro j H P q A C;show(j.toNat-48,?_,?_)
  .have:48<=j.toNat:=by
    cases m with
    |false=>show(uo.mp (by rw[<-xk];show P:mZ j=M)).1
    |true=>have:=(OE j).mp P;lia
   congr 1
   lia
  .cases m with
   |true=>
    let X:=(OE j).mp P;let B:=l.mp Z;simp at z;subst z;rcases t with⟨_,d,_⟩|⟨f,_,n⟩
    .cases d
    subst f n;show .inr (by lia,by lia,?_)
    rw[lP B,lP H,anu _ _ _ X,k];simp
   |false=>
    let X:=uo.mp (by rw[<-xk];show P:mZ j=M)
    simp at z;subst z;rcases t with⟨f,_,n⟩|⟨_,d,_⟩
    .subst f n;by_cases d:j=48
     .subst d;show .inl (rfl,by rw[lP H,alU])
     .have:j.toNat≠48:=λa=>d (rW.mp a);show .inr (by lia,by lia,?_)
      rw[lP H,anv _ _ _ (by lia,X.2),k]
      simp
    .cases d
 let X:jf b p (if m=M then Bj else qh)=I->?ci=.error p:=by
  intro a;rcases m with _|_
  .simp at z;subst z;unfold jf at a;rcases k:b[e]? with _|j
   .rw[AD k];rfl
   rw[k]at a;rw[lP k];show ant _ _ _ (λd=>?_) (by rw[<-xk];show a)
   have:=l.mpr (by rw[k,d])
   cases this
  let B:=l.mp Z;simp at z;subst z;rw[lP B];unfold jf at a;rcases k:b[e+1]? with _|j
  .rw[AD k];rfl
  rw[k]at a;rw[lP k];show ahO _ _ _ λd=>?_;let a:Bj.contains j=I:=a;rw[(OE j).mpr d]at a;cases a
 let fin:∀(c a:Nat) (q:L),ij r T q->jM q r b a w y x->a<=R b->((c=0/\?ci=.ok (0,(a,?bR)))\/(c<=most/\jf b a qh=I/\?ci=.ok (sgn*?dX,(a,?bR))))->a3 (.int (sgn*?dX)) q:=by
  intro c a q A C B l;rcases l with⟨k,l⟩|⟨k,z,l⟩
  .subst k;have:=((a0 0 a l B).2 (λd=>d.1 Z) ?i) q A C
   simpa using this
  show((a0 _ a l B).2 (λd=>by have:=d.2;rw[z]at this;cases this) ?_) q A C
  rcases t with⟨f,_,n⟩|⟨f,_,n⟩<;>subst f n<;>lia
 show(_,Z,_,Z,_,_,_,Z,a2,Z,?_);show(λz v=>s=v/\∃d,z=.str d/\jN d (if m=M then Bj else qh),?_,?_)
 .lk;rcases t with⟨f,n,_⟩|⟨f,n,_⟩
  .subst f n;rw[im Z];show kQ (rfl,_,Z,Er)
  subst f n;rw[gu ?i]
  show jY (rfl,_,Z,arq)
 intro z m ξ;let(0,d,0,m):=ξ;lk;show(r,b,p,w,y,x,_,Z,(a4,a8,a2,a5),a6,.inl (_,Z,m),λj H P q A C=>?_,λa=>(a7 p (X a)).mono a1);let(c,m,l):=first j H P q A C;let j:=qm H;lk;show ?eB
 dsimp only;rw[m];lk;show(λj q v=>gG λ(c a:Nat) (z:?gP)=>ij r T v/\jM v r b a w y x/\a<=R b/\j=R b-a/\q=[?jW,Y (.int sgn),Y (.int (sgn*?dX)),z]/\?bO,(_,c,p+1,U,a1.trans A,C,by lia,Z,Z,l),?_)
 clear l m c;intro j q C ξ;let(c,a,z,j,(m,q,u,A),B,0,0,l):=ξ;lk;let s:(V.int (sgn*?dX)=V.int 0)<->c=0:=by
  constructor
  .intro d;injection d with d;rcases t with⟨f,_⟩|⟨f,_⟩<;>rw[f]at d<;>lia
  intro d;rw[d];simp
 by_cases p:c=0
 .rw[im (s.mpr p)];show ?gd;lk;show fin c a C j (m,q,u,A) B ?_;rcases l with l|l
  .show .inl l
  lia
 rw[gu (λd=>p (s.mp d))];let(s,C,l):1<=c/\c<=most/\?ci=.ok (sgn*((nF most c a ?bR).1:Int),(nF most c a ?bR).2):=by
  rcases l with l|l
  .show bK l.1 p
  show l
 lk;show(r,b,a,w,y,x,qh,Z,(m,q,u,A),B,.inl (_,Z,Er),λp X=>?_);lk;have stop:(nF most c a ?bR)=(c,(a,?bR))->?ci=.ok (sgn*?dX,(a,?bR)):=λd=>by rw[l,d]
 rcases s:jf b a qh with _|_
 .lk;show fin c a p (j.trans X.but) (m,q,by bv_omega,by bv_omega) B (.inr (C,s,stop ?_))
  unfold jf at s;rcases k:b[a]? with _|o
  .rw[AD k];rfl
  rw[k]at s;let p:mZ o=I:=by rw[<-xk];show s
  rw[lP k];unfold nF;rw[bp (λd=>by rw[p]at d;cases d.1)]
 let H:=X _ _ u;let u:=X _ _ A;rcases k:b[a]? with _|o
 .unfold jf at s;rw[k]at s;cases s
 let p:mZ o=M:=by
  unfold jf at s;rw[k]at s;rw[<-xk];show s
 let A:=uo.mp p;let A:=qm k;let A:sgn*?dX*10+sgn*((o.toNat:Int)-48)=sgn*((10*c+(o.toNat-48):Nat):Int):=by
  rcases t with⟨f,_⟩|⟨f,_⟩<;>rw[f]<;>lia
 let C:?cT<->10*c+(o.toNat-48)<=most:=by
  rcases t with⟨f,_,n⟩|⟨f,_,n⟩<;>rw[f,n]<;>lia
 let P:c<=9223372036854775808:=by rcases t with⟨_,_,n⟩|⟨_,_,n⟩<;>lia
 show(λE v=>∃n,n<R b-a/\gG λ(c a:Nat) (z:?gP)=>ij r T v/\jM v r b a w y x/\a<=R b/\n=R b-a/\E=[?jW,Y (.int sgn),Y (.int (sgn*?dX)),z]/\?bO,λ_ _ d=>d,?_)
 lk;show(.inl (by rcases t with⟨f,_⟩|⟨f,_⟩<;>rw[f]<;>show ?iu),?_)
 lk;show uc (cZ.of u) (xP k) ?_;lk;show ?eB
 lk;rw[JH];dsimp only;rw[show((48:Nat):Int)=48 from rfl,A,show decide ?cT=decide (10*c+(o.toNat-48)<=most)from decide_eq_decide.mpr C];let e:=lP k;by_cases T:10*c+(o.toNat-48)<=most
 .rw[im T];lk;show(r,b,a,w,y,x,qh,Z,(m,q,H,u),B,.inl (_,Z,Er),λk k _ k k m=>?_,λd=>by rw[s]at d;cases d)
  lk;show(R b-?aN,by lia,10*c+(o.toNat-48),a+1,_,j.trans (X.but.trans k),m,by lia,Z,Z,.inr (by lia,T,?_))
  rw[l,e]
  conv=>lhs;unfold nF
  rw[bz (p,T)]
 rw[gu T];lk;show CF (XB.xr (((a0 _ a (stop ?_) B).1 (?_,s)).mono j) X.but)
 .rw[e];unfold nF;rw[bp (λd=>T d.2)]
 rcases t with⟨f,_⟩|⟨f,_⟩<;>rw[f]<;>lia
end Sm
namespace L2
section
variable{α:Type}{K:cp}{a:S}{zs:List α}{f:α->V}{P:α->Bool}{g:TG}{te:TE}{tt:TT}{vs:List Nat}{σ:St}{H1:L}{aE:S}{Qd:L->Prop}
def Ck{c:Nat}(h:zs[c]?=Y b):(zs.take (c+1)).filter P=(zs.take c).filter P++(if P b=M then[b]else[]):=by rw[take_snoc h,aeE];congr 1;cases d:P b<;>simp[d]
def aol(y:cJ K H1 a (zs.map f))(w:H1 aE=U)(C:R zs<=cw)(z:∀b e,zs[b]?=Y e->∀(t:VK) (s:L->Prop),(P e=M->t (f e) (?aw H1))->(P e=I->s (?aw H1))->g (f e) ?b1 (?aw H1) λh m=>b7 h vs=?b1/\tt h m λo j=>if o=M then te h j t else s j)(x:Qd (?j6 ?jC)):∃W:Nat->Nat->L->Prop,(∃l,?c3 l)/\∀b l d,W b l d->((sP K a).stop b d/\Qd d)\/((sP K a).go b d/\∃Nx:L->Prop,(∀i,Nx i->∃u,u<l/\W ?a4 u i)/\∀q i,(sP K a).2 b d q i->g q ?b1 i λh m=>b7 h vs=?b1/\tt h m λo j=>
 if o=M then te h j λA r=>∃n,r aE=Y (.lst n)/\R n<cw/\Nx (D r aE (.lst (n++[A])))else Nx j):=by
 show Fh (xs:=zs.map f) (H1:=H1) (aE:=aE) (λb d=>d=?aw H1) Z (λb d _ c=>?_) (λb q d k c=>?_) λd c=>?_
 .rw[c];show cJ.mono y (Sm.Le.new w)
 .subst c;rw[iC]at k;rcases c:zs[b]? with _|e
  .simp_all
  rw[c]at k;cases k;let B:b<R zs:=(ig.mp c).1;show z b e c _ _ (λp=>(_,bD,?_,?_)) (λp=>?_)
  .let v:=Gq P (zs.take b);rw[jR]at v;rw[ft]
   lia
  .rw[JR,Ck c,bz p,iD];rfl
  rw[Ck c,bp (by rw[p];decide),mD]
 rw[c,ft,nP];lia
def aom(y:cZ K H1 a (zs.map f))(w:H1 aE=U)(C:R zs<=cw)(z:∀b e,zs[b]?=Y e->∀(t:VK) (s:L->Prop),(P e=M->t (f e) (?aw H1))->(P e=I->s (?aw H1))->g (f e) ?b1 (?aw H1) λh m=>b7 h vs=?b1/\tt h m λo j=>if o=M then te h j t else s j)(x:Qd (?j6 ?jC)):∃W:Nat->Nat->L->Prop,(∃l,?c3 l)/\∀b l d,W b l d->((sQ K a).stop b d/\Qd d)\/((sQ K a).go b d/\∃Nx:L->Prop,(∀i,Nx i->∃u,u<l/\W ?a4 u i)/\∀q i,(sQ K a).2 b d q i->g q ?b1 i λh m=>b7 h vs=?b1/\tt h m λo j=>
 if o=M then te h j λA r=>∃n,r aE=Y (.lst n)/\R n<cw/\Nx (D r aE (.lst (n++[A])))else Nx j):=by
 show M0 (xs:=zs.map f) (H1:=H1) (aE:=aE) (λb d=>d=?aw H1) Z (λb d _ c=>?_) (λb q d k c=>?_) λd c=>?_
 .rw[c];show cZ.mono y (Sm.Le.new w)
 .subst c;rw[iC]at k;rcases c:zs[b]? with _|e
  .rw[c]at k;cases k
  rw[c]at k;cases k;let B:b<R zs:=(ig.mp c).1;show z b e c _ _ (λp=>(_,bD,?_,?_)) (λp=>?_)
  .let v:=Gq P (zs.take b);rw[jR]at v;rw[ft]
   lia
  .rw[JR,Ck c,bz p,iD];rfl
  rw[Ck c,bp (by rw[p];decide),mD]
 rw[c,ft,nP];show x
def apk{b:Nat}{xs ys:?au}{n:VK}(q:σ[b]?=Y (Y ?s))(h:Sm.Seq K c a xs)(p:R ys=?fH)(r:R ys<=cw)(s:∀aE b i j,c aE=U->xs[b]?=Y i->ys[b]?=Y j->∀(d:VK),d j (?aZ c)->g i ?b1 (?aZ c) λt u=>b7 t vs=?b1/\te t u d)(o:∀aE,c aE=U->n (.ref aE) (D c aE (.lst ys))):?gp vI n:=by
 rcases h with h|h
 .show .inl (_,q,_,Z,(_,h),λaE e=>IP h e p r (λb i j l m d k=>s aE b i j e l m d k) (o aE e))
 show .inr (_,q,_,Z,(_,h),λaE e=>ON h e p r (λb i j l m d k=>s aE b i j e l m d k) (o aE e))
def anm{b:Nat}{p:VK}(r:σ[b]?=Y (Y ?s))(i:Sm.Seq K c a (zs.map f))(k:R zs<=cw)(s:∀aE b e,c aE=U->zs[b]?=Y e->∀(d:VK) (j:L->Prop),(P e=M->d (f e) (?aw c))->(P e=I->j (?aw c))->g (f e) ?b1 (?aw c) λn t=>b7 n vs=?b1/\tt n t λu o=>if u=M then te n o d else j o)(q:∀aE,c aE=U->p (.ref aE) (D c aE ?jC)):?gp tt p:=by
 rcases i with i|i
 .show .inl (_,r,_,Z,(_,i),λaE h=>aol i h k (λb e k d j l m=>s aE b e h k d j l m) (q aE h))
 show .inr (_,r,_,Z,(_,i),λaE h=>aom i h k (λb e k d j l m=>s aE b e h k d j l m) (q aE h))
end
end L2
namespace Sm
def Ox(b:List ?i0):=∀a∈b,jN a.1 a.2
def arr(h:jN b a):Q b.cps=R a:=by have:=fL R h.1;rw[gZ]at this;simpa[uN]using this
def N8(h:jN b c){a:Nat}(f:c[a]?=Y d):b.cps.toList[a]?=Y d.toNat:=by
 have:=fL (λl=>l[a]?) h.1;simp only[uN,kF,iC,f]at this;rcases e:b.cps.toList[a]? with _|i
 .rw[e]at this;cases this
 rw[e]at this;have this:=gR this;unfold iT at this;injection this with this;rw[uZ this]
def pU(d:List ?i0)(b:aP)(a:Nat):List ?i0:=d.filter λc=>decide (c.2.take a=?ii)
theorem Oy(c:List ?i0)(a:aP)(b:Nat):(pU c a b).map pc=f_ (c.map pc) a b:=by unfold pU f_;rw[af2];rfl
theorem ZF(a:List ?i0)(b:aP):pU a b 0=a:=by simp[pU]
def IF{a:Nat}:b∈pU d c a<->b∈d/\b.2.take a=?fN:=by simp[pU]
def Pb{c:Nat}(h:a∈pU d b c):a.2∈f_ (d.map pc) b c:=by rw[<-Oy];show eM.mpr (a,h,Z)
def NX{a:Nat}(l:c[a]?=Y i)(m:∀b∈pU h c a,a<b.2.length):pU h c ?aN=(pU h c a).filter λb=>decide (b.2[a]?=Y i):=by
 let(j,k):=ig.mp l;let o:∀b∈h,decide (b.2.take ?aN=c.take ?aN)=(decide (b.2[a]?=Y i)&&decide (b.2.take a=?fN)):=by
  intro b n;by_cases e:b.2.take a=?fN
  .let f:=m b (IF.mpr (n,e));rw[im e,mE];show decide_eq_decide.mpr (λd=>?_,λd=>?_)
   .rw[gv f,((Mo f j).mp d).2,k]
   show(Mo f j).mpr (e,?_);rw[gv f]at d;rw[k];lia
  rw[gu e,GX];show gu λd=>e ?_;have:=fL (Eu a) d;rw[uY,uY]at this;simpa[wV (rZ a)]using this
 unfold pU;rw[List.filter_filter];show RR o
def atG(d:?bl)(b:aP)(a:Nat):=(∃e,e∈f_ d b a)/\(∀c∈f_ d b a,a<R c)/\a<=R b/\∀c∈f_ d b a,c[a]?≠b[a]?\/R b<=a
inductive ao8(p:V)(r:V)(e:L)(o:VK)(n:XK):Prop
 |i (f c a j m l h b) (_:p=?bL) (_:jM e f c a j m l) (_:a<=c.length) (_:r=?dM) (_:Seq g.K e h (b.map λd=>V.str d.1)) (_:b≠[]) (_:b.length<=100) (_:Ox b) (_:Rm.PF (b.map pc)) (_:(∀k,atG (b.map pc) (c.drop a) k->?eu f e [.int ((a+k:Nat):Int)] n)) (_:(∀d∈b,∀q,c.drop a=d.2++q->a+d.2.length<=c.length->FS e f c (a+d.2.length) j m l (o (.str d.1))))
def aq4:Sp:=kq (ao8)
theorem Seq.but(h:Seq l b c n)(q:b m=Y (.ins e i k))(p:ij m b f):Seq l f c n:=by
 let d:∀{o:HO},b c=Y o->(∀e i k,o≠.ins e i k)->f c=Y o:=λ{o} j r=>?il (λa=>by rw[a,q]at j;show r _ _ _ (gR j).symm) j
 rcases h with((h|⟨o,h⟩)|h)|((h|⟨o,h⟩)|h)
 .show .inl (.inl (.inl (d h λ_ _ _ a=>nomatch a)))
 .show .inl (.inl (.inr (o,d h λ_ _ _ a=>nomatch a)))
 .show .inl (.inr h)
 .show .inr (.inl (.inl (d h λ_ _ _ a=>nomatch a)))
 .show .inr (.inl (.inr (o,d h λ_ _ _ a=>nomatch a)))
 show ?jP
def K5(e:S)(b:aP)(c:Nat)(l o n:V)(k:S)(h:List ?i0)(j:L)(m:Nat)(q:L2.St)(d:L):=gG λ(a:Nat) (i:S) (p:?gP)=>ij e j d/\jM d e b (c+a) l o n/\c+a<=R b/\m=R b-(c+a)/\Seq g.K d i ((pU h (b.drop c) a).map λf=>V.str f.1)/\pU h (b.drop c) a≠[]/\(∀f∈pU h (b.drop c) a,a<=f.2.length)/\q=[Y ?aY,Y ?gM,Y ?iB,Y ?cD,p,U]
example:oj yq Gx T.Gx Gy 5 g.b8 "take_one_of" ((aq4)) ["self","words"] ["left","taken","byte","word"] (bx (?n 2 yq.nd ?a9) (bx (?n 3 yq.nd bP) (bx (wk lZ (?B yc ?gH (?cp ah7 T.7 (?q (?b ?dr bP)))) (bx (?n 4 yq.nd (?U T.gw oW hr (?q (vB (ip:=[("word",5)]) rO Z Z Z yq.nd (PJ (tI ?dr) (AM ?dr)) ?gS (λ_ _ _ _ _=>(?R 5 yq.nd)) (λ_ _ _ _ _=>sr) (λ_ _ _ _ _=>(?b (N 5) ?gH)))))) (bx (HV (i:=2) (ip:=[("word",5)]) rO Z Z Z yq.nd Z Z (Jd Z Z Z Z) (PJ (tI ?dr) (AM ?dr)) ?gS (λ_ _ _ _ _=>(?R 5 yq.nd)) (λ_ _ _ _ _=>(aqG (?B jV (gq wg Z T.9 xy (?q (?b (N 5) ?gH))) (N 4)))) (λ_ _ _ _ _=>(N 5))) (bw (Pj (i:=3) yq.nd Z ?a bP Pe))))) (bw (dM (?b ?dr bP)))))):=by
 let(r,l,m,a6,a8,a7,a,x,0,(d6,g2,d7,e0),e9,0,f3,e7,f4,e8,f0,g1,f5):=h;let g7:=fU;lk;show(K5 r l m a6 a8 a7 a x H,(_,0,a,U,Le.refl.but,(d6,g2,d7,e0),e9,Z,by rw[ZF];show f3,by rw[ZF];show e7,λb _=>gI _,Z),?_)
 intro g8 h0 d3 ξ;let(n,a5,g4,a1,(b2,c7,e1,e2),f1,0,y,c0,c4,0):=ξ;let X:(pU x (l.drop m) n).length<=100:=fZ (Gq _ _) f4;let c3:n<=(l.drop m).length:=by rw[lC];lia
 let E:∀b∈pU x (l.drop m) n,jN b.1 b.2:=λb d=>e8 b (IF.mp d).1;generalize p:pU x (l.drop m) n=d0 at y c0 c4 X E;cases d0 with
 |nil=>show bK Z c0
 |cons e q=>
 let a0:e∈pU x (l.drop m) n:=by rw[p];simp
 let c6:=E e ?c
 lk;show zX y (tF (n:=0) Z) ?_;lk;show(c6.2,?_);lk;let g6:e.1.length=e.2.length:=arr c6;show ?cI
 .let c:((n:Nat):Int)<((e.1.length:Nat):Int):=c;let o:∀b∈e::q,n<b.2.length:=by
   intro b d;show Nat.lt_of_not_le λj=>?_;have:=alX f0 c3 (Pb (by rw[p];show d)) (Pb a0) j
   rw[this]at j
   lia
  show(λg5 d2=>∃c5,c5<R l-(m+n)/\K5 r l m a6 a8 a7 a x H c5 g5 d2,λ_ _ j=>j,?_);lk;show apk (a:=a5) (xs:=(e::q).map λb=>V.str b.1) (ys:=((e::q).map λb=>b.2.getD n 0).map λc=>V.str ⟨#[c.toNat]⟩) Z y ?c (by simp at X ⊢;lia) ?_ ?_
  .intro d1 i b g4 C d a4 d5 e5;show(rfl,?_);rw[iC]at d;rw[iC,iC]at a4;rcases u:(e::q)[i]? with _|j
   .rw[u]at d;cases d
   rw[u]at d a4;cases d;cases a4;let v:=lW u;let B:=E j v;let w:=gv (o j v);show(_,Z,_,Z,?_);show ixS (c:=(j.2.getD n 0).toNat) B.2 (tF ?_) e5;rw[wO,w];show N8 B w
  intro d1 C;lk;show(r,l,m+n,a6,a8,a7,(e::q).map λb=>b.2.getD n 0,Z,(b2,c7,by bv_omega,by bv_omega),f1,.inr (_,Z,by simp at X ⊢;lia,?fV),λt c1 c2 d4 b1 f2=>?_,λk=>?_)
  .let g9:=qm c1;let a2:(l.drop m)[n]?=Y t:=by rw[vP];show c1
   let a9:Seq g.K d4 a5 ((e::q).map λb=>V.str b.1):=by
    show Seq.but (Seq.mono y (Le.new C)) ?aa b1
   lk;dsimp only[FH,S6,Qi];show anm (a:=a5) (zs:=e::q) (f:=λb=>V.str b.1) (P:=λb=>decide (b.2[n]?=Y t)) (by rfl) a9 (by simp at X ⊢;lia) ?_ ?_
   .intro b0 i j a3 u d5 aM e3 e4;show(rfl,?_);let v:=lW u;let B:=E j v;let w:=gv (o j v);show(_,Z,_,Z,?_);show ixS (c:=(j.2[n]'(o j v)).toNat) B.2 (tF (N8 B w)) ?_;show(_,Z,Z,?_);lk;let b5:(V.int (((j.2[n]'(o j v)).toNat:Nat):Int)=iT t)<->j.2[n]?=Y t:=by
     rw[w];show(λk=>fL Y (D6 k),λk=>fL iT (gR k))
    show hU (λk=>?_) (λk=>?_)
    .show(_,Z,e3 (im (b5.mp k)))
    show e4 (gu λa9=>k (b5.mpr a9))
   intro b0 a3;lk;show(R l-(m+(n+1)),by lia,n+1,b0,_,a1.trans ((Le.new C).but.trans b1|>.trans (Le.new a3).but),f2.mono (Le.new a3),by lia,Z,?_,?_,?_,Z)
   .rw[NX a2 (by rw[p];show o),p]
    show .inl ?fV
   .rw[NX a2 (by rw[p];show o),p]
    intro j;rw[KO]at c2;let(b,d,b6):=eM.mp c2;have:b∈(e::q).filter λb=>decide (b.2[n]?=Y t):=tj.mpr (d,im (by
     rw[wO,gv (o b d)]at b6;rw[gv (o b d)];show fL Y b6))
    rw[j]at this;cases this
   rw[NX a2 (by rw[p];show o),p]
   intro b d;show o b (tj.mp d).1
  show(g1 n ((_,Pb a0),?_,c3,?_)).mono (a1.trans (Le.new C).but)
  .intro g3 z;rw[<-Oy,p]at z;let(b,d,0):=eM.mp z;show o b d
  intro g3 z;rw[<-Oy,p]at z;let(b,d,0):=eM.mp z;rw[vP];unfold jf at k;rcases u:l[m+n]? with _|t
  .right;rw[lC];have:=QF.mp u;lia
  rw[u]at k
  left
  intro j;let w:=gv (o b d);have:((e::q).map λb=>b.2.getD n 0).contains t=M:=by
   rw[KO];show eM.mpr (b,d,?_);rw[wO,j];rfl
  let k:((e::q).map λb=>b.2.getD n 0).contains t=I:=k;rw[this]at k;cases k
 lk;let c:¬((n:Nat):Int)<((e.1.length:Nat):Int):=c;show zX y (tF (n:=0) Z) ?_;let b3:n=e.2.length:=by have:=c4 e ?c;lia
 let b4:=(IF.mp a0).2;rw[b3,nP]at b4;show f5 e (IF.mp a0).1 ((l.drop m).drop e.2.length) ?_ ?d d3 a1 (b2,c7,?_,e2)
 .conv=>rhs;lhs;rw[b4]
  show(QV _ _).symm
 rw[<-b3];show e1
theorem ij.no(e:ij d b c)(h:c a=U)(i:a≠d):b a=U:=by
 rcases f:b a with _|j
 .rfl
 rw[e a j i f]at h;cases h
def apz(p:Bool)(c:L)(j:S)(e:aP)(n q o:V)(m:Sk.Got aP)(k:VK):=∀h b i f a d l,b<=R e->m=Cz (AA 124 b (e.drop b)) (λ_ s r=>.ok (h,(s,r)))->ij j c a->jM a j e b n q o->c d=U->c l=U->pL a d i f l->a l=?j8->pj a p h i f->k ?J a
inductive asK(e:Bool)(n:V)(d:L)(m:VK)(l:XK):Prop
 |i (c b a h k j) (_:n=?aC) (_:jM d c b a h k j) (_:a<=b.length) (_:(∀f,qr e a ?bR=.error f->?eu c d [.int f] l)) (_:apz e d c b h k j (qr e a ?bR) m)
def Q2(a:Bool):Sp:=ic (asK a)
def N9:jN "=" [61]:=?g
def uQ:List ?i0:=[("zero",gO "zero"),("one",gO "one"),("two",gO "two"),("few",gO "few"),("many",gO "many"),("other",gO "other")]
theorem apR:Ox uQ:=by intro b a;simp only[uQ,bM,kK,or_false]at a;rcases a with rfl|rfl|rfl|rfl|rfl|rfl<;>show ?g
theorem ZK:uQ.map pc=Ba.map fw:=rfl
theorem aqg(b:Nat)(a:aP):qr M b a=Ci b a:=rfl
theorem aqf(b:Nat)(a:aP):qr I b a=Sk.wordKey b a:=rfl
def Mu{c:Nat}(h:jf a c [b]=I):∀d,a.drop c≠b::d:=λd f=>by
 have:a[c]?=Y b:=by
  let e:(a.drop c)[0]?=Y b:=by rw[f];rfl
  rwa [vP]at e
 rw[zk.mpr this]at h;cases h
def amE:∀a,a<5->Yx a≠rn:=by decide+kernel
def apS:∀a,a<6->Ba[a]?=(uQ[a]?).map λb=>(b.2,(124:UInt8)):=by decide+kernel
def apQ:∀a,a<6->∀b,b<6->b<a->(uQ[b]?).map fw≠(uQ[a]?).map fw:=by decide+kernel
def arH:∀a,a<6->(uQ[a]?).map fw=Y ("other":Str)->a=5:=by decide+kernel
def QI:?cd ["self","name"] (eO QL):=(rfl,Z,Z,by decide+kernel,Z,by decide+kernel,by decide+kernel)
theorem KH[c:?da]:?ec 7 "take_number_key" (Q2 M):=uJ c.KH QI ?v nI λa a a a b2 a a z X u h=>by
 let(a,0,h):=h;show(_,(bx (?cQ (jD (?U c.gw tp u (?q lI))) (bx (dO (?U c.gw oW u (?q lI))) (bw (dM (oM Oe u (F (?Y c.Pc) (?q (?fI c.gw KB u)))))))) (bx (?n 1 QI.nd (?U c.gw Gx u (?q (uH (v:=.ref g.yJ) Z c.Vs Z)))) (bw (dM (oM Oe u (F (qI (?B jV ?a9 lI) (?Y c.OM) (?Y c.Xx)) (?q (Ph (K:=g.K) Z QK U8 (r:=IY g.K) Ze (uH (v:=.ref g.yJ) Z c.Vs Z) (?q ?a9))))))))),?_)
 try dsimp only[eJ,jC,jF,jA]
 let(r,k,d,u,a1,a0,0,(o,t,b,e),a3,T,a4):=h;rw[aqg]at T a4;lk;show(r,k,d,u,a1,a0,[61],Z,(o,t,b,e),a3,.inl (_,Z,N9),λa j=>?_);lk;let a5:a r=_:=j _ _ b;let a6:a t=_:=j _ _ e;rcases a2:jf k d [61]with _|_
 .let P:=Mu a2;lk;show(r,k,d,u,a1,a0,g.yJ,uQ,Z,(o,t,a5,a6),a3,Z,.inr (c.Wa a),by decide,by decide,apR,by rw[ZK];show OC,λe B=>?_,λb b1 w A a9 n m a=>?_)
  .rw[ZK]at B;let((f,f),p,q,s):=B;show(T (d+e) ?_).mono j.but;rw[WC P,Ym OC f p q s];rfl
  let(_,_,y,_):=id a;let a7:w=k.drop (d+b.2.length):=by
   rw[<-uk,A,agG]
  let fin:∀i:Nat,i<6->Ba[i]?=Y (b.2,(124:UInt8))->∀e w l f E,Le n e->n w=U->n l=U->pL e w f E l->e l=?j8->((i=5/\f="other")\/(i<5/\f="category"/\E=.int i))->z (.ref w) e:=by
   intro i s p e w l f E H q x a8 b0 C;show a4 (Yx i) (d+b.2.length) f E e w l a9 ?_ (j.but.trans (m.trans H.but)) (a.mono H) ?_ ?_ a8 b0 ?_
   .rw[WC P,XM OC p A,amH,a7];rfl
   .show(j.but.trans m).no q (λa=>by rw[a,y]at q;cases q)
   .show(j.but.trans m).no x (λa=>by rw[a,y]at x;cases x)
   rcases C with⟨rfl,q⟩|⟨H,w,x⟩
   .show .inl (by decide,q)
   show .inr (?_,.inr (.inl (rfl,i,H,Z,w,x)));show amE i H
  let(i,s,p):=oA b1;let P:i<6:=s;let x:uQ[i]?=Y b:=by rw[gv s,p]
  let a8:Ba[i]?=Y (b.2,(124:UInt8)):=by rw[apS i P,x];rfl
  let a7:∀f:Str,((i=5/\f="other")\/(i<5/\f="category"))->IY g.K (.ref g.yJ) [V.str b.1] n λv e=>∀(p o:S),e p=U->e o=U->o≠p->NN (V.ref p::([V.str f,v]++[])) (D (D e o (HO.own p)) p (HO.ins g.qL o [])) (λv n=>v=V.cT/\z (V.ref p) n) X:=by
   intro f C;show(g.yJ,_,_,i,.str b.1,Z,Z,c.Wa n,Z,Z,?_,?_,?_,?_)
   .change(uQ.map λb=>V.str b.1)[i]?=_;rw[iC,x];rfl
   .change(b.1==b.1)=M;lia
   .intro z w A s;let s:(uQ.map λb=>V.str b.1)[z]?=Y w:=s;rw[iC]at s;cases w:uQ[z]? with
    |none=>simp_all
    |some E=>
     rw[w]at s;cases s;change(E.1==b.1)=I;have:=apQ i P z ?d A
     rw[x,w]at this;show beq_false_of_ne λa=>this (fL Y a)
   .show HU λp l s X A E z a9 w=>?_;show fin i P a8 s p l f (.int i) X A z E w (C.imp id λa=>(a.1,a.2,Z))
  lk;by_cases C:b.1="other"
  .rw[im (fL V.str C)];show ?fU;show((_,Z,.inr c.Wc),_,Z,?_);show a7 "other" (.inl (arH i P (by rw[x];show fL Y C),Z))
  rw[gu (λa=>C (by injection a))]
  show ?gd;show((_,Z,.inr c.Wc),_,Z,?_);show a7 "category" (.inr (?_,Z));show Nat.lt_of_le_of_ne ?d λa=>C ?_
  subst a;have:=gR x;rw[<-this]
 let c:=zk.mp a2;let f:=qm c;lk;show(r,k,d,u,a1,a0,[61],Z,(o,t,a5,a6),a3,.inl (_,Z,N9),λf f f n m (n,p,H,o)=>?_,λt=>by rw[a2]at t;cases t)
 lk;let f:Ci d (k.drop d)=_:=(fL (Ci d) (lP c)).trans (amJ d _);show(r,k,d+1,u,a1,a0,Z,(n,p,H,o),by lia,λq c=>(T q (by rw[f,c];rfl)).mono (j.but.trans m),λv t n o=>(λB=>(T t ?_).mono (j.but.trans m),λB p e c d=>?_))
 .rw[f,n,wq,EI (λb2 a=>?_)]
  .rfl
  have:=B.2;unfold jf at this;let q:k[t]?=Y 124:=by
   let q:(k.drop t)[0]?=Y 124:=by rw[a];rfl
   rwa [vP]at q
  rw[q]at this;revert this;decide
 lk;show HU λb l s X A E z a9 w=>?_;let(_,_,y,_):=id d;show a4 (61::qg v) t "same" (.int v) s b l o ?_ (j.but.trans (m.trans (c.trans X.but))) (d.mono X) ?_ ?_ E w ?_
 .rw[f,n,wq]
 .show(j.but.trans (m.trans c)).no A (λa=>by rw[a,y]at A;cases A)
 .show(j.but.trans (m.trans c)).no z (λa=>by rw[a,y]at z;cases z)
 show .inr (λa=>by injection a with a _;revert a;decide,.inl (rfl,v,p,Z,Z,Z))
def yd:aP:=gO "abcdefghijklmnopqrstuvwxyz0123456789_-"
def Oo:jN "abcdefghijklmnopqrstuvwxyz0123456789_-" yd:=?g
theorem HZ(a:UInt8):yd.contains a=Ev a:=by
 have:=vx (P:=λa=>yd.contains a==Ev a) ?w a
 show ?jD
theorem J1{a:UInt8->Bool}:∀{l:aP} {n:Nat},(∀b∈l.take n,a b=M)->n<=R l->l.takeWhile a=l.take n++(l.drop n).takeWhile a
 |l,0,_,_=>rfl
 |[],n+1,_,h=>rfl
 |b::l,n+1,h,f=>by
  let d:=h b ?c
  rw[List.takeWhile_cons_of_pos d,J1 (n:=n) (λc e=>h c (by simp[e])) ?jd]
  rfl
def aoi{l:aP}{a:Nat}(h:∀b∈l.take a,Ev b=M)(e:a<=R l)(i:a<=16)(c:a=16\/∀b,l[a]?=Y b->Ev b=I):(l.takeWhile Ev).take 16=l.take a:=by
 rw[J1 h e];let f:(l.take a).length=a:=by rw[jR];lia
 rcases c with rfl|c
 .grind
 rcases d:l[a]? with _|b
 .rw[AD d,List.takeWhile_nil,mD,wQ ?d]
 rw[lP d,U3 (by rw[c b d];decide),mD,wQ ?d]
theorem Zg:jN "other" rn:=?g
def KI:?cd ["self","signs","word"] (eO QS):=(rfl,Z,Z,by decide+kernel,Z,by decide+kernel,by decide+kernel)
theorem KN[m:?da]:?ec 5 "take_word_key" (Q2 I):=uJ m.KN KI ?v nI λa a a a a b3 a t a z h=>by
 let(a,0,h):=h;show(_,(bx (?n 1 KI.nd (ib (?q (?U m.gw oW z (?q (?Y m.Mw)))))) (bx (wk lZ (PW.pt (sC (?B yc (?cp jx m.7 (?q ?a9)) (?Y m.agY)) (ss (jD (?U m.gw tp z (?q (?Y m.Mw))))))) (bw (dO (?aM ?a9 (?q (?U m.gw oW z (?q (?Y m.Mw)))))))) (bx (?n 2 KI.nd (yQ (r:=zH g.K) Ax Z m.zi Au (?q ?a9))) (bw (dM (oM Oe z (?fE (vA (qI (?B (zx z.units) ?dr (cQ qc z (?q lI))) (?Y m.OM) (?Y m.Pc)))))))))),?_)
 try dsimp only[eJ,jC,jF,jA]
 let(r,c,b,X,z,m,0,(d,k,e,f),j,a,x):=h;rw[aqf]at a x;let n:=fU;lk;show(r,c,b,X,z,m,yd,Z,(d,k,e,f),j,.inl (_,Z,Oo),λd f k d b4 (s,u,j,d)=>?_,λp=>a b ?_);rotate_left 1
 .rw[Yk,bz];unfold jf at p;rcases y:c[b]? with _|d
  .rw[AD y];rfl
  rw[y]at p;let p:yd.contains d=I:=p;rw[HZ]at p;rw[lP y,U3 (by rw[p];decide)]
  rfl
 let a:=qm f;rw[HZ]at k;show(by change 1<=cw;decide,λq H=>?_)
 lk;let c0:q≠r:=λe=>by rw[e,j]at H;cases H
 show(λn o j=>∃a:Nat,ij r b3 j/\jM j r c (b+a) X z m/\b+a<=R c/\n=16-a/\a<=16/\1<=a/\j q=Y (.lst ?bj)/\(∀d∈(c.drop b).take a,Ev d=M)/\o=[?jW,Y (.ref q),U],(_,1,b4.trans (Le.new H).but,(s,u,by bv_omega,by bv_omega),by lia,Z,by lia,by lia,?_,?_,Z),?_)
 .rw[bD,lP f];rfl
 .rw[lP f];intro d v;simp at v;rw[v];show k
 intro n o B ξ;let(a,a1,(a3,b1,E,w),a7,0,T,f,c3,b6,0):=ξ;let s:(?bj).length=a:=by rw[gZ,jR,lC];lia
 let fin:(a=16\/jf c (b+a) yd=I)->∀n o l k f,Le B n->n k=Y (.tup ?bj)->B o=U->B l=U->pL n o f ?gM l->n l=?j8->f=?dZ->t ?j1 n:=by
  intro a4 n o l k f A a8 u t a0 a2 P;let C:=aoi b6 ?iw T (a4.imp id λe d v=>by
   unfold jf at e;rw[vP]at v;rw[v]at e;rw[<-HZ];show e)
  show x ((c.drop b).take a) (b+a) f ?gM n o l a7 ?_ (a1.trans A.but) (jM.mono (a3,b1,E,w) A) (a1.no u (λe=>by rw[e,E]at u;cases u)) (a1.no t (λe=>by rw[e,E]at t;cases t)) a0 a2 ?_
  .rw[gZ]at s;rw[Yk,C,bp (λe=>by rw[e]at s;simp at s;lia),s,uk]
  rw[P];split
  .rename_i e;show .inl (e,Z)
  rename_i e;show .inr (e,.inr (.inr (rfl,Z,k,Z,a8)))
 lk;show ?bb
 .let d:(((?bj).length:Nat):Int)<16:=d;rw[s]at d;lk;show(r,c,b+a,X,z,m,yd,Z,(a3,b1,E,w),a7,.inl (_,Z,Oo),λn A=>?_);lk;rcases b5:jf c (b+a) yd with _|_
  .show ?gd;lk;intro k a8;lk;show(λa0 j=>∃f:Str,a0=.str f/\Le B j/\j k=Y (.tup ?bj)/\f=?dZ,?_,?_)
   .lk;show(_,rn,Z,Zg,λo C w u=>?_);let t:C k=_:=w _ _ bD;show xY (cZ.of t) (cZ.of u) ?_;lk;show ?bb
    .show(_,Z,?eT w,t,by rw[bz d])
    show(_,Z,?eT w,t,by rw[bp d])
   intro a0 c1 ξ;let(f,0,x,a9,P):=ξ;lk;show HU λb2 l a2 T a6 b0 a4 c5 a5=>?_;show fin (.inr b5) a2 b2 l k f (x.trans T) (T _ _ a9) (x.no a6) (x.no a4) b0 a5 P
  let c2:n r=_:=A _ _ E;let c4:n q=_:=A _ _ c3;show ?fU;show(λE j=>∃n,n<16-a/\∃a:Nat,ij r b3 j/\jM j r c (b+a) X z m/\b+a<=R c/\n=16-a/\a<=16/\1<=a/\j q=Y (.lst ?bj)/\(∀d∈(c.drop b).take a,Ev d=M)/\E=[?jW,Y (.ref q),U],λ_ _ e=>e,?_);lk;show(r,c,b+a,X,z,m,yd,Z,(a3,b1,c2,by bv_omega),a7,.inl (_,Z,Oo),λE m z C n a7=>?_,λp=>by rw[b5]at p;cases p)
  let a3:C q=_:=?cA c0 c4;let p:=qm m;rw[HZ]at z;lk
  .rw[s];lia
  let p:(c.drop b).take ?aN=(c.drop b).take a++[E]:=take_snoc (by rw[vP];show m)
  let(E,b1,X,m):=a7;show(16-?aN,by lia,a+1,?_,(E,b1,bO (bI c0) X,bO (gW m a3 (λe=>nomatch e)) m),by lia,Z,by lia,by lia,?_,?_,Z)
  .intro o m m y;let E:o≠q:=λe=>by subst e;rw[b4 _ _ m y]at H;cases H
   show bO E (?cA m (A _ _ (a1 _ _ m y)))
  .rw[bD,p];simp only[kF,iD];rfl
  rw[p];intro d v;rcases iE.mp v with e|e
  .show b6 d e
  rw[lX.mp e];show z
 let d:¬(((?bj).length:Nat):Int)<16:=d;rw[s]at d;show ?gd;lk;intro k a8;lk;show(λa0 j=>∃f:Str,a0=.str f/\Le B j/\j k=Y (.tup ?bj)/\f=?dZ,?_,?_)
 .lk;show(_,rn,Z,Zg,λo C w u=>?_);let t:C k=_:=w _ _ bD;show xY (cZ.of t) (cZ.of u) ?_;lk;show ?bb
  .show(_,Z,?eT w,t,by rw[bz d])
  show(_,Z,?eT w,t,by rw[bp d])
 intro a0 c1 ξ;let(f,0,x,a9,P):=ξ;lk;show HU λb2 l a2 T a6 b0 a4 c5 a5=>?_;show fin (.inl ?d) a2 b2 l k f (x.trans T) (T _ _ a9) (x.no a6) (x.no a4) b0 a5 P
def O5(d:L)(b:?au)(c:V):=(b=[]/\c=.cT)\/JS λe a h i k j f=>b=e++[?s]/\d a=Y (.ins g.d8 h (zt i k c j f))
inductive alx(j:V)(a:L)(f:VK)(o:XK):Prop
 |i (e h k l d m n b c) (_:j=?aY) (_:a e=Y (.ins g.b8 h (vt k l ?J m n))) (_:a d=Y (.lst b)) (_:O5 a b c) (_:f c a)
def am4:Sp:=ic (alx)
example:oj avZ DG T.DG QY 1 g.b8 "counted_slot" ((am4)) ["self"] [] (bw (dM (qI (Cu ?l ?dz) (?cR (?b ?l ?gB)) Jx))):=by
 let(r,k,v1,v2,p,v4,v5,e,j,0,m,a,h,b):=h;lk;rcases h with⟨rfl,rfl⟩|⟨c,d,l,o,t,q,i,rfl,n⟩
 .show(I,.inl (_,cJ.of a,Z),jY b)
 show(M,.inl (_,cJ.of a,by cases c<;>rfl),?_)
 lk;show pV (cJ.of a) xA ?_;lk;show b
theorem jk.Fg{u:Nat}{pre:jc->jc}{r v t:S}(h:jk f e b w n u a pre r v t c s x i j k):O5 b (c.reverse.map V.ref) (cV (cnt a)):=by
 let d:=h.su;rcases a with _|⟨y,P⟩
 .show .inl (by rw[d.1];rfl,Z)
 let(l,m,o,A,X,B,a,z,H,E,T,p,C,q,_):=d;show .inr (m.reverse.map V.ref,l,o,_,_,_,_,?_,h.bh _ _ q);rw[p];simp
def Bh(a:Str):Nat:=if a="any" then 0 else if a="select" then 2 else 1
inductive alt(t:V)(s:V)(u:V)(q:V)(b:L)(p:VK)(y:XK):Prop
 |i (o r v w x e d k m j a l) (_:t=?j1) (_:b o=Y (.ins g.b8 r (vt v w x ?aY ?J))) (_:b e=Y (.lst k)) (_:k.length<=100000) (_:b d=Y (.lst (sG m))) (_:e≠d) (_:s=.str a) (_:u=.int (j:Nat)) (_:j<16) (_:q=?bk) (_:(a="any"\/a="group"\/a="plural"\/a="select")) (_:∀c h,(∀f n,f≠e->f≠d->b f=Y n->c f=Y n)->b h=U->pN c h a j l->c e=Y (.lst (k++[.ref h]))->c d=Y (.lst (sG ((j,Bh a)::m)))->p .cT c)
def am0:Sp:=Bl (alt)
def al1{a:Nat}(h:a<3):(sG b)[a]?=Y (.int (Rm.ye a b)):=by
 match a,h with
 |0,_=>rfl
 |1,_=>rfl
 |2,_=>rfl
def al2{c a:Nat}(h:a<3)(d:c<16):(sG b).set a (.int ((Rm.ye a b|||2^c:Nat):Int))=sG ((c,a)::b):=by
 rw[Rm.bits_add d]
 match a,h with
 |0,_=>change[?dG,?dG,?dG]=[?dG,?dG,?dG];rw[Cf (k:=1) ?i,Cf (k:=2) ?i]
 |1,_=>change[?dG,?dG,?dG]=[?dG,?dG,?dG];rw[Cf (k:=0) ?i,Cf (k:=2) ?i]
 |2,_=>change[?dG,?dG,?dG]=[?dG,?dG,?dG];rw[Cf (k:=0) ?i,Cf (k:=1) ?i]
example:oj awc BH T.BH Sf 3 g.b8 "add_hole" ((am0)) ["self","kind","slot","branches"] [] (bx (dO (?aM ?l (?q (oM ar9 hr (F ?a9 (F ?dr (?q ?gH))))))) (bw (aqD ?l (F7 (uH (v:=.ref g.Ng) Z T.akX Z) ?a9 (λ_ _=>rfl)) (jW M8 bP ?dr) O_ (λ_ _ _=>rfl)))):=by
 let(a3,a6,v1,v2,v3,e,d,a4,k,t,a,l,0,x,n,a9,q,u,0,0,z,0,B,P):=h;let a8:=fU;lk;show aqm λi j p b E=>?_;let a7:j e=_:=?il n;let y:j d=_:=?il q;let b0:a3≠e:=gW x n (λc=>nomatch c);let a2:i≠e:=λc=>by rw[c,n]at b;cases b
 let a1:i≠d:=λc=>by rw[c,q]at b;cases b
 lk
 .lia
 let C:eQ (κ:=Key) [(qJ "any",V.int 0),(qJ "group",V.int 1),(qJ "plural",V.int 1),(qJ "select",V.int 2)] (qJ a)=Y (.int (Bh a:Nat)):=by
  rcases B with rfl|rfl|rfl|rfl<;>decide+kernel
 let o:Bh a<3:=by unfold Bh;split<;>first|decide|(split<;>decide)
 lk;show(_,_,qJ a,_,Z,Z,T.ak6,C,?_);let r:D j e (HO.lst (a4++[V.ref i])) d=Y (.lst (sG k)):=bO (bI u) y;show(d,Bh a,_,_,Z,Z,cJ.of r,al1 o,?_);lk;show((by lia,by lia,by decide),?_)
 lk;show(_,r,o,?_);rw[show Mg ((Rm.ye (Bh a) k:Nat):Int) (1*2^((t:Nat):Int).toNat)=((Rm.ye (Bh a) k|||2^t:Nat):Int)by
  rw[Bits.ZH ?d (by rw[Ee];show ahP (ai2 ?i))]
  rw[Ee,uh,uh];rfl,al2 o z]
 show P _ i ?_ b ?_ ?_ bD
 .intro a5 b1 X a0 m;show bO a0 (bO X (?il m))
 .let(w,m):=E;show(w,bO a1 (bO a2 m))
 show bO u bD
def pj.Pz{d e:L}(a:pj d j h i f)(p:∀b k,d b=Y (.tup k)->e b=Y (.tup k)):pj e j h i f:=by
 rcases a with a|⟨c,a|a|⟨l,m,b,n,o⟩⟩
 .show ?ai
 .show .inr (c,?ai)
 .show .inr (c,?ab)
 show .inr (c,.inr (.inr (l,m,b,n,?il o)))
section
variable{B0 B H H':L}{r:S}{b:aP}{p q:Nat}{ls:List Rm.Lv}{pre:jc->jc}{lv pt nm:S}{as mu:List S}{xs:List V}{aM N1 N2:List (Nat×Nat)}
def jk.apart(h:?aK lv pt nm as mu xs aM N1 N2)(a:c∈lv::nm::pt::mu):∃d,H c=Y (.lst d):=by
 simp only[bM]at a;rcases a with rfl|rfl|rfl|a
 .show(_,h.5)
 .show(_,h.6)
 .show(_,h.7)
 show h.su.has c a
def jk.open(h:?aK lv pt nm as mu xs aM N1 N2){a l a3 u f:S}{i:Nat}{pl:Bool}(a9:H a=U)(j:H l=U)(b1:H u=U)(s:H f=U)(b5:H' a=Y (.ins g.d8 a3 (zt (.str (rK pl)) (.int i) (cV (if pl=M then Y i else cnt ls)) (.ref pt) ?bk)))(y:H' l=Y (.lst [.ref u]))(a6:H' lv=Y (.lst (as.reverse.map V.ref++[?s])))(k:∀x o,x≠r->x≠lv->H x=Y o->H' x=Y o)(P:pL H' u a0 E f)(c1:pj H' pl c a0 E)(T:H' f=?j8)(rd:?fe q ?bL)(a7:p<=q)(c3:q<=R b)(c0:i<16)(b6:R ls<8):tR B0 H' r b q ((pl,i,lT ls,pre,id,c)::ls) id:=by
 let b2:=h.nd;let m:=h.new j;let n:=h.new s;let c5:=h.new a9;let c6:=h.new b1;let d:l≠f:=λc=>by rw[c,T]at y;cases y
 let c2:(r::lv::nm::f::l::pt::mu).Nodup:=by grind
 let m:∀x,x∈r::lv::nm::f::l::pt::mu->x=f\/x=l\/x∈r::lv::nm::pt::mu:=by
  intro x e;simp only[bM]at e ⊢;rcases e with c|c|c|c|c|c|c
  .simp_all
  .lia
  .show .inr (.inr (.inr (.inr ?js)))
  .show ?js
  .show .inr ?js
  .show .inr (.inr (.inr (.inr (.inr ?js))))
  show .inr (.inr (.inr (.inr (.inr (.inr c)))))
 let c7:∀x∈r::lv::nm::f::l::pt::mu,B x=U:=by
  intro x e;rcases m x e with c|c|c
  .rw[c];show h.bh.no s
  .rw[c];show h.bh.no j
  show h.no x c
 let b4:Le B H':=λx o d=>k x o (λc=>by rw[c,?dU r]at d;cases d) (λc=>by rw[c,?dU lv]at d;cases d) (h.bh _ _ d)
 let b3:Le B0 H':=λx o d=>k x o (λc=>by rw[c,?e6 r]at d;cases d) (λc=>by rw[c,?e6 lv]at d;cases d) (h.b0 _ _ d)
 let c4:∀x∈r::lv::nm::f::l::pt::mu,B0 x=U:=by
  intro x e;rcases m x e with c|c|c
  .rw[c];show h.b0.no s
  .rw[c];show h.b0.no j
  show h.n0 x c
 let a8:=Fi (Cs b4 h.fb) c7;let j:=h.nd;simp only[iu,bM,iw]at j;let((X,z,A,t),(C,v,w),(a1,a2),(a4,a5)):=j;let j:pt≠lv:=bI v;let n:H' pt=?j2:=?is (bI A) (bI v) h.7;let m:H' nm=Y (.lst (sG aM)):=?is (bI z) (bI C) h.6;let(C,d1,v,a2):=rd;let(A,P):=P;let a4:∀x,x∈r::lv::nm::f::l::pt::mu->x=r\/∃s,H' x=Y (.lst s):=by
  intro x e;simp only[bM]at e;rcases e with c|c|c|c|c|c|c
  .show ?js
  .rw[c];show .inr (_,a6)
  .rw[c];show .inr (_,m)
  .rw[c];show .inr (_,T)
  .rw[c];show .inr (_,y)
  .rw[c];show .inr (_,n)
  let(s,d):=h.su.has x c;show .inr (s,?is (λj=>t (j▸c)) (λj=>w (j▸c)) d)
 let X:∀{x o},H' x=Y o->(∀s,o≠.lst s)->x≠r->(B0 x=U\/∃z,o=.tup z)->?cl (r::lv::nm::f::l::pt::mu) x=Y o:=λ{x o} d a5 d0 a1=>tH (qH d a1) λc=>by
  rcases a4 x c with j|⟨s,j⟩
  .show d0 j
  rw[d]at j;show a5 _ (gR j)
 show(?cl (r::lv::nm::f::l::pt::mu),lv,f,nm,a::as,l::pt::mu,[],aM,[],[]++(N1++N2),?_);show{b0:=b3,bh:=AG.trans wj,fb:=HR xn,n0:=c4,rd:=(C,d1,v,a2),kS:=by rw[a6];simp,lJ:=m,kH:=T,xl:=gI _,pa:=ju.id,su:=?_,n1:=kl.id,n2:=([],N1,N2,kl.id,h.n1,h.n2,Z),sub:=?_,sup:=?_,nd:=c2,no:=λx e=>Fk e,pb:=c3,dl:=b6}
 .show(a,as,a3,l,pt,[],xs,u,a0,E,mu,Z,Z,X b5 (λ_ c=>nomatch c) (λc=>c5 ?fq) (.inl (h.b0.no a9)),c0,Z,y,gI _,rE.id,(A,X P (λ_ c=>nomatch c) (λc=>c6 ?fq) (.inl (h.b0.no b1))),?_,n,fZ h.xl a7,h.pa.mono a8,?_)
  .show c1.Pz λx z d=>X d (λ_ c=>nomatch c) (λc=>by rw[c,v]at d;cases d) (.inr ?f0)
  show h.su.mono a8 a7 λx e o d=>?is (λj=>t (j▸e)) (λj=>w (j▸e)) d
 .rintro x (c|c)
  .cases c
  show h.sub x (iE.mp (by simpa using c))
 intro x e;rcases h.sup x e with c|⟨d,e,c⟩
 .show .inl (.inr (by simpa using c))
 show .inr (d,gY _ e,c)
def jk.again(h:jk B0 B H r b p (c::ls) pre lv pt nm as mu xs aM N1 N2){w m:?au}(i:as=u::v)(s:mu=e::f::l)(c6:B u=Y (.ins g.d8 a6 (zt (.str (rK c.pl)) (.int c.slot) (cV (cnt (c::ls))) ?bL ?aY)))(d0:c.slot<16)(d1:c.n=lT ls)(T:R w<=p)(d2:rE B c.pl (cnt (c::ls)) w c.5)(d3:pL B y d a pt)(d4:pj B c.pl c.key d a)(c3:H f=Y (.lst m))(C:R m<=p)(c7:ju B (cnt ls) m c.pre)(a8:qP B H p ls v f l)(b4:H z=U)(j:H k=U)(n:∀x o,x≠r->x≠e->H x=Y o->H' x=Y o)(a9:H' e=Y (.lst ((w++[.ref y])++[.ref z])))(P:pL H' z X E k)(d5:pj H' c.pl A X E)(b2:H' k=?j8)(rd:?fe q ?gM)(a0:p<q)(e2:q<=R b)(d7:c.key≠rn):tR B0 H' r b q ({c with iK:=λt=>c.5 (?e2 c.key t),key:=A}::ls) id:=by
 subst i s;let d:=h.new j;let e7:=h.new b4;let a:=h.nd;simp only[iu,bM,iw]at a d;let((a0,a1,a2,i,a3,C),(s,c0,a4,b1,b5),(c1,a5,b6,c2),(a7,c4,c5),(b3,T),(e0,e1)):=a;let(a,e3,e4,f0,e5,e8,e9):=d;let d6:(r::lv::nm::k::e::f::l).Nodup:=by
  simp only[iu,bM,iw];show((a0,a1,bI a,i,a3,C),(s,bI e3,a4,b1,b5),(bI e4,a5,b6,c2),(e5,e8,e9),(b3,T),e0,e1)
 let s:∀x,x∈r::lv::nm::k::e::f::l->x=k\/x∈r::lv::nm::pt::e::f::l:=by simp_all
 let e8:∀x∈r::lv::nm::k::e::f::l,B x=U:=by
  intro x i;rcases s x i with a|a
  .rw[a];show h.bh.no j
  show h.no x a
 let b6:Le B H':=λx o d=>n x o (λa=>by rw[a,?dU r]at d;cases d) (λa=>by rw[a,?dU e]at d;cases d) (h.bh _ _ d)
 let b5:Le B0 H':=λx o d=>n x o (λa=>by rw[a,?e6 r]at d;cases d) (λa=>by rw[a,?e6 e]at d;cases d) (h.b0 _ _ d)
 let e5:∀x∈r::lv::nm::k::e::f::l,B0 x=U:=by
  intro x i;rcases s x i with a|a
  .rw[a];show h.b0.no j
  show h.n0 x a
 let s:=Fi (Cs b6 h.fb) e8;let b1:H' lv=Y (.lst ((u::v).reverse.map V.ref)):=?cA (bI a0) a4 h.5;let a4:H' nm=Y (.lst (sG aM)):=?cA (bI a1) a5 h.6;let e0:H' pt=?j2:=?cA (bI a2) a7 h.7;let a1:H' f=Y (.lst m):=?cA (bI a3) (bI b3) c3;let(c3,f1,a3,e3):=rd;let(c2,P):=P;let e1:∀x,x∈r::lv::nm::k::e::f::l->x=r\/∃m,H' x=Y (.lst m):=by
  intro x i;simp only[bM]at i;rcases i with a|a|a|a|a|a|a
  .lia
  .rw[a];show .inr (_,b1)
  .simp_all
  .rw[a];show .inr (_,b2)
  .rw[a];show .inr (_,a9)
  .rw[a];show .inr (_,a1)
  let(m,d):=a8.has x a;show .inr (m,?cA (λj=>C (j▸a)) (λj=>T (j▸a)) d)
 let a5:∀{x o},H' x=Y o->(∀m,o≠.lst m)->x≠r->(B0 x=U\/∃b3,o=.tup b3)->?cl ?f2 x=Y o:=λ{x o} d e4 e9 a0=>tH (qH d a0) λa=>by
  rcases e1 x a with j|⟨m,j⟩
  .show e9 j
  rw[d]at j;show e4 _ (gR j)
 let e1:?cl ?f2 pt=?j2:=tH (qH e0 (.inl (?e6 pt))) (by
  simp only[bM,iw];show(bI a2,bI c0,bI c1,bI f0,a7,c4,c5))
 let(M1,M2,a0,c0,c1,c4,a2):=h.n2;let a7:rE (?cl ?f2) c.pl ?i7 (w++[V.ref y]) (λt=>c.5 (?e2 c.key t)):=by
  let d:?i7=cnt (c::ls):=rfl;rw[d];show(d2.mono s).more d7 (d3.mono s) (d4.mono s) e1 (h.pa.mono s)
 show(?cl ?f2,lv,k,nm,u::v,e::f::l,[],aM,[],(M1++N1)++(M2++a0),?_);show{b0:=b5,bh:=AG.trans wj,fb:=HR xn,n0:=e5,rd:=(c3,f1,a3,e3),kS:=b1,lJ:=a4,kH:=b2,xl:=gI _,pa:=ju.id,su:=?_,n1:=kl.id,n2:=(M1++N1,M2,a0,h.n1.more c0 c.key,c1,c4,Z),sub:=?_,sup:=?_,nd:=d6,no:=λx i=>Fk i,pb:=e2,dl:=h.dl}
 .show(u,v,a6,e,f,w++[V.ref y],m,z,X,E,l,Z,Z,s _ _ c6,d0,d1,a9,by simp;lia,a7,(c2,a5 P (λ_ a=>nomatch a) (λa=>e7 ?aH) (.inl (h.b0.no b4))),?_,a1,by lia,c7.mono s,?_)
  .show d5.Pz λx b3 d=>a5 d (λ_ a=>nomatch a) (λa=>by rw[a,a3]at d;cases d) (.inr ?f0)
  show a8.mono s ?d λx i o d=>?cA (λj=>C (j▸i)) (λj=>T (j▸i)) d
 .rintro x (a|a)
  .cases a
  show h.sub x ?_;rw[a2];simp only[iE]at a ⊢;rcases a with(a|a)|a|a
  .show ?ab
  .show ?ai
  .show ?jZ
  show ?aT
 intro x i;rcases h.sup x i with a|⟨K,e,c,d⟩
 .rw[a2]at a;simp only[iE]at a ⊢;rcases a with a|a|a|a
  .show .inl (.inr (.inl ?gO))
  .show .inl (.inr (.inl ?ai))
  .show .inl ?jZ
  show .inl ?aT
 rcases bM.mp e with j|j
 .subst j;show .inr (_,mV,c,d)
 show .inr (K,gY _ j,c,d)
theorem jk.k6(h:jk B0 B H r b p (d::ls) pre lv pt nm as mu xs aM N1 N2){e dx m f v o:S}(i:as=e::u)(j:mu=m::f::k)(b3:d.slot<16)(b4:H m=Y (.lst (w++[.ref v])))(b5:rE B d.pl (cnt (d::ls)) w d.5)(b6:pL B v z a pt)(c0:pj B d.pl d.key z a)(x:H f=Y (.lst t))(b1:ju B (cnt ls) t d.pre)(b2:qP B H p ls u f k)(n:∀c l,c≠r->c≠lv->c≠f->c≠nm->H c=Y l->H' c=Y l)(a2:H o=U)(y:pN H' o (rK d.pl) d.slot m)(c5:H' f=Y (.lst (t++[?j1])))(c4:H' nm=Y (.lst (sG (?gm::aM))))(c2:H' lv=Y (.lst (u.reverse.map V.ref)))(rd:?fe p ?bL)(c1:d.key=rn)(c6:R t+1<=p):tR B0 H' r b p ls (λs=>d.pre (Rm.mk d.pl d.slot (d.5 ?fk) s)):=by
 subst i j;let e:=h.new a2;let a:=h.nd;simp only[iu,bM,iw]at a e;let((i,s,A,C,a5,E),(a6,P,T,a7,X),(j,x,a8,a0),(a1,a1,a9),(a3,c7),(a4,d0)):=a;let(d2,d3,d4,a,a,d5,d6):=e;let c3:(r::lv::nm::f::k).Nodup:=by
  simp only[iu,bM,iw];show((i,s,a5,E),(a6,a7,X),(a8,a0),a4,d0)
 let d1:∀c∈r::lv::nm::f::k,B c=U:=by
  intro c i;show h.no c ?_;simp only[bM]at i ⊢;rcases i with a|a|a|a|a
  .show ?ai
  .show ?ab
  .show ?jZ
  .show .inr (.inr (.inr ?jZ))
  show .inr (.inr (.inr ?aT))
 let a6:Le B H':=λc l e=>n c l (λa=>by rw[a,?dU r]at e;cases e) (λa=>by rw[a,?dU lv]at e;cases e) (λa=>by rw[a,?dU f]at e;cases e) (λa=>by rw[a,?dU nm]at e;cases e) (h.bh _ _ e)
 let a5:Le B0 H':=λc l e=>n c l (λa=>by rw[a,?e6 r]at e;cases e) (λa=>by rw[a,?e6 lv]at e;cases e) (λa=>by rw[a,?e6 f]at e;cases e) (λa=>by rw[a,?e6 nm]at e;cases e) (h.b0 _ _ e)
 let d0:∀c∈r::lv::nm::f::k,B0 c=U:=by
  intro c i;show h.n0 c ?_;simp only[bM]at i ⊢;rcases i with a|a|a|a|a
  .show ?ai
  .show ?ab
  .show ?jZ
  .show .inr (.inr (.inr ?jZ))
  show .inr (.inr (.inr ?aT))
 let s:=Fi (Cs a6 h.fb) d1;let a8:H' pt=?j2:=?cA (bI A) (bI P) a1 (bI j) h.7;let a7:H' m=Y (.lst (w++[.ref v])):=?cA (bI C) (bI T) a3 (bI x) b4;let b4:?cl (r::lv::nm::f::k) pt=?j2:=tH (qH a8 (.inl (?e6 pt))) (by
  simp only[bM,iw];show(bI A,bI P,bI j,a1,a9))
 let A:?cl (r::lv::nm::f::k) m=Y (.lst (w++[.ref v])):=tH (qH a7 (.inl (?e6 m))) (by
  simp only[bM,iw];show(bI C,bI T,bI x,a3,c7))
 let(m,y):=y;let v:?cl (r::lv::nm::f::k) o=_:=tH (qH y (.inl (h.b0.no a2))) (by
  simp only[bM,iw];show(d2,d3,d4,d5,d6))
 let j:z="other":=c0.other.mp c1;subst j;let(M1,M2,j,w,y,z,x):=h.n2;show(?cl (r::lv::nm::f::k),lv,f,nm,u,k,t++[?j1],?gm::aM,M2++(?gm::(M1++N1)),j,?_);show{b0:=a5,bh:=AG.trans wj,fb:=HR xn,n0:=d0,rd:=rd,kS:=c2,lJ:=c4,kH:=c5,xl:=by simpa using c6,pa:=?_,su:=?_,n1:=y.k6 h.n1 w d.pl d.slot,n2:=z,sub:=?_,sup:=?_,nd:=c3,no:=λc i=>Fk i,pb:=h.pb,dl:=by have:=h.dl;simp at this;lia}
 .show(b1.mono s).l8 b3 (m,v) A ((b5.mono s).k6 (b6.mono s) b4 (h.pa.mono s))
 .show b2.mono s ?a2 λc i l e=>?cA (λj=>E (j▸i)) (λj=>X (j▸i)) (λj=>a4 (j▸i)) (λj=>a0 (j▸i)) e
 .intro c a;simp only[iE,bM]at a ⊢;rcases a with(a|a|a|a)|a
  .show .inr ?gg
  .show ?ai
  .show .inr ?gg
  .show .inr (h.sub c ?ai)
  show .inr ?gg
 intro c i;simp only[iE,bM]at i ⊢;rcases i with a|a
 .show .inl (.inl ?ab)
 rcases h.sup c a with a|⟨K,e,c,d⟩
 .rw[x]at a;simp only[iE]at a;rcases a with a|a|a|a
  .show .inl (.inl ?aT)
  .show .inl (.inl ?jZ)
  .show .inl (.inl ?ai)
  show .inl ?gO
 rcases bM.mp e with j|j
 .subst j;show .inl (.inl (.inr (.inl (by rw[d,bz c]))))
 show .inr (K,j,c,d)
end
def j0(b:Bool)(a:Nat)(d:aP):Sk.Got aP:=Cz (AA 91 a d) λ_ c e=>qr b c e
def OY{b:aP}{a:Nat}{c:UInt8}(h:b[a]?=Y c):AA c a ?bR=.ok ((),(a+1,b.drop ?aN)):=by rw[lP h,Os]
def OZ{a:Nat}(h:jf b a [c]=I):AA c a ?bR=?gy:=EI (Mu h)
def apu:jN "[" [91]:=?g
def arp:jN "|" [124]:=?g
inductive aoX(E:V)(a:L)(x:VK)(w:XK):Prop
 |i (f c d o C u y p A j H z B h n) (_:E=?bL) (_:jM a f c d ?j1 C u) (_:d<=c.length) (_:a o=Y (.lst (y++[?jV]))) (_:a p=Y (.ins g.d8 A (zt (.str (rK j)) H z B ?dM))) (_:a h=Y (.lst n)) (_:n.length<=100000) (_:(∀q,j0 j d (c.drop d)=.error q->?eu f a [.int (q:Nat)] w)) (_:(∀s e,j0 j d (c.drop d)=.ok (s,(e,c.drop e))->d<e->e<=c.length->∀b m k t r,(∀l v,l≠f->l≠h->a l=Y v->b l=Y v)->a m=U->a k=U->pL b m t r k->pj b j s t r->b k=?j8->b h=Y (.lst (n++[?d6]))->jM b f c e ?j1 ?gM u->x .cT b))
def aqQ:Sp:=ic (aoX)
def F0{b:L}(a:b c=Y (.ins e h (zt k l m n o)))(j:b d=Y (.ins f i (vt p q r s t))):c≠d:=λu=>by
 rw[u,j]at a;injection a with a;injection a with _ _ a;injection a with a _;injection a with a _;show bK a ?i
example:oj QU Gs T.Gs QX 8 g.b8 "begin_branch" ((aqQ)) ["self"] ["level","branch"] (bx (?n 1 QU.nd (?b ?l ?gB)) (bx (dO (?U T.gw oW hr (?q lI))) (bx (?n 2 QU.nd (vA (qI (?B jV (?cR ?a9) (?Y T.Ii)) (?fI T.gw KH hr) (?fI T.gw KN hr)))) (bx (dO (?U T.gw oW hr (?q lI))) (bx (dO (?aM (?cR ?a9) (?q ?dr))) (bw (?E (?cR ?dr)))))))):=by
 let(r,d,e,h1,h5,h4,i2,a0,j9,w,l2,i3,k5,j,c3,0,(e3,h8,a1,f5),g8,g1,d2,d3,k3,X,h0):=h;let k2:=fU;lk;show pV (cJ.of g1) xA ?_;lk;show(r,d,e,_,_,_,[91],Z,(e3,h8,a1,f5),g8,.inl (_,Z,apu),λi4 d5 g3 x n h6=>?_,λb=>X e (by unfold j0;rw[OZ b];rfl))
 let(c4,e0,P,d4):=h6;let e8:d[e]?=Y 91:=by rw[d5];show fL Y ((IS _ _).mp g3)
 let l0:=qm d5;let E:j0 w e (d.drop e)=qr w (e+1) (d.drop (e+1)):=by unfold j0;rw[OY e8];rfl
 let B:j≠r:=?L d3 a1;let a3:x j=_:=?cA B d3;let a9:a0≠r:=F0 d2 a1;let g2:x a0=_:=?cA a9 d2;show(λe1 q=>vJ λm b p o c l=>e1=?aC/\b<=R d/\qr w (e+1) (d.drop (e+1))=Cz (AA 124 b (d.drop b)) (λ_ a d7=>.ok (m,(a,d7)))/\ij r x q/\jM q r d b (.ref h1) h5 h4/\x c=U/\x l=U/\pL q c p o l/\q l=?j8/\pj q w m p o,?_,?_)
 .lk;rcases w with _|_
  .rw[show rK I="select" from rfl,gu ?i]
   lk;show ?bw
  rw[show rK M="plural" from rfl,im Z];lk;show ?bw
 intro e1 e2 ξ;let(m,b,p,o,c,l,0,g9,c6,C,(e4,h9,c7,f0),y,z,a4,g6,g5):=ξ;let d0:e2 j=_:=C _ _ B a3;lk;show(r,d,b,_,_,_,[124],Z,(e4,h9,c7,f0),g9,.inl (_,Z,arp),λj2 d6 g4 u v h7=>?_,λa=>(X b (by rw[E,c6,OZ a];rfl)).mono (n.trans C))
 let(e5,i1,d1,a2):=h7;let e9:d[b]?=Y 124:=by rw[d6];show fL Y ((IS _ _).mp g4)
 let l1:=qm d6;let a7:c≠r:=λa=>by rw[a,P]at y;cases y
 let a8:l≠r:=λa=>by rw[a,P]at z;cases z
 let h2:c≠j:=λa=>by rw[a,a3]at y;cases y
 let h3:l≠j:=λa=>by rw[a,a3]at z;cases z
 let f1:u j=_:=v _ _ B d0;let k0:u a0=_:=v _ _ a9 (C _ _ a9 g2);let(e7,a4):=a4;let f2:u c=_:=v _ _ a7 a4;let f3:u l=_:=v _ _ a8 g6;lk
 .lia
 let f4:D u j (.lst (c3++[?aC])) c=_:=bO h2 f2;let k1:D u j (.lst (c3++[?aC])) r=_:=bO (bI B) d1;lk;let c5:qr w (e+1) (d.drop (e+1))=.ok (m,(b+1,d.drop ?a4)):=by rw[c6,OY e9];rfl
 let g7:=ase c5;rw[lC,lC]at g7;show h0 m ?a4 (E.trans c5) ?d ?d _ c l p o ?_ ?_ ?_ (e7,bO a7 f4) ?_ (bO a8 (bO h3 f3)) (bO B bD) (e5,i1,?_,bO (?L a2 d1) (bO (?L a2 f1) a2))
 .intro b0 k4 t a6 k;show bO t (bO a6 (v _ _ t (C _ _ t (?cA t k))))
 .show n.no y a7
 .show n.no z a8
 .show pj.Pz g5 λb0 d7 k=>?_;let t:b0≠r:=?L k c7;let a6:b0≠j:=?L k d0;show bO t (bO a6 (v _ _ t k))
 rw[bD];rfl
def XR.xb{e:Int}(h:XR b a e i c)(l:Le a d)(q:a f=U):XB b f d e i c:=λj m p k n o=>h j m p (k.le l q) n o
def asI{d a:Nat}{e:Nat}(h:uv d c=.ok (a,(e,f))):a<16:=by
 unfold uv at h;split at h
 .split at h
  .rename_i b;injection h with h;injection h with h _;lia
  injection h with h;injection h with h _;lia
 .split at h
  .rename_i b;injection h with h;injection h with h _;have:=uo.mp b
   lia
  cases h
 cases h
def sO(a:Nat):List ?i0:=if a<8 then[("group",gO "group"),("plural",gO "plural"),("select",gO "select")]else[("group",gO "group")]
def tU(a:Nat):List ?ie:=if a<8 then Pt else Ps
theorem O4(a:Nat):(sO a).map pc=(tU a).map fw:=by
 unfold sO tU;split
 .decide
 decide
def YU{a:Nat}(h:a<=8):rF (tU a)=if C5-a=0 then[EL]else[EL,Yu,Yv]:=by
 unfold tU;by_cases b:a<8
 .rw[bz b,bp (by change¬8-a=0;lia),aiA]
 rw[bp b,bz (by change 8-a=0;lia),aiz]
def Pu(a:Nat):Rm.PF ((tU a).map fw):=by
 unfold tU;split
 .show an9
 show an8
def at1(b:Nat):Ox (sO b):=by
 unfold sO;intro c a;split at a
 .simp only[bM,kK,or_false]at a;rcases a with rfl|rfl|rfl<;>show ?g
 simp only[bM,kK,or_false]at a;rcases a with rfl;show ?g
def at0(a:Nat):sO a≠[]:=by unfold sO;split<;>show λb=>nomatch b
def as7(a:Nat):(sO a).length<=100:=by unfold sO;split<;>decide
def C4{c:Nat}(h:b∈sO c):(b.1="group"/\(tU c)[0]?=Y (b.2,(125:UInt8)))\/(c<8/\b.1="plural"/\(tU c)[1]?=Y (b.2,(91:UInt8)))\/(c<8/\b.1="select"/\(tU c)[2]?=Y (b.2,(91:UInt8))):=by
 unfold sO at h;unfold tU;split at h
 .rename_i a;simp only[bM,kK,or_false]at h;rcases h with rfl|rfl|rfl
  .show .inl (rfl,by rw[bz a];decide)
  .show .inr (.inl (a,Z,by rw[bz a];decide))
  show .inr (.inr (a,Z,by rw[bz a];decide))
 rename_i a;simp only[bM,kK,or_false]at h;rcases h with rfl;show .inl (rfl,by rw[bp a];decide)
def ZT{d:?iz}{pre:jc->jc}{l k m c i:Nat}(p:c≠0)(h:uv (l+1) n=.ok (k,(m,32::o)))(b:Sk.oneOf (if C5-R d=0 then[EL]else[EL,Yu,Yv]) (m+1) o=Cz (AA 91 i f) λ_ a e=>.ok (c,(a,e))):?iO d l (123::n)=Cz (j0 (c==1) i f) λq a e=>Rm.go ((c==1,k,lT d,pre,id,q)::d) id a e:=by
 unfold j0;rcases j:AA 91 i f with r|a
 .rw[j]at b;rw[MO h b];rfl
 rw[j]at b;rw[ap6 p h b];rfl
def ZS{a:Rm.Lv}{pre:jc->jc}{i:Nat}(f:a.key≠rn):?iO (a::h) i (93::c)=Cz (j0 a.pl (i+1) c) λj m l=>Rm.go ({a with iK:=λk=>a.5 (?e2 a.key k),key:=j}::h) id m l:=by
 unfold j0;by_cases d:∃b,c=91::b
 .let(b,0):=d;rw[ap5 f,Os];rfl
 let e:∀b,c≠91::b:=λb n=>d (b,n);rw[ajR f e,EI e];rfl
def Step(h:L)(k:S)(b:aP)(c:Nat)(j:?iz)(pre:jc->jc)(i:L->Prop):=∀d a e f,tR h d k b a e f->c<a->?iO j c (b.drop c)=Rm.go e f a ?bR->i d
inductive aq6(h:aP->Nat->List Rm.Lv->Prop)(m:V)(k:L)(l:VK)(j:XK):Prop
 |i (d e a b c pre) (_:m=?aY) (_:tR d k e a b c pre) (_:a.length<=50000) (_:h a b c) (_:(∀f,?iO c b ?cf=.error f->XR g.nu d (-6) [.int (f:Nat)] j)) (_:Step d e a b c pre (l .cT))
def Pl(a:aP->Nat->?iz->Prop):Sp:=ic (aq6 a)
def Zw:jN "{" [123]:=?g
def apr:jN "} " [125,32]:=?g
def K0:jN "}" [125]:=?g
theorem aqu:(mF "}").cps.getD 0 0=125:=rfl
theorem jk.Qc{q:Nat}{pre:jc->jc}{o c b:S}(h:jk e d f r m q n pre o c b l p s i j k):c≠b:=by let a:=h.nd;simp only[iu,bM,iw]at a;lia
def GF:?cd ["self","slot","kind","counted"] (eO RL):=(rfl,Z,Z,by decide+kernel,Z,by decide+kernel,by decide+kernel)
theorem Lp[f:?da]:?ec 9 "read_hole" (Pl λj s _=>j[s]?=Y 123):=uJ f.Lp GF ?v nI λb b b b X b b b n r h=>by
 let(b,0,h):=h;show(_,(bx (dO (?U f.gw oW r (?q lI))) (bx (?n 1 GF.nd (?fI f.gw Lr r)) (bx (?cQ (?B jV (?U f.gw oW r (?q lI)) (?dQ f.9)) (bx (dO (?U f.gw BH r (F (?Y f.O9) (F ?a9 (?q ?fc))))) (bw OQ))) (bx (?n 2 GF.nd (?U f.gw Gx r (?q (vA (qI (?B yc (?cp jx f.7 (?q ?l)) (?Y f.amk)) (CU (F (?Y f.CB) (F (?Y f.Ii) (?q (?Y f.ZR))))) (CU (?q (?Y f.CB)))))))) (bx (?cQ (?B jV ?dr (?Y f.CB)) (bx (dO (?U f.gw oW r (?q lI))) (bx (dO (?U f.gw BH r (F (?Y f.CB) (F ?a9 (?q ?fc))))) (bw OQ)))) (bx (?n 3 GF.nd (vA (qI (?B jV ?dr (?Y f.Ii)) ?a9 (?fI f.gw DG r)))) (bx (dO (?aM ?l (?q (oM aqd r (F ?dr (F ?a9 (F ?gH (?q ?l)))))))) (bw (dO (?fI f.gw Gs r)))))))))),?_)
 try dsimp only[eJ,jC,jF,jA]
 let(m,p,j,s,k,pre,0,(b,w,b6,b5,a2,b,c0,b1,b,b,t),b,f,d,a6):=h;let b:=fU;let a1:=lP f;rw[a1]at d;let C:∀{e b},?iO k s (123::j.drop (s+1))=.error e->Le m b->?eu p b [.int (e:Nat)] n:=λr l=>(d _ r).xb l (t.Kc ?c)
 let pl:=qm f;let(d,d,r0,d):=t.rd;lk;show(p,j,s,_,_,_,[123],Z,t.rd,t.pb,.inl (_,Z,Zw),λd d d b m n=>?_,λd=>by rw[zk.mpr f]at d;cases d)
 let b:=t.move m n ?d ?d
 let(f,f,f,f):=b.rd;lk;show(p,j,s+1,_,_,_,Z,b.rd,b.pb,λe r=>C (ajS r) b.b0,λi d f q m n u=>?_);let m:=Jb f;rw[lC,lC]at m;let a0:=asI f;let m:=b.move n u ?d q
 let(b,b,b,b):=m.rd;lk;show(p,j,d,_,_,_,[125,32],Z,m.rd,m.pb,.inl (_,Z,apr),λn v a7 E q u=>?_,λP=>C (aix f ?_ ?_) m.b0);rotate_left 1
 .intro B b;have:j[d]?=Y 125:=by
   let e:(j.drop d)[0]?=Y 125:=by rw[b];rfl
   rwa [vP]at e
  unfold jf at P;rw[this]at P;cases P
 .intro B b;have:j[d]?=Y 32:=by
   let e:(j.drop d)[0]?=Y 32:=by rw[b];rfl
   rwa [vP]at e
  unfold jf at P;rw[this]at P;cases P
 let x:=qm v;let T:=m.move q u ?d ?d
 let(m,m,m,m):=T.rd;lk;rw[aqu];let m:=t.xl;by_cases m:n=125
 .subst m;rw[im (show iT 125=V.int ((125:Nat):Int)from rfl)];show ?fU;lk;show(by decide,λl y=>?_)
  let q:=T.mono (Le.new (o:=?M) y);let(x,a9,A,a8):=q.rd;lk;show(_,_,_,_,Z,p,x,_,_,_,b6,b5,c0,b1,i,_,l,Z,A,q.7,by lia,q.6,q.Qc,Z,Z,a0,Z,?aG,λu h z a3 H a5 a4=>?_)
  show a6 u (d+1) k _ (q.arg (gr:=I) (T.new y) (T.b0.no y) bD z a3 H a5 a4 a0 ?d) ?d ?_
  rw[a1,arU (show uv (s+1) (j.drop (s+1))=.ok (i,(d,125::j.drop (d+1)))by rw[f,lP v])]
 let P:n=32:=by
  have:n=125\/n=32:=by simpa using a7
  show this.resolve_left m
 subst P;rw[gu (show¬iT 32=V.int ((125:Nat):Int)by decide)]
 show ?gd;let P:uv (s+1) (j.drop (s+1))=.ok (i,(d,32::j.drop (d+1))):=by rw[f,lP v]
 let b2:(?ed).length=R k:=by rw[ft,GB,t.su.length]
 let f:=T.5;lk;show(λs u=>∃f,s=?bL/\Le E u/\u f=Y (.tup ((sO k.length).map λn=>V.str n.1)),?_,?_)
 .lk;rw[b2];show ?cI
  .let c:((k.length:Nat):Int)<8:=c;lk;show(by decide,λB f=>(B,Z,Le.new f,?_))
   rw[bD];unfold sO;rw[bz ?d]
   rfl
  let c:¬((k.length:Nat):Int)<8:=c;lk;show(by decide,λB f=>(B,Z,Le.new f,?_))
  rw[bD];unfold sO;rw[bp ?d]
  rfl
 intro s f ξ;let(v,0,m,f):=ξ;let q:=T.mono m;let(x,a9,A,a8):=q.rd;lk;show(p,j,d+1,_,_,_,v,sO k.length,Z,q.rd,q.pb,Z,.inr (cZ.of f),at0 _,as7 _,at1 _,by rw[O4];show Pu _,λf m=>?_,λn b4 B f x a9 v A=>?_)
 .rw[O4]at m;let((E,E),T,a7,a8):=m;show C (MO P ?_) q.b0;rw[<-YU t.dl,Ym (Pu _) E T a7 a8]
 let m:=q.move v A ?d x
 let(c1,q,T,q):=m.rd;let A:B=j.drop (d+1+n.2.length):=by rw[<-uk,f,agG]
 let q:∀{v:Nat} {c:UInt8},(tU k.length)[v]?=Y (n.2,c)->Sk.oneOf (if C5-R k=0 then[EL]else[EL,Yu,Yv]) (d+1) (j.drop (d+1))=Cz (AA c (d+1+n.2.length) (j.drop (d+1+n.2.length))) λ_ E X=>.ok (v,(E,X)):=λ{v c} x=>by
  rw[<-YU t.dl,XM (Pu _) x f,A]
 lk;by_cases X:n.1="group"
 .let x:(tU k.length)[0]?=Y (n.2,(125:UInt8)):=by
   rcases C4 b4 with⟨_,b⟩|⟨_,b,_⟩|⟨_,b,_⟩
   .show b
   .rw[X]at b;show bK b ?i
   rw[X]at b;show bK b ?i
  rw[im (fL V.str X)];show ?fU;lk;show(p,j,d+1+n.2.length,_,_,_,[125],Z,m.rd,m.pb,.inl (_,Z,K0),λf f A b0 B a7=>?_,λb=>C (MO P (by rw[q x,OZ b];rfl)) m.b0)
  let c3:j[d+1+n.2.length]?=Y 125:=by rw[f];show fL Y ((IS _ _).mp A)
  let A:=qm f;let A:=m.move B a7 ?d ?d
  let(b3,a8,B,a7):=A.rd;lk;show(by decide,λl y=>?_)
  let f:=A.mono (Le.new (o:=?M) y);let(c2,c4,c4,c5):=f.rd;lk;show(_,_,_,_,Z,p,c2,_,_,_,b6,b5,c0,b1,i,_,l,Z,c4,f.7,by lia,f.6,f.Qc,Z,Z,a0,Z,.inr ?aG,λu h z a3 H a5 a4=>?_)
  show a6 u (d+1+n.2.length+1) k _ (f.arg (gr:=M) (A.new y) (A.b0.no y) bD z a3 H a5 a4 a0 ?d) ?d ?_
  rw[a1,an3 P (by rw[q x,OY c3];rfl)]
 let(z,v,b1,a3,a4,a5,x):bN λ(z:Bool) (v:Nat)=>R k<8/\n.1=rK z/\v≠0/\(v==1)=z/\(tU k.length)[v]?=Y (n.2,(91:UInt8)):=by
  rcases C4 b4 with⟨b,_⟩|⟨f,v,y⟩|⟨f,v,y⟩
  .show bK b X
  .show(M,1,f,v,by decide,Z,y)
  show(I,2,f,v,by decide,Z,y)
 rw[gu (λb=>X (by injection b))]
 show ?gd;lk;show(λs u=>a9=u/\s=cV (if z=M then Y i else cnt k),?_,?_)
 .lk;rw[a3];rcases z with _|_
  .rw[gu (show¬V.str (rK I)=V.str "plural" by decide)]
   show ?gd;lk;show(p,c1,_,_,w,_,_,_,_,Z,T,m.5,m.Fg,Z,Z)
  rw[im (show V.str (rK M)=V.str "plural" from rfl)];show ?fU;show(_,Z,Z,Z)
 intro s f ξ;let(0,0):=ξ;let u:=m.5;let f:=m.7;lk;show aoq λa l b0 s k f H b5 b4=>?_;let(X,f):=f;let A:=m.mono s;let v:=A.5;let(b3,a8,B,a7):=A.rd;let y:a≠w:=λb=>by rw[b,u]at k;cases k
 let A:l≠w:=λb=>by rw[b,u]at H;cases H
 let u:p≠w:=?bg B v;let b6:a8≠w:=?bg a7 v;lk
 .rw[b2];have:=t.dl;lia
 let t:=bO (o:=.lst (?ed++[?fw])) u B;lk;rw[a3]at f;show(p,j,d+1+n.2.length,w,_,_,_,a,X,z,_,_,_,l,[],Z,(b3,a8,t,bO b6 a7),m.pb,bD,bO y f,bO A b4,by decide,λe r=>?_,λd b a7 d a8 n d d d d d b3 b4 t B X v a3=>?_)
 .show C ?_ ?_
  .rw[ZT a4 P (q x),a5,r];rfl
  show λE o e=>bO (λC=>by rw[C,m.Kc ?c]at e;cases e) (s _ _ (m.b0 _ _ e))
 let r:a≠l:=bI b5;let b2:a≠p:=λC=>by rw[C,T]at k;cases k
 let j:l≠p:=λC=>by rw[C,T]at H;cases H
 let j:∀E,D b0 w (HO.lst (?ed++[?fw])) E=U->a9 E=U:=λE e=>s.no (wB e).1;let p:w≠l:=bI A;show a6 n b _ _ (m.open (a:=a) (l:=l) (i:=i) (pl:=z) k H (j _ b3) (j _ b4) (d _ _ b2 r (bO y f)) v (d _ _ (bI u) p bD) ?_ t B X a3 ?d a8 a0 b1) ?d ?_
 .intro E o b f e;show d _ _ b (λC=>by rw[C,H]at e;cases e) (bO f (s _ _ e))
 rw[a1,ZT a4 P (q x),a5,a7];rfl
def B8:jN "]" [93]:=?g
def Rp:?cd ["self","level"] (eO Rv):=(rfl,Z,Z,by decide+kernel,Z,by decide+kernel,by decide+kernel)
theorem Ld[p:?da]:?ec 9 "end_branch" (Pl λf b t=>f[b]?=Y 93/\t≠[]):=uJ p.Ld Rp ?v nI λa a a a a a a a m X h=>by
 let(a,0,h):=h;show(_,(bx (dO (?U p.gw oW X (?q lI))) (bx (?n 1 Rp.nd (?b ?l ?gB)) (bx (?cQ (?B wH (?cR (?b (?cR ?a9) ?gB)) (?Y p.OM)) (bx (dO (?fI p.gw Gs X)) (bw OQ))) (bx (dO (?U p.gw oW X (?q lI))) (bx (dO (M9 kz W7 W8 M5 ?l)) (bx (?E (?cR ?a9)) (bw (dO (?U p.gw BH X (F (?cR ?a9) (F (?cR ?a9) (?q (?cR ?a9))))))))))))),?_)
 try dsimp only[eJ,jC,jF,jA]
 let(k,r,f,b,t,pre,0,(a,d,E,v,a,a,a,c1,a,a,u),a,(c,a),j,b6):=h;let n:=fU;cases t with
 |nil=>show bK Z a
 |cons n t=>
 let a0:=lP c;rw[a0]at j;let c0:∀{e a},?iO (n::t) b (93::f.drop ?a4)=.error e->Le k a->?eu r a [.int (e:Nat)] m:=λa6 l=>(j _ a6).xb l (u.Kc ?c)
 let j:=qm c;let(j,j,r0,j):=u.rd;lk;show(r,f,b,_,_,_,[93],Z,u.rd,u.pb,.inl (_,Z,B8),λj j k a j m=>?_,λa=>by rw[zk.mpr c]at a;cases a)
 let c:=u.move j m ?d ?d
 let(a,a,a9,a):=c.rd;let(y,z,c6,a8,w,a,e0,a,j,a,a,C,X,a1,a2,b4,H,d3,b5,a,P,a4,d1,b2,b3):=c.su;let d0:=c.bh _ _ a1;let(b1,a3):=a;let a:=c.bh _ _ a3;let T:=c.5;rw[C]at T;simp only[DL,iD,iF,DZ]at T;lk;show pV (cJ.of T) xA ?_;lk;show pV (cJ.of H) xA ?_;lk;let a:=u.dl;by_cases B:j="other"
 .let j:=P.other.mpr B;rw[im (fL V.str B)];show ?gd;lk;show(r,f,b+1,_,_,_,[125],Z,c.rd,c.pb,.inl (_,Z,K0),λa k m a7 A p=>?_,λa=>c0 (aiy j (Mu a)) c.b0);let c7:f[b+1]?=Y 125:=by rw[k];show fL Y ((IS _ _).mp m)
  let m:=qm k;let k:=c.move A p ?d ?d
  let(q,m,p,x):=k.rd;let s:=k.5;rw[C]at s;simp only[DL,iD,iF,DZ]at s;let u:=k.bh _ _ a1;let d2:=A _ _ (?L H a9) H;let a5:=A _ _ (?L a4 a9) a4;lk;show(d,_,.ref y,Z,Z,s,by simp,?_)
  rw[Gu];let b0:r≠d:=?L p s;let a9:y≠d:=?L u s;let d5:m≠d:=?L x s;let d6:m≠r:=?L x p;let d4:y≠r:=F0 u p;let s:=bO (o:=?gQ) b0 p;let c3:=bO (o:=?gQ) a9 u;let p:=k.nd;rw[X]at p;simp only[iu,bM,iw]at p;let((c2,s,u,u,u,c4),(a9,b0,b0,b0,c5),(c5,c5,c5,d7),(d7,d7,d7),(d7,d7),(d7,d7)):=p;lk;let d7:D (D a7 d ?gQ) r _ r=Y _:=bD (o:=?ba);let p:D (D a7 d ?gQ) r ?ba r=Y (.ins g.b8 q (vt ?d6 (.int ((b+1+1:Nat):Int)) ?J (.ref w) (.ref v))):=d7;let z:=bO (o:=?ba) d4 c3;lk;show(_,_,_,_,Z,r,q,_,_,_,w,v,e0,c1,n.slot,_,a8,Z,p,bO (bI u) (bO (bI b0) a5),by lia,bO (bI s) (bO (bI a9) k.6),bI c5,Z,Z,a2,Z,?_,λv h E z w c1 a7=>?_)
  .cases n.pl
   .show .inr (.inr (.inr Z))
   show ?jm
  show b6 v (b+2) t _ (k.k6 (dx:=0) C X a2 d2 b5 (b1,a3) P a5 b2 (b3.mono .refl ?d λv t o e=>A _ _ (λA=>c4 (A▸t)) e) ?_ (wB (wB z).1).1 w c1 ?_ (E _ _ b0 a9 (bO (bI c2) bD)) (q,m,E _ _ u s p,?_) j ?d) ?d ?_
  .intro v o m p q s e;show E _ _ q s (bO m (bO p e))
  .rw[a7];cases n.pl<;>rfl
  .show E _ _ (?L x a5) (?L x k.6) (bO d6 (bO d5 x))
  rw[a0,lP c7,an2 j b4]
 let j:n.key≠rn:=λa=>B (P.other.mp a);rw[gu (λa=>B (by injection a))]
 show ?fU;lk;show(r,f,b+1,d,_,_,_,y,c6,n.pl,_,_,_,a8,_,Z,c.rd,c.pb,T,d0,H,by simp;lia,λe a6=>c0 ?_ c.b0,λb a s n t b d d d d d u v f m p k q=>?_)
 .rw[ZS j,a6];rfl
 show b6 b a _ _ (c.again C X a1 a2 b4 d3 b5 (b1,a3) P a4 d1 b2 b3 u v d k f m p q n t j) ?d ?_
 rw[a0,ZS j,s];rfl
def zz{c:Nat}(h:a[c]?=Y b):jf a c d=d.contains b:=by unfold jf;rw[h]
def K1:jN "\\" [92]:=?g
def aps:jN "\\{}[]#" [92,123,125,91,93,35]:=?g
def OW:jN "}[]" [125,91,93]:=?g
def B6:jN "#" [35]:=?g
def ZO(a:UInt8):[92,123,125,91,93,35].contains a=M<->(AB a=M\/a=35):=by
 have:=vx (P:=λa=>([92,123,125,91,93,35]:aP).contains a==(AB a||a==35)) ?w a
 rw[?jD];simp
def D5(a:UInt8):[125,91,93].contains a=M<->(AB a=M/\a≠92/\a≠123):=by
 have:=vx (P:=λa=>([125,91,93]:aP).contains a==(AB a&&(a !=92&&a !=123))) ?w a
 rw[?jD];simp
def Js{a b:UInt8}(h:a≠b):[b].contains a=I:=by simp[h]
def aeA:?cd ["self"] (eO RM):=(rfl,Z,Z,by decide+kernel,Z,by decide+kernel,by decide+kernel)
theorem Lq[f:?da]:?ec 10 "read_part" (Pl λb a _=>a<b.length):=uJ f.Lq aeA ?v nI λi4 h8 h1 l1 l5 h3 n5 h7 c5 k h=>by
 obtain⟨n4,rfl,h⟩:=h;show(_,(bw (fH ?dV (bx (dO (?U f.gw oW k (?q lI))) (bw (dO (?aM ?d0 (?q (?U f.gw oW k (?q lI))))))) (bw (fH ?dV (bw (dO (?fI f.gw Lp k))) (bw (fH (PW.pt (sC ?dV (ss (Cu ?d0 ?dz)))) (bw (dO (?fI f.gw Ld k))) (bw (fH ?dV (bw (Dl Iu k (?q ?d0))) (bw (fH (PW.pt (sC ?dV (ss (uK (F5 (?fI f.gw DG k)))))) (bx (dO (?U f.gw oW k (?q lI))) (bw (dO (?U f.gw BH k (F (eX f.CB rfl rfl) (F (?fI f.gw DG k) (?q ?fc))))))) (bw (dO (?aM ?d0 (?q (?fI f.gw GI k))))))))))))))),?_)
 try dsimp only[eJ,jC,jF,jA]
 obtain⟨a0,d,b,a,t,pre,rfl,⟨h2,c1,g3,g1,a2,l0,h0,d1,h5,h6,x⟩,b3,g2,C,w⟩:=h;have k5:=fU;obtain⟨j,m⟩:∃j,b[a]?=Y j:=(_,gv g2);have u:=lP m;have n6:=x.xl;have f1:∀{e a1},?iO t a ?bR=.error e->Le a0 a1->?eu d a1 [.int (e:Nat)] c5:=λe2 l=>(C _ e2).xb l (x.Kc ?c)
 obtain⟨i1,m5,r0,l9⟩:=x.rd;lk;show(d,b,a,_,_,_,[92],rfl,x.rd,x.pb,.inl (_,rfl,K1),λa1 f2=>?_);have v:=x.mono f2;obtain⟨i2,m6,l3,m0⟩:=v.rd;lk;rw[zz m];by_cases H:j=92
 .subst H;rw[show([92]:aP).contains 92=M from by decide]
  show ?fU;lk;show(d,b,a,_,_,_,[92],rfl,v.rd,v.pb,.inl (_,rfl,K1),λb0 j2 j9 c7 d2 e9=>?_,λq=>by rw[zk.mpr m]at q;cases q)
  have r:=v.move d2 e9 ?d ?d
  obtain⟨d4,g9,g4,g8⟩:=r.rd;have k2:=r.kH;lk;show(d,b,a+1,_,_,_,[92,123,125,91,93,35],rfl,r.rd,r.pb,.inl (_,rfl,aps),λb1 b4 e1 d0 d3 f0=>?_,λq=>f1 ?_ r.b0)
  .have l2:=qm b4;have c:=r.move d3 f0 ?d ?d
   have k3:=c.kH;lk
   .lia
   show w _ (a+2) t _ (_,_,_,_,_,_,_,_,_,_,c.put (c.pa.esc b1) (c.n1.esc b1) ?d) ?d ?_
   rw[u,lP b4,arX ((ZO _).mp e1)]
  rw[u];rcases e:b[a+1]? with _|b0
  .rw[AD e,akZ]
  rw[lP e,akY λp=>?_];rw[zz e,(ZO b0).mpr p]at q;cases q
 rw[Js H];show ?gd;lk;show(d,b,a,_,_,_,[123],rfl,v.rd,v.pb,.inl (_,rfl,Zw),λc7 f3=>?_);have r:=v.mono f3;obtain⟨d4,g9,g4,g8⟩:=r.rd;lk;rw[zz m];by_cases P:j=123
 .subst P;rw[show([123]:aP).contains 123=M from by decide]
  show ?fU;lk;show(a0,d,b,a,t,pre,rfl,(_,_,_,_,_,_,_,_,_,_,r),b3,m,C,w)
 rw[Js P];show ?gd;lk;show(d,b,a,_,_,_,[93],rfl,r.rd,r.pb,.inl (_,rfl,B8),λd0 f4=>?_);have c:=r.mono f4;obtain⟨i3,n0,l4,m1⟩:=c.rd;have b5:=c.kS;lk;rw[zz m];by_cases a3:j=93
 .subst a3;rw[show([93]:aP).contains 93=M from by decide]
  show ?fU;lk;by_cases T:t=[]
  .have a5:?ed=[]:=by
    have:=c.su.length;rw[T]at this;rw[rc.mp this];rfl
   show(I,.inl (_,cJ.of b5,by rw[a5];rfl),?_)
   show ?gd;have a6:([125,91,93]:aP).contains 93=M:=by decide
   lk;show ?ck;have s:=c.mono E;obtain⟨b2,c4,c2,c3⟩:=s.rd;lk;rw[zz m,a6];show ?fU;lk;show CF ((C a ?_).mono s.b0);rw[u];rw[L8 ?i (λp=>p.2 T) ?i ?i]
  have a5:?ed≠[]:=λp=>T (by
   have:=c.su.length;rw[Y9,V0]at p;rw[p]at this;show rc.mp this.symm)
  show(M,.inl (_,cJ.of b5,by cases q:?ed with|nil=>show bK q a5|cons _ _=>rfl),?_)
  show ?fU;lk;show(a0,d,b,a,t,pre,rfl,(_,_,_,_,_,_,_,_,_,_,c),b3,(m,T),C,w)
 rw[Js a3];show jY ?gd;by_cases X:[125,91,93].contains j=M
 .have a6:=X;lk;show ?ck;have s:=c.mono E;obtain⟨b2,c4,c2,c3⟩:=s.rd;lk;rw[zz m,a6];show ?fU;lk;show CF ((C a ?_).mono s.b0);rw[u];rw[L8 ((D5 j).mp X).1 (λp=>a3 p.1) H P]
 have b6:AB j=I:=by
  rcases q:AB j with _|_
  .rfl
  show bK ((D5 j).mpr (q,H,P)) X
 lk;show ?ck;have s:=c.mono E;obtain⟨b2,c4,c2,c3⟩:=s.rd;lk;rw[zz m,show([125,91,93]:aP).contains j=I from by simpa using X]
 show ?gd;lk;show(d,b,a,_,_,_,[35],rfl,s.rd,s.pb,.inl (_,rfl,B6),λh4 f5=>?_);have n:=s.mono f5;obtain⟨d5,n1,g5,m2⟩:=n.rd;have k4:=n.kH;lk;rw[zz m];by_cases a4:j=35
 .subst a4;rw[show([35]:aP).contains 35=M from by decide]
  show ?fU;lk;show(d,d5,_,_,c1,_,_,_,_,rfl,g5,n.kS,n.Fg,?_);lk;rcases A:cnt t with _|c0
  .rw[show decide (cV U=V.cT)=M from rfl];show ?gd;lk;show(d,b,a,_,_,_,35,rfl,n.rd,m,λa9 z B=>?_);have i:=n.move z B ?d ?d
   have e8:=i.kH;lk
   .lia
   show w _ ?aN t _ (_,_,_,_,_,_,_,_,_,_,i.put (i.pa.char 35) (i.n1.char 35) ?d) ?d ?_
   rw[u,E5 b6 (λp=>by rw[n.su.lT,A]at p;show bK p.2 ?i)]
  rw[show decide (cV (Y c0)=V.cT)=I from rfl];show ?fU;lk;show(d,b,a,_,_,_,[35],rfl,n.rd,n.pb,.inl (_,rfl,B6),λh9 k0 k1 a9 z B=>?_,λq=>by rw[zk.mpr m]at q;cases q)
  have i:=n.move z B ?d ?d
  obtain⟨d6,n2,g6,m3⟩:=i.rd;lk;show(d,d6,_,_,c1,_,_,_,_,rfl,g6,i.kS,i.Fg,?_);rw[A];show(by decide,λl a7=>?_)
  have y:=i.mono (Le.new (o:=?M) a7);obtain⟨d7,n3,g7,m4⟩:=y.rd;lk;show(_,_,_,_,rfl,d,d7,_,_,_,g3,g1,h0,d1,c0,_,l,rfl,g7,y.kH,by lia,y.lJ,y.Qc,rfl,rfl,(y.su.cnt A).1,rfl,.inr (.inl rfl),λc6 h e0 e4 e3 e7 e5=>?_)
  show w c6 ?aN t _ (y.hash A (i.new a7) (i.b0.no a7) bD e0 e4 e3 e7 e5 ?d) ?d ?_
  rw[u,ap4 (by rw[n.su.lT,A];rfl)]
 rw[Js a4];show jY ?gd;lk;show(d,b,a,_,_,_,j,rfl,n.rd,m,λa9 z B=>?_);have i:=n.move z B ?d ?d
 have e8:=i.kH;lk
 .lia
 show w _ ?aN t _ (_,_,_,_,_,_,_,_,_,_,i.put (i.pa.char j) (i.n1.char j) ?d) ?d ?_
 rw[u,E5 b6 (λp=>a4 p.1)]
def anc:Sp:=ic λk a j i=>bN λe b=>k=?aY/\a e=?bU/\R b<=50000/\(∀f,Na b=.error f->XR g.nu a (-6) [.int (f:Nat)] i)/\(∀h,Na b=.ok h->∀d c,Le a c->a d=U->rH (d9 a c) d b h->j ?J c)
def tR.init(z:Le i b)(y:i a=U)(x:b k=Y (.tup (bT m)))(h:b a=Y (.ins g.b8 n (vt ?gM ?dN ?aC ?aY ?J)))(A:i c=U)(B:i e=U)(C:i d=U)(s:c≠a)(t:e≠a)(u:d≠a)(o:b c=?j8)(p:b e=?j8)(j:b d=Y (.lst [?dN,?dN,?dN]))(r:e≠c):tR i b a m 0 [] id:=by
 let v:d≠c:=λf=>by rw[f,o]at j;cases j
 let w:d≠e:=λf=>by rw[f,p]at j;cases j
 show(λ_=>U,c,e,d,[],[],[],[],[],[],?_);show{b0:=z,bh:=λ_ _ l=>(nomatch l),fb:=λ_ _ l=>(nomatch l),n0:=?_,rd:=(n,k,h,x),kS:=o,lJ:=?_,kH:=p,xl:=?a2,pa:=ju.id,su:=(rfl,Z),n1:=kl.id,n2:=rfl,sub:=λa f=>f.elim id id,sup:=λa f=>(nomatch f),nd:=?_,no:=λ_ _=>rfl,pb:=gI _,dl:=by decide}
 .rw[j];change Y (HO.lst [V.int 0,V.int 0,V.int 0])=Y (HO.lst [V.int ((Rm.ye 0 []:Nat):Int),V.int ((Rm.ye 1 []:Nat):Int),V.int ((Rm.ye 2 []:Nat):Int)]);rw[show Rm.ye 0 []=0 by decide,show Rm.ye 1 []=0 by decide,show Rm.ye 2 []=0 by decide]
  rfl
 .simp only[iu,bM,iw,kK,not_false_eq_true,kY,DT];show((bI s,bI u,bI t),(bI v,bI r),w)
 intro E q;simp only[bM,kK,or_false]at q;rcases q with rfl|rfl|rfl|rfl
 .show y
 .show A
 .show C
 show B
theorem jk.msg{H:Nat}{pre:jc->jc}{C e d:S}(h:jk o u f P j H [] pre C e d w E t p v q)(m:Le f c)(A:f n=U)(B:c n=Y (.ins g.e_ r (Ic ?iB ?aY ?J)))(z:c i=Y (.tup (bT j))):rH (d9 o c) n j ?bI:=by
 let s:=io.mono (Cs (h.bh.trans m) h.fb) h.pa.whole;show(r,i,e,d,t,qH B (.inl (h.b0.no A)),qH z (.inr ?f0),qH (m _ _ h.7) (.inl (?e6 e)),s,?_,s.slots)
 rw[qH (m _ _ h.6) (.inl (?e6 d))]
 let x:q=[]:=h.n2;let l:∀b,b∈p<->b∈(?bI).names:=by
  intro b;rw[h.n1 .nil b];constructor
  .intro a;rcases h.sup b a with(a|a)|⟨T,y,_⟩
   .show ?ai
   .rw[x]at a;cases a
   cases y
  rintro(a|a)
  .show h.sub b ?ai
  cases a
 unfold sG;rw[MC,MC,MC,Ni (k:=0) l,Ni (k:=1) l,Ni (k:=2) l]
example:fP agF Mc T.agU Ui 11 "read_message" ((anc)) ["text"] ["reader"] (bx (?n 1 agF.nd (oM aog hr (?q ?cJ))) (bx (wk lZ (nY (jD (lH ?a9 T.gw GW hr))) (bw (dO (lH ?a9 T.gw Lq hr)))) (bx (?cQ (Cu (?cR ?a9) ?dz) (bw (Dl Iu hr (?q (?cR ?a9))))) (bw (dM (oM amv hr (F ?cJ (F (?cR ?a9) (?q (?cR ?a9)))))))))):=by
 let(u,a,0,w,P,z,E):=h;let b:=fU;lk;show amB λj b b b b B r p c k n d l o e m q t v v=>?_;let(v,p):=p;let v:tR H b j a 0 [] id:=tR.init B r (B _ _ w) p c d e k l m n o q t;lk;show(λC c m=>gG λb d pre=>tR H m j a b d pre/\Rm.go [] id 0 a=?iO d b ?cf/\C=R a-b/\c=[Y (.ref u),Y ?dh],(_,0,[],id,v,Z,Z,Z),?_);intro C c c ξ;let(b,d,pre,(c,c,c,c,v,c,c,c,c,c,c),k,0,0):=ξ;let(e,e,e,e):=c.rd;let e:=c.pb;lk;show(j,a,b,_,_,_,Z,c.rd,?_);lk;by_cases n:b=R a
 .rw[im n];show ?gd;let x:=c.5;let e:?cf=[]:=by rw[n];show GN
  rw[e]at k;let e:=ZU a;rw[k]at e;lk;rcases d with _|⟨l,d⟩
  .show(I,.inl (_,cJ.of x,by rw[c.su.1];rfl),?_)
   show ?gd;rw[arW Z]at e;lk;show alc λl t r y q=>?_;let(o,q):=q;show E _ e l t (c.b0.trans r) (c.b0.no y) (c.msg r y q (r _ _ (c.b0 _ _ w)))
  rw[arV ?c]at e
  let o:v.reverse.map V.ref≠[]:=λl=>by
   have:=c.su.length;rw[Y9,V0]at l;rw[l]at this;simp at this
  show(M,.inl (_,cJ.of x,by cases p:v.reverse.map V.ref with|nil=>show bK p o|cons _ _=>rfl),?_)
  show ?fU;lk;show CF ((z b e).mono c.b0)
 rw[gu n];show ?fU;show(λn m=>∃E,E<R a-b/\gG λb d pre=>tR H m j a b d pre/\Rm.go [] id 0 a=?iO d b ?cf/\E=R a-b/\n=[Y (.ref u),Y ?dh],λ_ _ l=>l,?_);lk;show(H,j,a,b,d,pre,Z,(_,_,_,_,_,_,_,_,_,_,c),P,by change b<R a;lia,λb o=>z b ?_,λt P b c X d o=>?_)
 .let e:=ZU a;rw[k,o]at e;show e
 have(_,_,_,_,_,_,_,_,_,_,d):=X;let e:=d.pb;show(R a-P,by lia,P,b,c,X,k.trans o,Z,Z)
def nz(a:L):?aD->?bl->Prop:=jb λb c=>a b=?a1
def nz.mono(h:nz a c d)(l:?gR):nz b c d:=jb.lu h λ_ _ e=>?c5 e
def FieldsAt(a:L)(l:S)(c:?bl):=∃b:List S,a l=Y (.lst ?fl)/\nz a b c
def wt{b:?aD}{c:Nat}(h:(?fl)[c]?=Y e):∃a,b[c]?=Y a/\e=?fw:=by
 rw[iC]at h;rcases d:b[c]? with _|a
 .rw[d]at h;cases h
 rw[d]at h;show(a,Z,(gR h).symm)
def Nm(a:?bl)(h:∀b∈a,R b<=1000):(i0 a).length<=1001*R a:=by
 unfold i0;rw[Y0];have:(a.flatMap λb=>b++[32]).length<=1001*R a:=by
  induction a with
  |nil=>simp
  |cons b a ih=>
   rw[Lu];simp only[iA,lO,uX];let e:=h b ?c
   let f:=ih λd c=>h d (gY _ c)
   lia
 lia
def ao3:Sp:=ic λe b d _=>gG λl c a=>e=?bk/\cJ g.K b l (c.map V.ref)/\nz b c a/\R a<=1000/\(∀f∈a,R f<=1000)/\zM b (i0 a) d
example:fP Lh RF T.aeW RP 1 "joined_by_blanks" ((ao3)) ["rows"] ["joined","place","row"] (bx (?n 1 Lh.nd ?fc) (?cz (?fd (F9 Z T.4 (?q ?cJ)) (Jy (n:=2) Z (yV (?R 2 Lh.nd) (yV (?R 3 Lh.nd) IV))) (nh (?cQ (?B vE ?dr bP) (bw (dO (?aM ?a9 (?q (?Y T.E4)))))) (bw (dO (?eb En ?a9 (?q ?gH)))))))):=by
 let(l,z,d,0,j,k,b,w,a0):=h;lk;show(by decide,λb e=>?_)
 lk;show ZP (K:=g.K) (a:=l) (xs:=z.map V.ref) (λi m c=>?eo c/\c b=Y (.lst (bT (i0 (d.take i))))/\bN λo v=>m=[?kf,?j5,o,v]) (by simp_wf,by bv_omega,U,U,Z) (λi m c _ C=>cJ.mono j C.1) ?_ ?_
 .intro i v y m c X E ξ;let(t,j,x1,x2,0):=ξ;let(a,P,0):=wt X;let(q,p,r):=pK k P;let o:i<R d:=(ig.mp p).1;let o:=Nm (d.take i) (λq k=>w q (Gv k));rw[jR]at o;let o:=w q (lW p);let o:=fU;let o:b≠y:=fO j E;let o:a≠b:=fO r e;show(_,_,Z,cZ.of bD,Z,_,_,Z,_,_,Z,Z,λx o=>?eo o/\o b=Y (.lst (bT (i0 (d.take i)++(if 0<i then[32]else[]))))/\x=[?kf,?j5,Y (.int (i:Nat)),Y ?s],?_,?_)
  .lk;show hU (λB=>?_) (λB=>?_)
   .lk
    .rw[gZ];lia
    show(Le.put ?bd e,?_,Z)
    rw[bD,bz ?d]
    simp only[kF,iD];rfl
   show(by simp_wf,?_,Z)
   rw[bp ?d,mD]
   bv_omega
  intro x o ξ;let(u,o,0):=ξ;lk;show(b,a,_,_,Z,Z,o,cZ.of (u _ _ r),?_,u.put e,?_,_,_,Z)
  .rw[gZ,gZ,iA];have:(if 0<i then[32]else([]:aP)).length<=1:=by split<;>decide
   lia
  rw[bD,take_snoc p];rcases i with _|n
  .rw[LX,Td,ak4,bp ?i]
   simp[ak3,kF]
  rw[ajU (by
   intro o;have:=fL R o;rw[jR,uX]at this;have:min (n+1) (R d)=n+1:=wV ?d
   lia),bz (Nat.succ_pos _)]
  simp only[kF,iD]
 intro m c ξ;let(t,j,x1,x2,0):=ξ;lk;rw[ft,k.length,nP]at j;show a0 b c t e j
def JD(b:cp)(a:L):?aD->?bl->Prop:=jb λc d=>cZ b a c (bT d)
def Wr:∀a:List aP,yz (a.map dB)=M:=by
 intro d
 induction d with
 |nil=>
  simp[yz]
 |cons e a ih=>
  let b:=ih;let c:=Ef e;simp[yz,Ai,dB,b,c]
def anM(a:aP):An (dB a)<=2:=by
 have:=HG a;unfold dB;simp only[An]
 lia
def al6(a:aP):Ai (dB a)=M:=by unfold dB;simp only[Ai];show Ef a
def ZM(h:JD b a c d):xT b a (c.map V.ref) (d.map dB):=by
 induction h with
 |nil=>show .nil
 |cons e f ih=>show .cons (AU e) ih
def auu(b:cp):R2:=λj k a i=>mv λc e f d h=>j=?aC/\cZ b a c (bT e)/\k=?bL/\cJ b a f (d.map V.ref)/\JD b a d h/\i (.bl (h.contains e)) a
theorem any_rows(b:aP):∀a:List aP,((a.map dB).any λc=>wc c (dB b))=a.contains b
 |[]=>rfl
 |d::a=>by
  rw[iF,rX,any_rows b a,Jp,wR];congr 1;rw[sZ];simp;show(Ot,Ot)
def asr{c:Cx}(x:c.A.units+64<pS):ly c (nU .In) (auu c.K):=by
 intro z A E e B C q p r b n o h;let(s,a,y,t,d,0,f,0,i,j,k):=h;let(u,l):=Dp.reads b (dB a) _ q (AU f) n;let(v,m):=Dp.reads b (.list (d.map dB)) _ p (.lst i (ZM j)) o;let w:=anM a;show SeqAt.in_list_reads m l (Wr d) (al6 a) (by have:=afw (BN (d.map dB)) (An (dB a));lia) (.bl _,e,b,Z,?_)
 rw[any_rows];show k
section
def sw(b:L)(d:V):Option aP->Prop
 |none=>∃a,d=?s/\cZ g.K b a []
 |some c=>∃a,d=?s/\b a=?a1/\c≠[]
structure lQ(e:L)(c:List (List Key×V))(b:List jz):Prop where
 nd:(c.map fw).Nodup
 has:∀a∈b,∃d,eQ c (bk a.key)=Y ?J/\rH e d a.text a.msg
 only:∀f∈c.map fw,∃a∈b,f=bk a.key
 kr:qi b
 gM:b.length<=48
 sz:∀a∈b,a.text.length<=1024/\fk a.msg<=1025/\a.key.length<=24/\a.key≠[]
def EQ(a:j3):=a.category<=5/\a.modulus<4294967296/\a.low<4294967296/\a.high<4294967296
inductive kE(b c:L)(m:S)(a:cq)(h l:S):Prop
 |i (n k e j f d) (_:c m=Y (?A n (iX ?gM e ?dh ?bk ?dM))) (_:b k=Y (.tup (bT a.tag))) (_:sw b e a.back) (_:b j=Y (.tup (bT a.ways.sep))) (_:a.ways.sep.length<=4) (_:c l=Y ?jT) (_:jb (sx b) d a.ways.rules) (_:a.ways.rules.length<=32) (_:(∀o∈a.ways.rules,EQ o)) (_:Rd c h (.dT f)) (_:lQ b f a.entries)
def mq(a b:L)(c:S)(f:cq):=bN λd e=>kE a b c f d e
def jU(c d:L):?aD->?t->?aD->Prop
 |[],a,b=>a=[]/\b=[]
 |e::l,a,b=>mv λk f h j i=>a=k::f/\b=e::h::j::i/\kE c d e k h j/\jU c d l f i
end
def hG(b:?aD)(c:?t):?j4:=List.zipWith (λa (d:cq)=>(bk d.tag,?fw)) b c
section
variable{B B' H H':L}
theorem sw.mono(h:sw B e c)(l:?eR):sw B' e c:=by
 rcases c with _|i
 .let(a,b,d):=h;show(a,b,cZ.mono d l)
 let(a,b,d,f):=h;show(a,b,?c5 d,f)
def sw.sq(h:sw B c b):∃a,c=?s/\cZ g.K B a (bT (b.getD [])):=by
 rcases b with _|i
 .show h
 let(a,d,e,f):=h;show(a,d,cZ.of e)
theorem lQ.mono(h:lQ B b a)(l:?eR):lQ B' b a:={nd:=h.nd,has:=λc f=>let(i,d,e):=h.has c f;(i,d,e.mono l),only:=h.only,kr:=h.4,gM:=h.gM,sz:=h.sz}
def Rd.mono{H H':L}(h:Rd H a b)(l:?eo H'):Rd H' a b:=by
 rcases h with h|⟨c,h⟩
 .show .inl (?c5 h)
 show .inr (c,?c5 h)
theorem kE.mono{c d e:S}{i:cq}(h:kE B H c i d e)(a:?eR)(l:∀b,H c=Y b->H' c=Y b)(m:∀f,Rd H d f->Rd H' d f)(n:∀b,H e=Y b->H' e=Y b):kE B' H' c i d e:=by obtain⟨k,P,o,E,A,j,p,s,t,u,v,w,x,y,z,q,r⟩:=h;show(k,P,o,E,A,j,l _ p,?eM s,t.mono a,?eM u,v,n _ w,jb.lu x λ_ _ C=>C.mono a,y,z,m _ q,r.mono a)
theorem kE.le(h:kE B H b e c d)(l:?eo H'):kE B H' b e c d:=h.mono .refl (λ_ a=>?c5 a) (λ_ a=>Rd.mono a l) (λ_ a=>?c5 a)
theorem mq.le(h:mq B H a b)(l:?eo H'):mq B H' a b:=by let(c,e,d):=h;show(c,e,d.le l)
theorem jU.mono:∀{e:?aD} {k:?t} {i:?aD},jU B H e k i->?eR->(∀d∈i,∀b,H d=Y b->H' d=Y b)->jU B' H' e k i:=by
 intro r
 induction r with
 |nil=>
  intro _ _ h _ _;show h
 |cons m e ih=>
  intro _ _ h j c;obtain⟨d,q,f,l,s,rfl,rfl,n,o⟩:=h;show⟨d,q,f,l,s,rfl,rfl,n.mono j (λb a=>c m ?c b a) (λu a=>?_) (λb a=>c l ?c b a),ih o j λt p b a=>c t (by simp[p]) b a⟩
  rcases a with a|⟨b,a⟩
  .show .inl (c f ?c _ a)
  show .inr ⟨b,c f ?c _ a⟩
theorem jU.le(h:jU B H a b c)(l:?eo H'):jU B H' a b c:=h.mono .refl λ_ _ _ d=>?c5 d
theorem jU.length:∀{a:?aD} {b:?t} {e:?aD},jU B H a b e->R a=R b:=by
 intro d
 induction d with
 |nil=>
  intro _ _ h;rw[h.1];rfl
 |cons f a ih=>
  intro _ _ h;let(n,j,k,m,l,0,0,i,c):=h;simp[(ih c)]
theorem jU.get:∀{f:?aD} {j:?t} {d:?aD} {i:Nat} {a:S},jU B H f j d->f[i]?=Y a->gG λx c e=>j[i]?=Y x/\kE B H a x c e/\a∈d/\c∈d/\e∈d
 |[],_,_,i,a,h,b=>by simp at b
 |u::f,_,_,i,a,h,b=>by
  let(x,v,c,e,w,0,0,k,l):=h;rcases i with _|i
  .simp at b;subst b;show(x,c,e,Z,k,by simp,by simp,by simp)
  let(t,m,s,n,o,p,q,r):=l.get (i:=i) (a:=a) (by simpa using b)
  show(t,m,s,by simpa using n,o,by simp[p],by simp[q],by simp[r])
theorem ata:bk a=bk b<->a=b:=(uI,λc=>by rw[c])
theorem YI:∀{as:?aD} {ls:?t},R as=R ls->∀a:aP,(match ls.findIdx? (λb=>b.tag==a)with
 |none=>eQ (hG as ls) (bk a)=U/\gt ls a=U
 |some e=>bN λd b=>as[e]?=Y d/\ls[e]?=Y b/\eQ (hG as ls) (bk a)=Y ?J/\gt ls a=Y b)
 |[],[],_,a=>(rfl,Z)
 |d::as,b::ls,h,a=>by
  have ih:=YI (as:=as) (ls:=ls) ?dy a
  rw[List.findIdx?_cons];by_cases c:b.tag=a
  .rw[bz (beq_iff_eq.mpr c)];show(d,b,Z,Z,?_,?_)
   .unfold eQ hG;rw[DD,wP ?fq]
    rfl
   .unfold gt;rw[wP ?fq]
  .rw[bp ?fq]
   let j:eQ (hG (d::as) (b::ls)) (bk a)=eQ (hG as ls) (bk a):=by
    unfold eQ hG;rw[DD,uf (by simp[ata,c])]
   let k:gt (b::ls) a=gt ls a:=by
    unfold gt;rw[uf ?fq]
   rw[j,k];cases f:ls.findIdx? (λb=>b.tag==a)with
   |none=>rw[f]at ih;show ih
   |some e=>
    rw[f]at ih;let(i,p,l,m,n,o):=ih;show(i,p,by simpa using l,by simpa using m,n,o)
def Ey{a:?aD}{ls:?t}(h:R a=R ls):(hG a ls).length=R ls:=by unfold hG;rw[List.length_zipWith,h,Vd]
theorem jU.find(h:jU B H e a j)(d:aP):(gt a d=U/\eQ (hG e a) (bk d)=U)\/mv λ(f:Nat) (c:S) (b:cq) (i k:S)=>e[f]?=Y c/\a[f]?=Y b/\gt a d=Y b/\eQ (hG e a) (bk d)=Y ?aC/\kE B H c b i k/\c∈j/\i∈j/\k∈j:=by
 have:=YI h.length d;rcases l:a.findIdx? (λb=>b.tag==d)with _|f
 .rw[l]at this;show .inl (this.2,this.1)
 rw[l]at this;let(c,b,m,n,p,q):=this;let(t,i,k,o,r,s):=h.get m;rw[n]at o;cases o;show .inr (f,c,b,i,k,m,n,q,p,r,s)
end
def Seq.off{o:HO}(h:Seq e c f j)(b:c i=Y (.ins k l m)):Seq e (D c i o) f j:=by
 rcases h with((h|⟨d,h⟩)|h)|((h|⟨d,h⟩)|h)
 .show .inl (.inl (.inl (bO (?L h b) h)))
 .show .inl (.inl (.inr (d,bO (?L h b) h)))
 .show .inl (.inr h)
 .show .inr (.inl (.inl (bO (?L h b) h)))
 .show .inr (.inl (.inr (d,bO (?L h b) h)))
 show ?jP
inductive arf(self:V)(q:V)(b:L)(p:VK)(r:XK):Prop
 |i (a f e j k l m n o) (_:self=?s) (_:q=?aY) (_:b a=Y (?cv g.Term f)) (_:Seq g.K b e [j,k,l,m,n,o]) (_:∀c,(∀d h,d≠a->b d=Y h->c d=Y h)->c a=Y (.ins g.Term f (JA j k l m n o))->p .cT c)
def N5:Sp:=kq (arf)
def aiR:gy ["self","numbers"] ["self","numbers"] (eO WJ):=(rfl,Z,Z,by decide+kernel,Z,by decide+kernel,by decide+kernel)
def asa[f:?da]:?jB "Term" g.Term ["self","numbers"] (N5):=tN f.ar2 f.arT aiR ?Z tV λB A w E H x a C h=>by
 let(X,T,0,h):=h;show(_,(?fK (?fK (?fK (?fK (?fK (bw (?E (?b ?a9 bP)))))))),?_)
 try dsimp only[eJ,jC,jF,jA]
 let(a,b,y,c,d,e,n,v,P,0,0,s,q,t):=h;let i:=q;lk;show zX i Z ?_;lk;let j:=Seq.off (o:=?fD g.Term (dS "category" c [])) i s;show zX j Z ?_;lk;let k:=Seq.off (o:=?fD g.Term (dS "ends" d (dS "category" c []))) j bD;show zX k Z ?_;lk;let l:=Seq.off (o:=?fD g.Term ?dH) k bD;show zX l Z ?_;lk;let m:=Seq.off (o:=?fD g.Term (dS "modulus" n ?dH)) l bD;show zX m Z ?_;lk;let u:=Seq.off (o:=?fD g.Term (dS "low" v (dS "modulus" n ?dH))) m bD;show zX u Z ?_;lk;show t _ (λz o a p=>?_) bD;rw[cY a,cY a,cY a,cY a,cY a,cY a];lia
def aqn{p:S->L->Prop}(v:Seq g.K c i [j,k,l,m,n,o])(h:∀(a:S) (d:L),?iG->c a=U->(∃b,d a=Y (?fD g.Term (JA j k l m n o)))->p a d):∀a b,c a=U->c b=U->b≠a->N5 (?s::([?iB]++[])) (?bm (?cv g.Term b)) (λy s=>y=.cT/\p a s) r:=by intro a b f q z;show(_,_,Z,a,b,i,j,k,l,m,n,o,Z,Z,bD,Seq.mono v (Le.put (Le.new q) f),λd u w=>(rfl,h a d (λt x e=>u t x (fO e f) ?_) f (b,w)));rw[cY (fO e f),cY (fO e q)];lia
def akn:Sp:=ic λe b d _=>bN λc a=>e=?aC/\sx b c a/\∀l,b l=U->d ?bk (D b l (.lst [.int a.category,.int (vL a.ends),.int (vL a.outside),.int a.modulus,.int a.low,.int a.high]))
example:fP awD ah4 T.aim VT 1 "numbers_of" ((akn)) ["term"] [] (bw (dM (ib (F ?l (F ?l (F ?l (F ?l (F ?l (?q ?l))))))))):=by let(b,e,0,(c,d),a):=h;lk;show((by change 6<=cw;decide),a)
def am2:Sp:=ic λl a j _=>bN λb k=>vJ λ(c d i h f e:Int)=>l=?av/\a b=Y (.ins g.Term k (JA ?f3 ?gV (.int i) (.int h) (.int f) (.int e)))/\j (.bl (decide (c<=5/\d<=1/\i<=1/\h<4294967296/\f<4294967296/\e<4294967296))) a
def aeY:gy ["term"] ["term"] (eO Si):=(rfl,Z,Z,by decide+kernel,Z,by decide+kernel,by decide+kernel)
def afe[b:?da]:g.qV 1 "term_is_allowed" ["term"] (am2):=wy b.afh aeY ?v nI λH C A X a f a o B T h=>by
 let(a,0,h):=h;show(_,(nh (?cQ (PW.pt (qR (?B vE ?l (?Y b.SC)) (qR (?B vE ?l bP) (vC (?B vE ?l bP))))) (bw (dM AW))) (bw (dM (Jw (?iq yc (?Y b.OL)) (Jw (?iq yc (?Y b.OL)) (CT (?iq yc (?Y b.OL)))))))),?_)
 try dsimp only[eJ,jC,jF,jA]
 let(t,E,i,j,m,r,q,p,0,P,k):=h;show(λs n=>f=n/\s=[Y (.ref t)]/\i<=5/\j<=1/\m<=1,?_,?_)
 .let l:¬(i<=5/\j<=1/\m<=1)->o (.bl I) f:=λz=>by
   rw[gu (λa=>z (a.1,a.2.1,a.2.2.1))]at k;lia
  lk;show ?cI
  .show kQ (l ?d)
  lk;show ?bb
  .show kQ (l ?d)
  lk;show hU (λu=>?_) (λu=>?_)
  .show l ?d
  show(rfl,Z,by lia,by lia,by lia)
 intro s n ξ;let(0,0,v,w,x):=ξ;lk;let fin:∀e:Bool,e=decide (r<4294967296/\q<4294967296/\p<4294967296)->o (.bl e) f:=λe y=>by
  have:e=decide (i<=5/\j<=1/\m<=1/\r<4294967296/\q<4294967296/\p<4294967296):=by
   rw[y];show decide_eq_decide.mpr (λa=>(v,w,x,a),λa=>a.2.2.2)
  rw[this];show k
 show ?cI
 .lk;show ?bb
  .lk;show fin _ (decide_eq_decide.mpr (λa=>(c,d,a),λa=>a.2.2))
  show fin _ (gu λa=>d a.2.1).symm
 show fin _ (gu λa=>c a.1).symm
def nV(a:Nat):V:=.int ?aO
def apB(c:L)(e:j3)(d:VK):=∀b a,Le c a->c b=U->sx a b e->d ?av a
def alF:Sp:=ic λh a e d=>bN λb c=>h=?av/\Seq g.K a b (c.map nV)/\(match Nw c with|none=>?aL a d|some f=>apB a f e)
example:fP aiW Wp T.ajI WY 4 "read_term" ((alF)) ["numbers"] ["term"] (nh (?ao (?B wH (?y (?q ?cJ)) (?Y T.GD))) (bx (?n 1 aiW.nd (oM asa hr (?q ?cJ))) (?cz (?ao (nY (jD (?aA afe (?q ?a9)))))))):=by
 let(y,e,0,B,c):=h;show(λw o=>H=o/\w=[Y (.ref y),U]/\R e=6,?_,?_)
 .lk;rw[ft];rcases b:decide (V.int (e.length:Int)=V.int 6)with _|_
  .lk;show iI ?_;let a:R e≠6:=λE=>by
    have:¬V.int (e.length:Int)=V.int 6:=nN b;show this (by rw[E];rfl)
   rw[alO a]at c;show c
  lk;have:V.int (e.length:Int)=V.int 6:=lN b;injection this with this
  lia
 intro w o ξ;let(0,0,z):=ξ;let(b,d,j,m,l,k,0):=lq6 z;rw[alP]at c;lk;show aqn B λv x u r C=>?_;let(p,t):=C;lk;show(v,p,b,d,j,m,l,k,Z,t,?_);lk;by_cases n:b<=5/\d<=1/\j<=1/\m<4294967296/\l<4294967296/\k<4294967296
 .rw[bz n]at c;rw[im (show ?cg<=5/\(d:Int)<=1/\(j:Int)<=1/\(m:Int)<4294967296/\(l:Int)<4294967296/\(k:Int)<4294967296 by lia)]
  lk;show c v x u r (p,?_);let q:∀a:Nat,a<=1->?aO=vL (a==1):=λa r=>by
   rcases a with _|_|a
   .rfl
   .rfl
   lia
  rw[<-q d n.2.1,<-q j n.2.2.1];show t
 rw[bp n]at c;rw[gu (show¬(?cg<=5/\(d:Int)<=1/\(j:Int)<=1/\(m:Int)<4294967296/\(l:Int)<4294967296/\(k:Int)<4294967296)by lia)]
 lk;show iI (c.mono u)
def alL:Sp:=ic λd a c _=>bN λl b=>d=?bk/\zf a l b/\c (.bl (vd b)) a
example:fP awM Wq T.ajK WZ 1 "terms_end" ((alL)) ["terms"] [] (bw (dM (PD (uG jV (?y (?q ?cJ)) bP (fi _)) (CT (uG jV (?cR (?b ?cJ ?gB)) bP (fi _)))))):=by
 let(l,m,0,(q,w,i),e):=h;lk;rw[ft];show ?bb
 .let j:m=[]:=by
   injection d with d;have:=i.length;show rc.mp ?d
  rw[j]at e;show e
 let z:q≠[]:=λn=>d (by rw[n];rfl)
 let(o,c,0):=xM z;let x:bN λb a=>m=b++[a]/\sx H c a:=by
  let y:m≠[]:=λn=>by
   have:=i.length;rw[n]at this;simp at this
  let(b,a,0):=xM y;show(b,a,Z,?_);let p:=i.length;simp at p;let t:(o++[c])[o.length]?=Y c:=by simp
  let(E,k,u):=pK i t;rw[p]at k;simp at k;rw[k];show u
 let(b,a,0,B,C):=x;lk;show pV (cJ.of w) (v:=?aC) (by rw[iD];show xA) ?_
 lk;let j:vd (b++[a])=a.ends:=by simp[vd]
 rw[j]at e;have:decide (V.int (vL a.ends)=V.int 1)=a.ends:=by cases a.ends<;>decide
 rw[this];show e
def Oa{a b:Nat}(h:a<=b):oK d (Y ?aO) (Y ?cg)=(d.drop a).take (b-a):=by
 unfold oK;rw[HT.OR,HT.OR];rcases Vc a d.length with c|c
 .rw[wV c];rcases Vc b d.length with e|e
  .rw[wV e]
  rw[Ss e,wQ ?iw,wQ ?iw]
 rw[Ss c,Bx ?a2,Bx c,Up,Up]
def akp:Sp:=ic λj a h f=>bN λc e=>j=?aC/\a c=Y (.tup (e.map nV))/\R e<=1000/\(match Nc e with|none=>?aL a f|some i=>∀(l:S) (d:?aD) b,?gR->a l=U->b l=Y ?jT->jb (sx b) d i->(∀c∈d,a c=U)->h ?bk b)
def vZ{b c:Type}{a:b->c->Prop}{e:List b}{i:List c}{d:b}{f:c}(j:jb a e i)(h:a d f):jb a (e++[d]) (i++[f]):=by
 induction j with
 |nil=>show ?c2 h
 |cons k l ih=>show .cons k ih
example:fP UT ah5 T.ain VU 5 "read_terms" ((akp)) ["numbers"] ["terms","start"] (nh (?ao (?B vE (?y (?q ?cJ)) (jW CS (?Y T.Vt) (?Y T.GD)))) (bx (?n 1 UT.nd ?fc) (bx (?fd (Zk Z T.IR (F bP (F (?y (?q ?cJ)) (?q (?Y T.GD))))) (?R 2 UT.nd) (bw (dO (?aM ?a9 (?q (?aA Wp (?q (xD OU ?cJ (tJ ?dr) (tJ (jW vy ?dr (?Y T.GD))))))))))) (?cz (?ao (nY (jD (?aA Wq (?q ?a9))))))))):=by
 let(o,d,0,n,a,b):=h;rw[Yg]at b;show(λa e=>H=e/\a=[Y ?j1,U,U]/\R d<=192,?_,?_)
 .lk;show(.inl (by decide,by decide),?_)
  lk;rw[ft];show ?cI
  .show iI ?_;rw[Yi 32 d ?d]at b
   show b
  show(rfl,Z,by lia)
 intro a e ξ;let(0,0,a):=ξ;lk;show(by decide,λl X=>?_)
 lk;rw[ft];let a:JT 0 (d.length:Int) 6 ((R d+5)/6):=P9 (c:=6) ?i ?i ?d ?d ?d
 show(0,_,6,_,Z,a,?_);show akV (λi z e=>?eo e/\gG λ(a:?aD) (j:List j3) (y:?gP)=>e l=Y (.lst ?eN)/\jb (sx e) a j/\(l∉a/\∀o∈a,H o=U)/\R j=i/\i<=32/\z=[Y ?j1,?kf,y]/\Ed 32 d=(Ed (32-i) (d.drop (6*i))).map (j++ ·)) ?_ ?_ ?_
 .show(by simp_wf,[],[],U,bD,.nil,(by simp,by simp),Z,by lia,Z,?_)
  simp
 .intro i z e k ξ;let(m,a,j,y,t,p,u,E,a1,0,q):=ξ;let P:d.drop (6*i)≠[]:=λk=>by
   have:=fL R k;rw[lC]at this;simp at this
   lia
  let v:(0+(i:Int)*6)=((6*i:Nat):Int):=by lia
  let w:(0+(i:Int)*6+6)=((6*i+6:Nat):Int):=by lia
  let w:R a<33:=by rw[p.length];lia
  lk;show(o,_,Z,m _ _ n,λw n n x=>?_);rw[v]at x;let o:((6*i:Nat):Int)+6=((6*i+6:Nat):Int):=by lia
  rw[o,Oa ?d,show 6*i+6-6*i=6 by lia,<-Mh,<-Uo]at x
  lk;show(w,(d.drop (6*i)).take 6,Z,.inr (cZ.of x),?_);let o:i<32:=by lia
  rcases o:Nw ((d.drop (6*i)).take 6)with _|a3
  .rw[q,NO P o]at b;show b.mono (m.trans n)
  show λB v w a2 x=>?_;let C:=w _ _ (?cA t);lk
  .rw[ft,fU];lia
  let(a0,v):=x;let x:B≠l:=?gf v C;show(Le.put ((m.trans n).trans w) X,a++[B],j++[a3],_,?_,?_,?_,?_,by lia,Z,?_)
  .rw[bD,iD];rfl
  .show vZ (jb.lu p λB a3 a3=>?_) (a0,bO x v);let(a0,v):=a3;show(a0,bO (?gf (w _ _ (?cA v)) C) (w _ _ (?cA v)))
  .show(by simp[u.1,bI x],λB v=>?_)
   rcases iE.mp v with k|k
   .show u.2 B k
   rw[lX.mp k];show(m.trans n).no a2
  .simp[E]
  rw[q,show 32-i=(32-(i+1))+1 by lia,Nt P o,uk,Option.map_map]
  rw[show 6*i+6=6*(i+1)by lia]
  congr 1;funext r;simp
 intro z e ξ;let(m,a,j,y,t,p,u,E,a1,0,q):=ξ;rw[Bx ?d,NP]at q
 let k:Ed 32 d=Y j:=by rw[q];simp
 rw[k]at b;lk;show(l,j,Z,(a,t,p),?_);lk;rcases d:vd j with _|_
 .lk;simp only[d,yt,if_false]at b;show iI (b.mono m)
 lk;simp only[d,if_true]at b;show b l a e m X t p u.2
def apA(a:L):?aD->?bl->Prop:=jb λb c=>a b=Y (.lst (bT c))
def VF:∀{c:List j} {a:List k} {e:j} {b:k},jb f (c++[e]) (a++[b])->jb f c a/\f e b:=by
 intro c
 induction c with
 |nil=>
  intro a e b h;rcases a with _|⟨n,a⟩
  .cases h with|cons i _=>show(.nil,i)
  cases h with|cons _ d=>cases a<;>cases d
 |cons o c ih=>
  intro a e b h;rcases a with _|⟨n,a⟩
  .cases h with|cons _ d=>cases c<;>cases d
  cases h with
  |cons i d=>
   let(l,m):=ih d;show(.cons i l,m)
def HK{i j:Type}{d G:i->j->Prop}{c:List i}{e:List j}(k:jb d c e):(∀a b,a∈c->d a b->G a b)->jb G c e:=by
 induction k with
 |nil=>show λ_=>.nil
 |cons l m ih=>show λf=>.cons (f _ _ ?c l) (ih λa b h=>f a b (gY _ h))
def NT(d:aP):(iJ d).length<=R d+1/\∀c∈iJ d,R c<=R d:=by
 induction d with
 |nil=>show(?a2,λc b=>by simp[iJ]at b;rw[b];simp)
 |cons i f ih=>
  unfold iJ;split
  .show(by simp;show ih.1,λc b=>?_)
   rcases ?i3 with a|a
   .rw[a];simp
   have:=ih.2 c a;simp;lia
  rcases e:iJ f with _|⟨h,l⟩
  .simp
  rw[e]at ih;show(by simpa using ae5 ih.1,λc b=>?_)
  rcases ?i3 with a|a
  .have:=ih.2 h ?c;rw[a];simp;lia
  have:=ih.2 c (gY _ a);simp;lia
def ara:Sp:=ic λf c e _=>bN λd b=>f=?J/\c d=?bU/\R b<=20000/\∀l a,Le c a->FieldsAt a l (iJ b)->e ?bk a
example:fP GK afd T.afg LB 1 "split_at_blanks" ((ara)) ["row"] ["fields","byte","field"] (bx (?n 1 GK.nd (ib (?q ?fc))) (bx (?fd (AM ?cJ) (?R 2 GK.nd) (bw (fH (?B jV ?dr (?Y T.E4)) (bw (dO (?aM ?a9 (?q ?fc)))) (bw (dO (?aM (?b ?a9 ?gB) (?q ?dr))))))) (bw (dM (vB (ip:=[("field",3)]) rO Z Z Z GK.nd (tI ?a9) (rq (aM:=["row","fields","byte","field"]) (sc:=eO LB) ?w) (λ_ _ _ _ _=>(?R 3 GK.nd)) (λ_ _ _ _ _=>sr) (λ_ _ _ _ _=>(?cu (?q ?gH)))))))):=by
 let(a,e,0,d,b,a7):=h;let b:=fU;show(by decide,λn m=>(?cY,λf b=>?_))
 let(t,l):=wB b;lk;show OJ (K:=g.K) (a:=a) (xs:=bT e) (λi o k=>?eo k/\bN λ(c:?aD) (a2:?gP)=>k f=Y (.lst (c.map V.ref))/\apA k c (iJ (e.take i))/\c.Nodup/\(∀b∈c,H b=U/\b≠f)/\o=[Y ?s,Y ?bL,a2,U]) ?_ (λi o k _ j=>cZ.of (j.1 _ _ d)) ?_ ?_
 .show(by simp_wf,[n],U,bD,?c2 ?aa,by simp,λb d=>by rw[lX.mp d];show(m,bI l),Z)
 .intro i b o k q ξ;let(X,c,a2,y,l,E,z,0):=ξ;rw[xQ]at q;rcases x:e[i]? with _|p
  .rw[x]at q;cases q
  rw[x]at q;cases q;let a4:i<R e:=(ig.mp x).1;let P:=NT (e.take i);rw[jR]at P;let a0:R c=(iJ (e.take i)).length:=l.length;lk;show hU (λw=>?_) (λw=>?_)
  .let n:p=32:=by
    injection w with w;show rW.mp (uZ w)
   lk;show(by decide,λm C=>?_)
   let B:f≠m:=fO y C;lk
   .rw[ft];lia
   show(Le.put ?bd t,c++[m],_,?_,?_,?_,?_,Z)
   .rw[bD,iD];rfl
   .rw[take_snoc x,n,aku];show vZ (HK l λb a1 t d=>bO (z b t).2 (gc C d)) (bO (bI B) bD)
   .show yy.mpr (E,by simp,λb d n u j=>?_)
    rw[lX.mp u]at j;subst j;have:k b≠U:=by
     let(a6,a3,u):=oA d;let(a1,_,a5):=pK l (show c[a6]?=Y b by rw[gv a3,u])
     rw[a5];show λn=>nomatch n
    show this C
   intro b d;rcases iE.mp d with u|u
   .show z b u
   rw[lX.mp u];show(X.no C,bI B)
  let a6:p≠32:=λn=>w (by rw[n];rfl)
  let w:=rY (e.take i);let p:c≠[]:=λn=>by
   rw[n]at a0;show w (rc.mp a0.symm)
  let(a5,m,0):=xM p;let p:=QB w;rw[<-p]at l;let(p,B):=VF l;let a3:=z m ?c
  let a8:=P.2 _ (List.getLast_mem w);lk;show pV (cJ.of y) (v:=?d6) (by rw[iD];show xA) ?_
  lk
  .rw[gZ];lia
  show(X.put a3.1,a5++[m],_,bO (bI a3.2) y,?_,E,z,Z);rw[take_snoc x,alV _ _ a6];let w:=yy.mp E;show vZ (HK p λb a1 t d=>bO (w.2.2 b t m ?c) d) ?_
  rw[bD];simp only[kF,iD];rfl
 intro o k ξ;let(X,c,a2,y,l,E,z,0):=ξ;rw[gZ,nP]at l;let a0:R c=(iJ e).length:=l.length;let P:=NT e;lk;intro aE w;show Fh (xs:=c.map V.ref) (H1:=k) (aE:=aE) (λi o=>Le k o/\∃t,o aE=Y (.lst (t.map V.ref))/\nz o t ((iJ e).take i)/\R t=i) ?_ (λi o _ j=>cJ.of (j.1 _ _ y)) (λi b o q j=>?_) λo j=>?_
 .show(Le.new w,[],bD,.nil,Z)
 .let(e,t,p,B,k):=j;let(m,m,0):=wt q;let(a1,q,C):=pK l m;let a4:i<R c:=(ig.mp m).1;show(rfl,?_);lk;intro u P;let c:aE≠u:=fO p P;show(_,gc P p,by rw[ft];lia,Le.put (e.trans (Le.new P)) w,t++[u],?_,?_,by simp[k])
  .rw[bD,iD];rfl
  rw[take_snoc q];show vZ (jb.lu B λb a1 d=>bO (gW d p (λn=>nomatch n)) (gc P d)) (bO (bI c) bD)
 let(e,t,p,B,k):=j;rw[ft,a0,nP]at B;show a7 aE o (X.trans e) (t,p,B)
inductive alu(p:V)(r:V)(a:L)(o:VK)(n:XK):Prop
 |i (dl c f m) (_:p=.ref dl) (_:a dl=Y (.dT c)) (_:c.length<=12) (_:r=?bL) (_:a f=Y (.tup (bT m))) (_:(c.length=12->XR g.f8 a (-9) [] n)) (_:(c.length<12->∀b d e h l q,(∀j k,j≠dl->a j=Y k->b j=Y k)->b dl=Y (.dT (b_ c (bk m) ?J))->a d=U->a e=U->a h=U->b d=Y (?A q (iX ?bL (.ref g.mG) ?bk ?dM ?aY))->b l=Y (.tup [])->b h=?j8->b e=?ke->o .cT b))
def am1:Sp:=kq (alu)
example:fP awp TR T.agN Uc 4 "add_language" ((am1)) ["languages","tag"] [] (bx (?cQ (?B jV (?cp HE T.7 (?q ?cJ)) (?Y T.afR)) (bw (lh Pk hr))) (bw (Fm (lc hr) ?cJ ?a9 (oM ak5 hr (?q ?a9)) Z))):=by
 let(c,e,a,y,0,d,a,0,X,a,k):=h;let b:=fU;lk;show(c,e,Z,.inl d,?_);lk;show ?bs
 .show iI (a ?d)
 let p:R e≠12:=λa=>b (by rw[a];rfl)
 lk;show aj2 λu q r t b n l m o b p i b v j b w b b b=>?_;let(x,m):=m;let P:=?cA d;let b:=?cA X;let z:u≠c:=λa=>by rw[a,d]at l;cases l
 let B:q≠c:=λa=>by rw[a,d]at o;cases o
 let C:r≠c:=λa=>by rw[a,d]at i;cases i
 let E:t≠c:=λa=>by rw[a,d]at j;cases j
 show(_,Z,_,Z,c,_,Z,tQ.t (k:=bk y) P b ?d,?_)
 show k ?d _ u t r q x (λa a a y=>bO a (?cA y)) bD l j i (bO z m) (bO B p) (bO C v) (bO E w)
inductive atF(m:V)(n:V)(a:L)(j:VK)(h:XK):Prop
 |i (d l dl k b e c) (_:m=?J) (_:a d=Y (?iJ l (qu (.ref dl) k))) (_:Rd a dl (.dT b)) (_:n=?aY) (_:a e=?a1) (_:(?fM b=U->?dp a h)) (_:∀f,eQ b (bk c)=Y f->j f a)
def auB:Sp:=kq (atF)
example:oj awb yB T.yB Sc 4 g.jG "language_by" ((auB)) ["self","tag"] [] (bx (?cQ (uK (EE (lc hr) ?a9 ?l)) (bw (lh aiL hr))) (bw (dM (?ak ?l ?a9)))):=by
 let(q,o,d,n,b,j,c,0,p,e,0,i,l,m):=h;lk;show(d,_,Z,.inr (b,bk c,j,e,Z,i,Z),?_);rcases a:?fM b with _|k
 .lk;show iI (l a)
 lk;show(d,k,Z,.inr (b,bk c,j,e,Z,i,a.symm),?_);show m k a
structure zK(c a:L)(i e:S)(d:List S)(b:List cq)(j:List S):Prop where
 le:Le c a
 Ga:bN λh f=>a i=Y (?iJ h (qu ?aY f))
 dict:Rd a e (.dT (hG d b))
 langs:jU c a d b j
 kept:Rm.Kept b
theorem zK.mono(h:zK a b f e d i j)(l:Le b c):zK a c f e d i j:=(h.le.trans l,let(m,k,n):=h.2;(m,k,?c5 n),Rd.mono h.dict l,h.langs.le l,h.kept)
def pA.last{l:?t}(h:pA l e b a):bN λf c=>b=f++[c]/\a=c.back:=by
 cases h with
 |one d=>show([],_,Z,Z)
 |more d i=>show(_,_,Z,Z)
inductive aph(p:V)(q:V)(a:L)(n:VK)(m:XK):Prop
 |i (f j dl h c o k d) (_:p=?dh) (_:zK f a j dl h c o) (_:q=?gM) (_:a k=?kc) (_:(gt c d=U->?dp a m)) (_:∀s,gt c d=Y s->∀l e b,Le a b->a l=U->b l=Y (.lst (e.map V.ref))->jb (mq f b) e (oE c d)->(∀r∈e,r∈h)->n (.ref l) b)
def arj:Sp:=kq (aph)
example:oj ahG Aq T.Aq VI 5 g.jG "way_of" ((arj)) ["self","tag"] ["way"] (bx (?n 2 ahG.nd (ib (?q (?U T.rJ yB hr (?q ?a9))))) (?jn (wk lZ (?B (Ft hr.units) (?cR (?b ?dr ?gB)) ?cH) (bw (dO (?aM ?dr (?q (?ak ?l (?cR (?b ?dr ?gB)))))))))):=by
 let(a0,a9,b3,x,p,h5,b0,q,0,e,0,e5,e8,f0):=h;let h0:=fU;let(d1,d0,b6):=e.2;lk;show(a9,d1,b3,d0,_,b0,q,Z,b6,e.dict,Z,e5,λt=>e8 ?_,λv t=>?_)
 .rcases e.langs.find q with⟨E,_⟩|⟨i,a,c,j,k,y,a1,n,u,_⟩
  .show E
  .rw[u]at t;cases t
 let(i,a,c,j,k,y,a1,n,u,P,_):mv λ(i:Nat) (a:S) (c:cq) (j k:S)=>x[i]?=Y a/\p[i]?=Y c/\gt p q=Y c/\eQ (hG x p) (bk q)=Y ?s/\kE a0 H a c j k/\True:=by
  rcases e.langs.find q with⟨_,E⟩|⟨i,a,c,j,k,y,a1,n,u,P,_⟩
  .rw[E]at t;cases t
  .show(i,a,c,j,k,y,a1,n,u,P,trivial)
 rw[u]at t;cases t;let a7:=e.kept.Ay n;let c1:(oE p q).length<=12:=fZ a7.len e.kept.gM;show(by change 1<=cw;decide,λl c0=>?_)
 lk;show(λc3 c6 C=>gG λm w a4=>?eo C/\C l=Y (.lst (m.map V.ref))/\jb (mq a0 H) m w/\(∀d∈m,d∈x)/\pA p q w a4/\c3=13-R w/\c6=[Y (.ref a9),Y (.ref b0),?kf],(_,[a],[c],c.back,by simp_wf,bD,?c2 (j,k,P),λd a8=>(by rw[lX.mp a8];show lW y),.one n,Z,Z),?_)
 intro c3 c6 b1 ξ;let(m,w,a4,o,a2,a3,b5,z,0,0):=ξ;let(a5,d,0,e3):=pA.last z;let c2:=a3.length;let f2:m≠[]:=λb=>by rw[b]at c2;simp at c2
 let(c5,b2,0):=xM f2;let(e4,h4,h8,e2):=VF a3;let(g3,h7,g5,h6,h3,g2,d6,g7,a6,_):=e2;let g6:=o _ _ d6;let(d5,0,d7):=(a6.mono (e.le.trans o)).sq;rw[iD]at a2;lk;show pV (cJ.of a2) xA ?_;lk;show JF (w:=[]) d7 (T.Cw b1) ?_;lk;subst e3;cases b4:d.back with
 |none=>
  rw[b4]at z;lk;let d4:=(z.split _ a7).1 Z;show f0 c n l (c5++[b2]) b1 o c0 (by rw[iD];show a2) ?_ ?_
  .rw[d4];show jb.lu a3 λ_ _ b=>b.le o
  .show b5
 |some B=>
  rw[b4]at z a6;let(r,d3,hr):=(z.split _ a7).2 B Z;let(g4,d2,e0,e7):=a6;cases d2;let e1:=(e.le.trans o) _ _ e0;let(x2,X):∃x2,gt p B=Y x2:=by
   cases hr with
   |last b _=>show(_,b)
   |more b _ _=>show(_,b)
  let(h2,c7,e9,f1,f3,f4,f5):mr λ(i:Nat) (a:S) (j k:S)=>x[i]?=Y a/\eQ (hG x p) (bk B)=Y ?s/\kE a0 H a x2 j k:=by
   rcases e.langs.find B with⟨E,_⟩|⟨i,a,c,j,k,y,a1,n,u,P,_⟩
   .rw[E]at X;cases X
   .rw[n]at X;cases X;show(i,a,j,k,y,u,P)
  let g9:R a5+1<12+1:=by
   rw[d3]at c1;have:=BD.mpr hr.ne;simp at c1
   lia
  let h1:=e4.length;rw[show(decide ((Y B:Option aP).getD []=[]))=I from gu e7];show ?fU;show(λg1 C=>∃c4,c4<13-(a5++[d]).length/\gG λm w a4=>?eo C/\C l=Y (.lst (m.map V.ref))/\jb (mq a0 H) m w/\(∀d∈m,d∈x)/\pA p q w a4/\c4=13-R w/\g1=[Y (.ref a9),Y (.ref b0),?kf],λ_ _ b=>b,?_);let g8:=o _ _ b6;lk;show pV (cJ.of a2) xA ?_;lk;show(b3,_,Z,.inr (_,bk B,d5,Rd.mono e.dict o,Z,e1,f4.symm),?_);lk
  .simp;lia
  show(13-((a5++[d])++[x2]).length,?_,(c5++[b2])++[c7],(a5++[d])++[x2],x2.back,o.put c0,?_,vZ a3 (e9,f1,f5),?_,.more z X,Z,Z)
  .simp;lia
  .rw[bD];simp
  .intro d a8;rcases iE.mp a8 with b|b
   .show b5 d b
   .rw[lX.mp b];show lW f3
def OV(h:jb (mq k l) j m):∃d:List S,R d=R j/\nz k d (m.map qD)/\∀(a:Nat) b c,j[a]?=Y b->d[a]?=Y c->mv λe u v w x=>l b=Y (?A e (iX ?aC u v w x)):=by
 induction h with
 |nil=>show([],Z,.nil,λa b c h=>by simp at h)
 |cons s C ih=>
  let(d,p,q,r):=ih;let(B,H,e,t,z,E,A,y,n,o,_):=s;show(t::d,by simp[p],.cons o q,λa b c f i=>?_)
  rcases a with _|a
  .simp at f i;subst f i;show(e,_,_,_,_,n)
  show r a b c ?jd ?i9
theorem nz.q(h:nz a b c):JD d a b c:=jb.lu h λ_ _ e=>cZ.of e
inductive aiY(q:V)(r:V)(o:V)(b:L)(m:VK)(e:XK):Prop
 |i (l j dl n c p k d h a) (_:q=?dh) (_:zK l b j dl n c p) (_:r=?gM) (_:b k=?kc) (_:o=?dM) (_:b h=?bo) (_:(a≠[]->gt c a=U->?dp b e)) (_:(a≠[]->(gt c a).isSome=M->((oE c a).map qD).contains d=M->XR g.uu b (-5) [] e)) (_:((a=[]\/((gt c a).isSome=M/\((oE c a).map qD).contains d=I))->∀f,Le b f->m .cT f))
def aki:Sp:=yl (aiY)
example:oj QZ KS T.KS KW 6 g.jG "check_fallback" ((aki)) ["self","tag","fallback"] ["language"] (bw (?cQ (PW.pt (sC (?B (Ft hr.units) ?dr ?cH) (ss (fF (asr hr.units) ?a9 (vB (ip:=[("language",3)]) rO Z Z Z QZ.nd (tI (?U T.rJ Aq hr (?q ?dr))) (rq (aM:=["self","tag","fallback","language"]) (sc:=eO KW) ?w) (λ_ _ _ _ _=>(?R 3 QZ.nd)) (λ_ _ _ _ _=>sr) (λ_ _ _ _ _=>(OP (K:=g.K) Z ?gH Z))) Z)))) (bw (lh aiK hr)))):=by
 let(y,d,E,C,u,j,a1,x,c,k,0,b,0,n,0,q,e,a0,t):=h;let a:=fU;let(a,a,a):=b.2;lk;show JF (w:=[]) (cZ.of q) (T.Cw H) ?_;lk;rcases a:decide (k=[])with _|_
 .let a:=nN a;lk;show(y,d,E,C,u,j,c,k,Z,b,Z,q,λj=>e a j,λE c l B z d d d r _=>?_);let(e,q,y,C):=OV r;let m:=b.kept.Ay c;let p:=fZ m.len b.kept.gM;let m:=r.length;lk;intro m p;show IP (xs:=B.map V.ref) (ys:=e.map V.ref) (cJ.of d) p (by simp[q]) ?b7 (λi E d c q d d=>(rfl,?_)) ?_
  .let(B,P,0):=wt c;let(r,X,0):=wt q;let(q,v2,v3,v4,v5,j):=C i B r P X;let q:=gc (o:=.lst ((e.map V.ref).take i)) p j;lk;show d
  let d:?eo (D z m (.lst (e.map V.ref))):=by simp_wf
  show(a1,x,m,e,_,Z,cZ.of (d _ _ n),Z,?fV,(y.mono (b.le.trans d)).q,?_);lk;rcases n:((oE u k).map qD).contains x with _|_
  .lk;show t (.inr (by rw[c];rfl,n)) _ d
  lk;show iI ((a0 a (by rw[c];rfl) n).mono d)
 lk;show t (.inl (lN a)) H .refl
structure iG(d a:L)(b f e:S)(k i:List S)(c:nW):Prop where
 le:Le d a
 hk:∃m,a b=Y (?iJ m (qu ?bL ?aY))
 hd:a f=Y (.dT (hG k c.langs))
 la:jU d a k c.langs i
 un:∀j∈i,∀n o,a j≠Y (.eI n o)
 ke:Rm.Kept c.langs
 ar:∃h,a e=Y (.dK h)/\CY d h c.args/\(h.map fw).Nodup/\∀b∈h.map fw,∃l:Nat,l<16/\b=gJ (l:Int)
 al:c.args.length=16
 nd:(b::f::e::i).Nodup
 no:∀j∈b::f::e::i,d j=U
structure tS(e c:L)(d:List S)(f h:L)(i:List S):Prop where
 fr:∀a b,a∉d->c a=Y b->h a=Y b
 gr:∀a b,f a=Y b->e a=Y b\/c a=U\/∃j,b=.tup j
 mo:∀a∈i,a∈d\/c a=U
def b9(b c d:L)(e:?aD):L:=ot e λa=>(b a).or (d9 c d a)
section
variable{B H H':L}{bZ M':List S}
def AF(l:Le B H'):Le (?fy M') H':=λb d a=>by
 let a:=AG b d a;rcases c:B b with _|e
 .rw[c]at a;show wj b d a
 rw[c]at a;cases a;show l b _ c
def xK(c:∀b∈M',B b=U):Le B (?fy M'):=λb e a=>tH (by rw[a];rfl) λd=>by rw[c b d]at a;cases a
def xJ(l:Le B H')(h:H' a=Y b)(d:a∉M')(c:H a=U\/∃f,b=.tup f):?fy M' a=Y b:=tH (by
 cases e:B a with
 |none=>show qH h c
 |some i=>have:=l a i e;rw[h]at this;show this.symm) d
def AE(h:a∈M'):?fy M' a=U:=Fk h
theorem CD:∀a c,?fy M' a=Y c->B a=Y c\/H a=U\/∃e,c=.tup e:=λa c b=>by
 let b:=AG a c b;rcases d:B a with _|f
 .rw[d]at b;show .inr (xn a c b)
 rw[d]at b;cases b;show ?aG
end
section
variable{B B' H H':L}
def jU.upd:∀{z:?aD} {a:?t} {m:?aD} {l:Nat} {k:S} {x:cq},jU B H z a m->z[l]?=Y k->a[l]?=Y x->m.Nodup->bN λe f=>kE B H k x e f/\k∈m/\e∈m/\f∈m/\k≠e/\k≠f/\e≠f/\∀{B' H':L} {y:cq} {gX:S},?eR->(∀b∈m,b≠k->b≠e->b≠f->∀i,H b=Y i->H' b=Y i)->kE B' H' k y e gX->(gX=f\/gX∉m)->∃n,jU B' H' z (a.set l y) n/\n.Nodup/\(∀b∈n,(b∈m/\(b=f->gX=f))\/b=gX):=by
 intro a
 induction a with
 |nil=>
  intro _ _ l k x h q w a;simp at q
 |cons u z ih=>
  intro _ _ l k x h q w a;let(a7,a0,e,f,n,0,0,a1,A):=h;simp only[iu,bM,iw]at a;let((E,P,r),(T,s),t,p):=a;rcases l with _|l
  .simp at q w;subst q w;show(e,f,a1,by simp,by simp,by simp,E,P,T,λ{B' H' y gX} C v m j=>(u::e::gX::n,(y,a0,e,gX,n,Z,Z,m,A.mono C λb d i c=>v b ?fn (λa=>r (a▸d)) (λa=>s (a▸d)) (λa=>t (a▸d)) i c),?_,?_))
   .rcases j with rfl|j
    .simp only[iu,bM,iw];show((E,P,r),(T,s),t,p)
    simp only[bM,iw]at j;simp only[iu,bM,iw];show((E,bI j.1,r),(bI j.2.1,s),j.2.2.2,p)
   intro b d;simp only[bM]at d ⊢;rcases d with a|a|a|a
   .show .inl (?ai,λc=>by rw[a]at c;show bK c P)
   .show .inl (?ab,λc=>by rw[a]at c;show bK c T)
   .show ?gO
   show .inl (?aT,λc=>by rw[c]at a;show bK a t)
  let q:z[l]?=Y k:=by simpa using q
  let w:a0[l]?=Y x:=by simpa using w
  let(z,gX,a2,X,k,o,a3,a4,a5,a6):=ih A q w p;show(z,gX,a2,by simp[X],by simp[k],by simp[o],a3,a4,a5,λ{B' H' y p} C v m j=>?_)
  let z:p=gX\/p∉n:=j.imp id λa b=>a ?iY
  let(q,a3,a4,w):=a6 C (λb d p A a2 i c=>v b ?fn p A a2 i c) m z
  let A:∀b,b=u\/b=e\/b=f->b∉n:=by
   rintro b (rfl|rfl|rfl)
   .show r
   .show s
   show t
  let m:∀b,b=u\/b=e\/b=f->b∉q:=by
   intro b d a;rcases w b a with⟨p,_⟩|p
   .show A b d p
   rcases j with rfl|j
   .show A b d (p▸o)
   show j (by rw[<-p];simp only[bM];show d.imp_right λp=>p.imp_right .inl)
  show(u::e::f::q,(a7,a0.set l y,e,f,q,by simp,Z,?_,a3),?_,?_)
  .show a1.mono C (λi c=>v u ?c (λa=>r (a▸X)) (λa=>r (a▸k)) (λa=>r (a▸o)) i c) (λj c=>?_) (λi c=>v f ?c (λa=>t (a▸X)) (λa=>t (a▸k)) (λa=>t (a▸o)) i c)
   let j:=v e ?c (λa=>s (a▸X)) (λa=>s (a▸k)) (λa=>s (a▸o))
   rcases c with c|⟨i,c⟩
   .show .inl (j _ c)
   show .inr (i,j _ c)
  .simp only[iu,bM,iw];show((E,P,m u ?aG),(T,m e (.inr ?aG)),m f (.inr (.inr Z)),a4)
  intro b d;simp only[bM]at d ⊢;rcases d with a|a|a|a
  .show .inl (?ai,λc=>bK (c▸o) (A b ?ai))
  .show .inl (?ab,λc=>bK (c▸o) (A b ?ab))
  .show .inl (?jZ,λc=>bK (c▸o) (A b (.inr ?gO)))
  rcases w b a with⟨a,b⟩|p
  .show .inl (?aT,b)
  show .inr p
def jU.snoc:∀{d:?aD} {f:?t} {i:?aD} {a b c:S} {x:cq},jU B H d f i->kE B H a x b c->jU B H (d++[a]) (f++[x]) (i++[a,b,c]):=by
 intro m
 induction m with
 |nil=>
  intro _ _ a b c x h e;let(0,0):=h;show(x,[],b,c,[],Z,Z,e,Z,Z)
 |cons r d ih=>
  intro _ _ a b c x h e;let(q,l,n,p,o,0,0,j,k):=h;show(q,l++[x],n,p,o++[a,b,c],Z,Z,j,ih k e)
theorem jU.has:∀{e:?aD} {n:?t} {f:?aD},jU B H e n f->∀d∈f,H d≠U:=by
 intro o
 induction o with
 |nil=>
  intro _ _ h d c;rw[h.2]at c;cases c
 |cons p e ih=>
  intro _ _ h d c;let(a,E,P,a,T,0,0,l,m):=h;let(r,a,s,a,C,q,i,u,v,w,x,k,y,z,A,j,t):=l;simp only[bM]at c;rcases c with b|b|b|b
  .rw[b,i];show λa=>nomatch a
  .rw[b];rcases j with a|⟨X,a⟩<;>rw[a]<;>show λa=>nomatch a
  .rw[b,k];show λa=>nomatch a
  show(ih m) d b
theorem NA:∀{as:?aD} {ls:?t} {i:Nat} {x x':cq},ls[i]?=Y x->x'.tag=x.tag->hG as (ls.set i x')=hG as ls
 |[],_,_,_,_,_,_=>rfl
 |_::_,[],_,_,_,h,_=>by simp at h
 |b::as,c::ls,0,x,x',h,a=>by
  simp at h;subst h;unfold hG;simp[a]
 |b::as,c::ls,i+1,x,x',h,a=>by
  have:=NA (as:=as) (ls:=ls) (i:=i) (x':=x') ?dy a
  unfold hG at*;rw[aeI,DD,DD,this]
theorem Nj:∀{as:?aD} {ls:?t} {a:S} {x:cq},R as=R ls->hG (as++[a]) (ls++[x])=hG as ls++[(bk x.tag,?s)]
 |[],[],a,x,_=>rfl
 |b::as,c::ls,a,x,h=>by
  have:=Nj (as:=as) (ls:=ls) (a:=a) (x:=x) ?dy
  unfold hG at*;rw[Sn,Sn,DD,DD,this];rfl
def x_{c:Type}[DecidableEq c]{b:List (c×V)}{a:c}{d:V}(h:eQ b a=U):b_ b a d=b++[(a,d)]:=by unfold b_;rw[bp];intro j;let(i,f,e):=vT.mp j;unfold eQ at h;rw[KL,Ag]at h;show h i f e
def Cg{a:?t}(d:(a.map qD).Nodup){f:cq->cq}:∀{b:Nat} {x:cq},a[b]?=Y x->x.tag=i->we a i f=a.set b (f x):=by
 induction a with
 |nil=>simp
 |cons l a ih=>
  intro b x h c;rw[iF,iu]at d;unfold we;rcases b with _|b
  .simp at h;subst h;rw[iF,bz c,List.set_cons_zero];congr 1;show(yr λk j=>?_).trans (Wj a);rw[bp (λe=>d.1 (by rw[c,<-e];show eM.mpr (k,j,Z)))]
   rfl
  let h:a[b]?=Y x:=by grind
  rw[iF,aeI,bp (λe=>d.1 (by rw[e,<-c];show eM.mpr (x,lW h,Z)))]
  congr 1;show ih d.2 h c
end
section
variable{B H:L}{k dl da:S}{as mu:List S}{s:nW}
theorem iG.r(h:?bZ H):zK B H k dl as s.langs mu:=(h.le,let(a,b):=h.hk;(a,_,b),.inl h.hd,h.la,h.ke)
def iG.mono(h:?bZ H)(l:?eo d):?bZ d where
 le:=h.le.trans l
 hk:=let(f,a):=h.hk;(f,?c5 a)
 hd:=?c5 h.hd
 la:=h.la.le l
 un:=λc e j m a=>by
  cases b:H c with
  |none=>show h.la.has c e b
  |some n=>have:=?c5 b;rw[this]at a;rw[a]at b;show h.un c e j m b
 ke:=h.ke
 ar:=let(i,a,b):=h.ar;(i,?c5 a,b)
 al:=h.al
 nd:=h.nd
 no:=h.no
theorem iG.has(h:?bZ H):∀c∈k::dl::da::mu,H c≠U:=by
 intro c d;let(i,e):=h.hk;let(j,f,_):=h.ar;simp only[bM]at d;rcases d with a|a|a|a
 .rw[a,e];lia
 .rw[a,h.hd];show λb=>nomatch b
 .rw[a,f];show λb=>nomatch b
 show h.la.has c a
theorem iG.new(h:?bZ H)(b:H a=U):a∉k::dl::da::mu:=λc=>h.has a c b
def iG.aup(h:?bZ H):mu.Nodup:=by have:=h.nd;simp only[iu]at this;show this.2.2.2
def jU.uO:∀{as:?aD} {n:?t} {mu:?aD},jU B H as n mu->∀d∈mu,∀e,H d≠Y (.tup e):=by
 intro o
 induction o with
 |nil=>
  intro _ _ h d c;rw[h.2]at c;cases c
 |cons p as ih=>
  intro _ _ h d c;let(a,P,T,a,X,0,0,l,m):=h;let(r,a,t,a,E,q,f,v,w,x,y,j,z,A,C,i,u):=l;simp only[bM]at c;intro e;rcases c with b|b|b|b
  .rw[b,f];show λa=>nomatch a
  .rw[b];rcases i with a|⟨c,a⟩<;>rw[a]<;>show λa=>nomatch a
  .rw[b,j];show λa=>nomatch a
  show(ih m) d b e
theorem iG.uO(h:?bZ H)(a:H c=Y (.tup e)):c∉k::dl::da::mu:=by
 intro d;let(j,f):=h.hk;let(l,i,_):=h.ar;simp only[bM]at d;rcases d with b|b|b|b
 .simp_all
 .rw[b,h.hd]at a;cases a
 .simp_all
 show h.la.uO c b e a
theorem iG.set(h:?bZ H){q:Nat}(b:as[q]?=Y j)(X:s.langs[q]?=Y C):bN λi l=>kE B H j C i l/\j∈mu/\i∈mu/\l∈mu/\j≠i/\j≠l/\i≠l/\∀{H':L} {p:cq} {gX:S},(∀a e,a≠j->a≠i->a≠l->H a=Y e->H' a=Y e)->(gX=l\/H gX=U)->kE (?fy (gX::k::dl::da::mu)) H' j p i gX->p.tag=C.tag->Rm.Kept (s.langs.set q p)->(∀a,(a=j\/a=i\/a=gX)->∀e v,H' a≠Y (.eI e v))->bN λE o=>iG E H' k dl da as o {s with langs:=s.langs.set q p}/\tS B H (k::dl::da::mu) E H' (k::dl::da::o):=by
 let(i,l,c,y,z,t,d,f,m,w):=h.la.upd b X h.aup;show(i,l,c,y,z,t,d,f,m,λ{H' p gX} r T m a0 a1 a9=>?_);let b:=h.nd;simp only[iu,bM,iw]at b;let((a3,a4,n),(a5,x),C,c):=b;let out:∀a,a∉mu->∀e,H a=Y e->H' a=Y e:=λa d e f=>r a e (λb=>d (b▸y)) (λb=>d (b▸z)) (λb=>d (b▸t)) f;let E:Le B H':=λa e f=>r a e (λb=>by rw[b,h.no j (by simp[y])]at f;cases f) (λb=>by rw[b,h.no i (by simp[z])]at f;cases f) (λb=>by rw[b,h.no l (by simp[t])]at f;cases f) (h.le _ _ f)
 let A:gX∈mu\/H gX=U:=T.imp (λb=>by rw[b];show t) id
 let t:∀a∈gX::k::dl::da::mu,B a=U:=by
  intro a d;rcases bM.mp d with b|b
  .rcases A with c|c
   .show h.no a (by rw[b];simp[c])
   rw[b];show h.le.no c
  show h.no a b
 let l:Le B (?fy (gX::k::dl::da::mu)):=xK t;let(o,a6,a7,u):=w l (λa d t w y e f=>r a e t w y f) m (T.imp id λc b=>h.la.has gX b c);let a8:∀a∈o,a∈gX::k::dl::da::mu:=by grind
 let w:∀a,a=k\/a=dl\/a=da->a∉o:=by
  intro a d b;let P:a∉mu:=by grind
  let t:H a≠U:=h.has a (by simp only[bM];show d.imp_right λc=>c.imp_right .inl)
  rcases u a b with⟨c,_⟩|c
  .show P c
  rcases A with m|m
  .lia
  show t (c▸m)
 let(t,T):=h.hk;let(a2,y,z,P):=h.ar;show(?fy (gX::k::dl::da::mu),o,(AF E,(t,out k n _ T),?_,a6,?_,a1,(a2,out da C _ y,z.mono l,P),h.al,?_,?_),(?_,CD,?_))
 .change H' dl=Y (.dT (hG as (s.langs.set q p)));rw[NA X a0];show out dl x _ h.hd
 .intro a d e v f;by_cases n:a=j\/a=i\/a=gX
  .show a9 a n e v f
  simp only[iw]at n;rcases u a d with⟨c,i⟩|c
  .rcases x:H a with _|m
   .show h.la.has a c x
   have:=r a m n.1 n.2.1 (λb=>n.2.2 (b.trans (i b).symm)) x;rw[f]at this;cases this;show h.un a c e v x
  show n.2.2 c
 .simp only[iu,bM,iw];show((a3,a4,w k ?aG),(a5,w dl (.inr ?aG)),w da (.inr (.inr Z)),a7)
 .intro a d;show AE ?_;simp only[bM]at d;rcases d with b|b|b|b
  .simp[b]
  .simp[b]
  .simp[b]
  show a8 a b
 .intro a e d f;show out a (λb=>d ?iY) e f
 intro a d;simp only[bM]at d;rcases d with b|b|b|b
 .show .inl ?iY
 .show .inl ?iY
 .show .inl ?iY
 rcases u a b with⟨c,_⟩|c
 .show .inl ?fq
 rcases A with m|m
 .show .inl (by rw[c];simp[m])
 show .inr (by rw[c];show m)
def iG.add(h:?bZ H){H':L}(r:H d=U)(t:H f=U)(u:H i=U)(x:d≠f)(a0:d≠i)(a1:f≠i)(j:∀a c,a≠dl->H a=Y c->H' a=Y c)(a2:H' dl=Y (.dT (hG (as++[d]) (s.langs++[q]))))(a4:kE (?fy (d::f::i::k::dl::da::mu)) H' d q f i)(a3:Rm.Kept (s.langs++[q]))(b0:∀a,(a=d\/a=f\/a=i)->∀c p,H' a≠Y (.eI c p)):bN λw C=>iG w H' k dl da (as++[d]) C {s with langs:=s.langs++[q]}/\tS B H (k::dl::da::mu) w H' (k::dl::da::C):=by
 let X:=h.nd;simp only[iu,bM,iw]at X;let((E,a6,a7),(P,T),a8,a9):=X;let l:=h.new r;let m:=h.new t;let n:=h.new u;simp only[bM,iw]at l m n;let o:Le B H':=λa c e=>j a c (λz=>by rw[z,?dU dl]at e;cases e) (h.le _ _ e)
 let q:∀a∈d::f::i::k::dl::da::mu,B a=U:=by
  intro a b;simp only[bM]at b;rcases b with z|z|z|z
  .rw[z];show h.le.no r
  .rw[z];show h.le.no t
  .rw[z];show h.le.no u
  show h.no a (by simp only[bM];show z)
 let A:Le B (?fy (d::f::i::k::dl::da::mu)):=xK q;let(q,X):=h.hk;let(a5,v,w,C):=h.ar;let y:∀a∈mu,∀c,H a=Y c->H' a=Y c:=λa b c e=>j a c (λz=>T (z▸b)) e;show(?fy (d::f::i::k::dl::da::mu),mu++[d,f,i],(AF o,(q,j k _ E X),a2,(h.la.mono A y).snoc a4,?_,a3,(a5,j da _ (bI P) v,w.mono A,C),h.al,?_,?_),(?_,CD,?_))
 .intro a b c p e;rcases iE.mp b with z|z
  .rcases v:H a with _|d
   .show h.la.has a z v
   have:=y a z d v;rw[e]at this;cases this;show h.un a z c p v
  simp only[bM,kK,or_false]at z;show b0 a z c p e
 .simp only[iu,bM,iE,iw,kK,not_false_eq_true,kY];show((E,a6,a7,bI l.1,bI m.1,bI n.1),(P,T,bI l.2.1,bI m.2.1,bI n.2.1),(a8,bI l.2.2.1,bI m.2.2.1,bI n.2.2.1),yy.mpr (a9,?_,?_))
  .simp_all
  intro a b z x e;subst e;simp only[bM,kK,or_false]at x;rcases x with o|o|o
  .show l.2.2.2 (o▸b)
  .show m.2.2.2 (o▸b)
  show n.2.2.2 (o▸b)
 .intro a b;show AE ?_;simp only[bM,iE,kK,or_false]at b ⊢;rcases b with z|z|z|z|z|z|z
  .show .inr ?iE
  .show .inr (.inr ?iE)
  .show .inr (.inr (.inr ?iE))
  .show .inr (.inr (.inr (.inr (.inr (.inr z)))))
  .show .inl z
  .show .inr (.inl z)
  show ?iE
 .intro a c b e;show j a c (λz=>b (by simp[z])) e
 intro a b;simp only[bM,iE,kK,or_false]at b ⊢;rcases b with z|z|z|z|z|z|z
 .show .inl (.inl z)
 .show .inl (.inr (.inl z))
 .show .inl ?iE
 .show .inl (.inr (.inr (.inr z)))
 .show .inr (by rw[z];show r)
 .show .inr (by rw[z];show t)
 show .inr (by rw[z];show u)
end
def anq[DecidableEq a]{c:List (a×V)}(h:b∉c.map fw):eQ c b=U:=by unfold eQ;rw[KL,Ag];intro e d f;show h (eM.mpr (e,d,lN f))
def anr{b:Type}[DecidableEq b]{e:List (b×V)}{a:b}{f:V}(h:eQ e a=Y f):a∈e.map fw:=by
 unfold eQ at h;rcases c:e.find? λd=>decide (d.1=a)with _|p
 .rw[c]at h;cases h
 show eM.mpr (p,Bv c,lN (BK (p:=λd:b×V=>decide (d.1=a)) c))
theorem lQ.find{f:L}{e:?j4}{c:List jz}(h:lQ f e c)(b:aP):match c.find? ?id with
 |none=>eQ e (bk b)=U
 |some a=>a∈c/\a.key=b/\∃d,eQ e (bk b)=Y ?J/\rH f d a.text a.msg:=by
 rcases k:c.find? ?id with _|a
 .show anq λp=>?_;let(a,o,l):=h.only _ p;show Nl.mp k a o (uI l).symm
 let(i,j):=akR k;let(d,m,n):=h.has a i;show(i,j,d,by rw[<-j];show m,n)
inductive ao1(t:V)(s:V)(a:L)(e:VK)(u:XK):Prop
 |i (c l o n m j) (_:t=?bk) (_:cJ g.K a l (o.map V.ref)) (_:jb (mq c a) o n) (_:Le c a) (_:s=?d6) (_:a m=Y (.tup (bT j))) (_:(match uD j 0 n with|none=>∀b,?gR->e .cT b|some (r,(p,d))=>∀b h f k q,?gR->b h=Y (.ins g.Found q (Ji (.int (r:Nat)) ?bL ?gM))->mq c a f p->rH c k d.text d.msg->d∈p.entries->e ?dM b))
def aqU:Sp:=kq (ao1)
theorem ait{e:aP}:∀{b:?t} {a:Nat} {x:cq} {c:Nat},b[a]?=Y x->uD e c ?bR=match x.entry e with|some d=>Y (c,(x,d))|none=>uD e (c+1) (b.drop ?aN):=by
 intro b a x c h;let d:?bR=x::b.drop ?aN:=by
  let(f,i):=ig.mp h;rw[<-i];show Gj f
 rw[d];rfl
example:fP TD TU T.agR Uf 3 "first_on_way" ((aqU)) ["way","key"] ["steps","language"] (bx (?fd (F9 Z T.4 (?q ?cJ)) (Jy (n:=2) Z (yV (?R 2 TD.nd) (yV (?R 3 TD.nd) IV))) (bw (?cQ (uK (Ju (lc hr) ?a9 (?cR ?gH))) (bw (dM (oM aqc hr (F ?dr (F ?gH (?q (?ak (?cR ?gH) ?a9)))))))))) (bw (dM Jx))):=by
 let(b,l,b,C,v,c,0,d,z,e,0,u,o):=h;lk;show ZP (K:=g.K) (a:=l) (xs:=?fl) (λi p e=>?eo e/\uD c 0 C=uD c i (C.drop i)/\bN λk E=>p=[?kf,Y (.ref v),k,E]) (.refl,Z,U,U,Z) (λi p e _ b=>cJ.mono d b.1) ?_ ?_
 .intro i E w p e q m ξ;let(t,d,x1,x2,0):=ξ;let(a,j,0):=wt q;let(k,q,y):=pK z j;let C:=y;let(B,j,j,j,j,j,x,j,E,j,j,j,j,j,j,j,j,P,X):=y;rw[ait q]at d;let j:?eo (D e w (.tup [V.int (i:Nat),?fw])):=t.f7 m;let r:=j _ _ u;let m:=j _ _ E;let u:=Rd.mono P j;show(_,_,Z,cZ.of bD,Z,_,_,Z,_,_,Z,Z,?_);generalize D e w (.tup [V.int (i:Nat),?fw])=q at j r m u;let m:=X.find c;lk;show(B,_,Z,.inr (_,bk c,v,u,Z,r,Z),?_);rcases b:k.entry c with _|q
  .rw[b]at d;rw[show k.entries.find? (λ(b:jz)=>b.key==c)=U from b]at m;rw[show ?fM x=U from m];lk;show(j,d,_,_,Z)
  rw[b]at d;rw[show k.entries.find? (λ(b:jz)=>b.key==c)=Y q from b]at m;let(b,k,w,x,k):=m;rw[x];rw[d]at o;lk;show(B,_,Z,.inr (_,bk c,v,u,Z,r,x.symm),?_);lk;show aop λf P c m q=>?_;let(X,q):=q;show o P f a w X (j.trans c) q C k b
 intro p e ξ;let(t,d,x1,x2,0):=ξ;rw[ft,z.length,GN]at d;rw[d]at o;lk;show o e t
section
variable{B B':L}{az:List (List Key×V)}{es:List jz}
def lQ.keys(h:lQ B az es)(d:?dg):d∈?e7<->d∈es.map λa=>bk a.key:=by
 constructor
 .intro e;let(a,c,b):=h.only d e;show eM.mpr (a,c,b.symm)
 intro e;let(a,c,b):=eM.mp e;let(i,f,_):=h.has a c;rw[<-b];show anr f
def aou(h:qi es):(es.map λa=>bk a.key).Nodup:=by
 have:=pO.nodup h;rw[show(es.map λa=>bk a.key)=(es.map Yp).map bk by rw[mN];rfl]
 show(List.X5 this)
where
 List.X5 {l:?bl} (h:l.Nodup):(l.map bk).Nodup:=by
  induction l with
  |nil=>simp
  |cons d l ih=>
   rw[iu]at h;rw[iF,iu];show(λc=>?_,ih h.2);let(e,b,a):=eM.mp c;show h.1 (uI a▸b)
theorem lQ.len(h:lQ B az es):R az=R es:=by
 let c:=?fF ?dg _ _ h.nd λb a=>(h.keys b).mp a;let d:=?fF ?dg _ _ (aou h.4) λb a=>(h.keys b).mpr a;rw[ft,ft]at c d
 lia
theorem Ol:(b_ az a c).map fw=if(az.any λb=>decide (b.1=a))=M then ?e7 else ?e7++[a]:=by
 unfold b_;split
 .rw[mN];show yr λd _=>?_;simp only[ahf];split<;>rfl
 simp
def x9:b∈(b_ az d i).map fw<->b=d\/b∈?e7:=by
 rw[Ol];split
 .rename_i h;let(f,e,a):=vT.mp h;let a:=lN a;constructor
  .grind
  rintro(c|c)
  .rw[c,<-a];show eM.mpr (f,e,Z)
  lia
 rw[iE,lX];show or_comm
def G1(h:(?e7).Nodup):((b_ az e j).map fw).Nodup:=by
 rw[Ol];split
 .lia
 rename_i i;show yy.mpr (h,by simp,λk b l c a=>?_)
 rw[lX.mp c]at a;subst a;let(f,d,a):=eM.mp b;show i (vT.mpr (f,d,im a))
theorem Ir:eQ (b_ az d k) e=if e=d then Y k else eQ az e:=by
 unfold eQ b_;split
 .rename_i h
  induction az with
  |nil=>simp at h
  |cons j az ih=>
   rw[iF];by_cases a:j.1=d
   .rw[bz a];by_cases f:e=d
    .rw[bz f,wP (by simp[a,f])]
     rfl
    rw[bp f,?dC,?dC]
    by_cases m:(az.any λb=>decide (b.1=d))=M
    .have:=ih m;rw[bp f]at this;lia
    let n:az.map (λb=>if b.1=d then(axa (b.1) k)else b)=az:=by
     show(yr λc p=>?_).trans (Wj az);rw[bp (λl=>m (vT.mpr ⟨c,p,im l⟩))];rfl
    rw[n]
   rw[bp a];rw[rX,gu a,BR]at h;by_cases i:j.1=e
   .simp_all
   rw[uf ?fo,uf ?fo]
   lia
 rename_i h;rw[GM];by_cases a:e=d
 .subst a;rw[?eZ,show(az.find? λb=>decide (b.1=e))=U from Ag.mpr λj o l=>h (vT.mpr ⟨j,o,l⟩)];simp
 rw[bp a];have:([(axa d k)].find? λb=>decide (b.1=e))=U:=by simp;show λc=>a c.symm
 rw[this,agJ]
theorem YL:(qo az a).map fw=(?e7).filter λb=>decide (b≠a):=by rw[af2];rfl
def amd(h:b≠d):eQ (qo az d) b=eQ az b:=by
 unfold eQ qo;congr 1
 induction az with
 |nil=>rfl
 |cons e az ih=>
  by_cases c:e.1=d
  .grind
  rw[List.filter_cons_of_pos ?fq]
  by_cases a:e.1=b
  .grind
  rw[uf ?aH,uf ?aH,ih]
theorem VG(a:jz):∀l:List jz,(BY a l).length<=R l+1
 |[]=>?a2
 |b::l=>by
  have:=VG a l;unfold BY;split
  .simp
  split
  .simp
  simp;lia
def UD{e:jz}:∀{l:List jz},qi l->(∃a∈l,a.key=e.key)->(BY e l).length=R l:=by
 intro m
 induction m with
 |nil=>
  intro _ ξ;let(a,h,_):=ξ;cases h
 |cons n l ih=>
  intro b ξ;let(a,k,c):=ξ;let j:qi l:=by
   unfold qi pO at*;rw[iF,vQ]at b;show b.2
  unfold BY;split
  .simp
  rename_i f;rcases bM.mp k with d|d
  .rw[d]at c;show bK c.symm f
  split
  .rename_i i;unfold qi pO at b;rw[iF,vQ]at b;have:=b.1 a.key (eM.mpr (a,d,Z));rw[c]at this;rw[Vl i]at this;cases this
  rw[lO,lO,ih j (a,d,c)]
def lQ.put(h:lQ B az es)(l:?eR){e:jz}(p:rH B' f e.text e.msg)(q:R e.text<=1024/\fk e.msg<=1025/\R e.key<=24/\e.key≠[])(n:(∃a∈es,a.key=e.key)\/R es<48):lQ B' (b_ az (bk e.key) ?bL) (BY e es)where
 nd:=G1 h.nd
 has:=λa d=>by
  rcases(Ar e h.4 a).mp d with b|⟨j,m⟩
  .show(f,by rw[Ir,bz (by rw[b])],by rw[b];show p)
  .let(s,i,c):=h.has a j;show(s,by rw[Ir,bp (λt=>m (uI t))];show i,c.mono l)
 only:=λr o=>by
  rcases x9.mp o with b|b
  .show(e,(Ar e h.4 e).mpr ?aG,b)
  .let(a,i,c):=h.only r b;by_cases k:a.key=e.key
   .show(e,(Ar e h.4 e).mpr ?aG,by rw[c,k])
   .show(a,(Ar e h.4 a).mpr (.inr (i,k)),c)
 kr:=Tn e h.4
 gM:=by
  rcases n with b|b
  .rw[UD h.4 b];show h.gM
  .have:=VG e es;lia
 sz:=λa d=>by
  rcases(Ar e h.4 a).mp d with b|⟨j,m⟩
  .rw[b];lia
  .show h.sz a j
def lQ.drop(h:lQ B az es)(c:aP):lQ B (qo az (bk c)) (es.filter λ(l:jz)=>l.key !=c)where
 nd:=by rw[YL];show h.nd.filter _
 has:=λb e=>by
  let(i,a):=tj.mp e;let a:b.key≠c:=by simpa using a
  let(m,f,d):=h.has b i;show(m,by rw[amd (λn=>a (uI n))];show f,d)
 only:=λk j=>by
  rw[YL]at j;let(i,a):=tj.mp j;let(b,f,d):=h.only k i;let a:k≠bk c:=lN a;show(b,tj.mpr (f,?_),d);simp;lia
 kr:=by
  have:=h.4;unfold qi pO at*;show av0 (awj _ List.filter_sublist) this
 gM:=fZ (Gq _ _) h.gM
 sz:=λb e=>h.sz b (tj.mp e).1
def lQ.snoc(h:lQ B az es)(l:?eR){ma:S}{e:jz}(m:rH B' ma e.text e.msg)(n:R e.text<=1024/\fk e.msg<=1025/\R e.key<=24/\e.key≠[])(s:R es<48)(k:(es.getLast?.all λ(b:jz)=>mO b.key e.key)=M):lQ B' (b_ az (bk e.key) (.ref ma)) (es++[e]):=by
 let d:=Xc h.4 k;let q:∀b∈es,b.key≠e.key:=by
  intro b c a;unfold qi pO at d;rw[iD,KQ]at d;have:=d.2.2 b.key (eM.mpr (b,c,Z)) e.key ?c
  rw[a,xq]at this;cases this
 show(G1 h.nd,λb c=>?_,λo j=>?_,d,by simp;lia,λb c=>?_)
 .rcases iE.mp c with a|a
  .let(p,f,i):=h.has b a;show(p,by rw[Ir,bp (λr=>q b a (uI r))];show f,i.mono l)
  rw[lX.mp a];show(ma,by rw[Ir,?eZ],m)
 .rcases x9.mp j with a|a
  .simp_all
  let(b,f,i):=h.only o a;show(b,by simp[f],i)
 rcases iE.mp c with a|a
 .show h.sz b a
 rw[lX.mp a];lia
end
inductive anb(l:V)(n:V)(m:V)(b:L)(j:VK)(h:XK):Prop
 |i (e k o p q r d a f c) (_:l=?aY) (_:b e=Y (?A k (iX o p q r ?J))) (_:b d=Y (.dT a)) (_:a.length<=1000) (_:n=?bL) (_:b f=?a1) (_:(?fM a=U->a.length=48->XR g.f8 b (-9) [] h)) (_:(¬(?fM a=U/\a.length=48)->j (.bl (?fM a).isSome) (D b d (.dT (b_ a (bk c) m)))))
def ao9:Sp:=yl (anb)
def Ul:gy ["language","key","message","was_there"] ["language","key","message"] (eO UQ):=(rfl,Z,Z,by decide+kernel,Z,by decide+kernel,by decide+kernel)
def Ux[m:?da]:g.qV 4 "put_message" ["language","key","message"] (ao9):=wy m.ahs Ul ?bF Bd λB z w P T l a r x o h=>by
 let(a,a,p,0,h):=h;show(_,(bx (?n 3 Ul.nd (Pi (Ju (lc o) ?a9 ?l))) (bx (?cQ (PW.pt (sC (nY (jD ?gH)) (ss (?B jV (?cp HE m.7 (?q ?l)) (?Y m.agr))))) (bw (lh Pk o))) (?iN (Fm (lc o) ?l ?a9 ?dr Z)))),?_)
 try dsimp only[eJ,jC,jF,jA]
 let(y,A,a,a,a,a,f,a,v,d,0,C,n,H,0,q,u,k):=h;let E:=fU;lk;show(f,_,Z,lY.t (k:=bk d) n q,?_);let fin:¬(eQ a (bk d)=U/\R a=48)->tQ l f (.ref v) p (D l f (.dT (b_ a (bk d) p)))/\r (.bl (eQ a (bk d)).isSome) (D l f (.dT (b_ a (bk d) p))):=λc=>(tQ.t n q ?d,k c)
 rcases j:eQ a (bk d)with _|X
 .lk;show(f,a,Z,.inl n,?_);lk;show ?bs
  .injection b with b;show iI (u j ?d)
  let b:¬V.int ?co=V.int 48:=b;let s:R a≠48:=λc=>b (by rw[c];rfl)
  let(t,e):=fin (λc=>s c.2);rw[j]at e;lk;show e
 let(t,e):=fin (λc=>by rw[j]at c;cases c.1)
 rw[j]at e;lk;show e
inductive aly(l:V)(m:V)(a:L)(j:VK)(h:XK):Prop
 |i (e k n o p q d c f b) (_:l=?aY) (_:a e=Y (?A k (iX n o p q ?J))) (_:a d=Y (.dT c)) (_:m=?bL) (_:a f=?bU) (_:(eQ c (bk b)=U->XR g.si a (-4) [] h)) (_:(eQ c (bk b)≠U->j .cT (D a d (.dT (qo c (bk b))))))
def am6:Sp:=kq (aly)
example:fP awr agM T.agQ Ue 4 "drop_message" ((am6)) ["language","key"] [] (bx (?cQ (uK (EE (lc hr) ?a9 ?l)) (bw (lh MT hr))) (bw (dO (aoz (lc hr) ?l ?a9 (rfl,Z,Z,Z))))):=by
 let(o,p,r,v1,v2,v3,j,e,l,c,0,q,b,0,d,i,k):=h;lk;show(j,_,Z,lY.t (k:=bk c) b d,?_);lk;rcases a:?fM e with _|m
 .lk;show iI (i a)
 lk;show(.inr (_,.inl b),_,Z,e,bk c,l,m,b,Z,d,a,k (λn=>by rw[n]at a;cases a))
end Sm
namespace PySem
open PySem.SeqAt
open PySem.AutoSeq1 (wpAny_loadPart')
open PySem.MeetsSeq PySem.MeetsSeq2 PySem.MeetsSeq3
def als{A:eV}{e:aO}{i:Nat}{FC:Nat->Bool}{ah:J->aO->Prop}(P:W.KdlSrc r u w s x i j n)(y:A.handled=U)(C:n e.1)(z:i<=cw)(E:∀(b:dg) (a:?dD),(∀c d,e.1.get? c=Y d->b.get? c=Y d)->EX j a i->(∃o,TupsOf b FC a.toList o)/\∀f∈a.toList,∃l,Et b FC f=Y l)(B:∀(b:dg) (m:Nat) (a:?dD),(∀c d,e.1.get? c=Y d->b.get? c=Y d)->EX j a i->∀h:SortSt,(FB h).Perm (Fc a.toList)->SortedToK (G.tupKindC ?db FC) (FB h) (Fc a.toList).size->ah (.ref b.1.size) {e with heap:=Xo ?db b.1.size a.toList ((FB h).map λk=>k.snd),toks:=m}):bH (bQ r u) A (px (.builtin "sorted") [.ref s]) ah v e:=by
 show kmk_tree kind_sorted plain_sorted entry_sorted (args_sorted1 _) ?_;show ?ju;show kX (Q:=λ_ t=>t=e) ?_ (λ_ t f=>?_) (λ_ _ f=>f)
 .wp_walk
  rfl
 subst f;show ?ju;show W.kdu_collect P (A:=A.in1) y C z λb m a q k=>?_;let e:=k.1;let p:(?db).get? (Q b.1)=Y (zq "list" a.toList.toArray 0):=?dd;let((o,T),X):=E ?db a (λc d f=>?e1 (q c d f)) k
 wp_walk
 show Rh (slot_list_sort).plain entry_list_sort ((slot_list_sort).check _ _ _ _ _ _ _ _ (_,p,Z) (args_list_sort _) ?_);show G.list_sort_tups p T X ?b7 λh E H c=>?_
 show dA (B b m a q k h E H)
end PySem
namespace L2
section
variable{X:Cx}{ap:List (S×Obj)}{σ:St}{H:L}{s:aO}
def atc(p:?f H s)(h:Rd H e (.dT b)):R b<=cw/\(e==nS)=I/\∃j,s.1.get? e=Y j/\j.ExactDict/\bN λ(a:Array rj) (f:Nat)=>j.data=.dict a f/\Q a=R b/\∀(d:Nat) (i:?dg) (n:V),b[d]?=Y (i,n)->bN λ(k:rj) (c:S)=>a[d]?=Y k/\k.key=?aC/\H c=Y (.tup (i.map kV)):=by
 let(A,x,o,m,z,a,f,w,y,v,l,_):=h.ok p.bU;show(A,x,z,w,y,a,f,v,?_,λd i n r=>?_)
 .let C:Q a=R o:=GT l;let E:R b=R o:=vV m
  lia
 let(q,u,B,t,_):=pK m r;let c:=entry_at l d;rw[u]at c;show(_,q.2.1,c,Z,t)
theorem anN{a0:eP}{a3:dZ}{c:S}{f:Obj}{i:Array rj}{v:Nat}(E:(c==nS)=I)(t:f.ExactDict)(r:f.data=.dict i v):PySem.W.KdlSrc a0 a3 "dict" c c i.size (λe a2=>∃u,i[e]?=Y u/\a2=u.key) (λh=>?jp=Y f)where
 type:=λs b=>⟨f,b,t.1⟩
 there:=λh b=>⟨fS b,fS b⟩
 keep:=λh l b q=>q c (.inl rfl) f b
 notList:=by decide
 notTuple:=by decide
 hint:=λz n s o b d=>PySem.W.kdl_hint_dict ⟨f,b,t.1⟩ d
 iter:=λz s B b=>by
  have P:c≠s.heap.objs.size:=jS (fS b);show⟨_,λe h=>h.IsKeyIter s.heap.objs.size c e i.size v/\?jp=Y f,λn o d=>NG E b t r d,?_,?_⟩
  .show⟨λp j=>by simp at j;simp[j],λe h l a q=>⟨a.1.at λT k=>q _ ?c T k,q c ?c f a.2⟩,λe m o n C a d=>?_,λm o n a d=>My B a.1 a.2 r rfl ?a2 λl A=>d l m.toks λp x j k=>A p x ?fZ k,λe m o n a d=>?_⟩
   .have w:i[e]?=Y i[e]:=Bu C;show UC a.1 a.2 r rfl w λl a1 y=>d _ l m.toks ⟨_,w,rfl⟩ ⟨a1,(y.2 c P).trans a.2⟩ λp x j k=>(y.2 p ?fZ).trans k
   show RY a.1.typeIs Ky (wU Ky a.1.typeIs T5 ?_ (T2 _));show dA ⟨_,rfl,"dict_keyiterator",_,a.1.typeIs,Bs.lookup,d⟩
  show⟨⟨_,kh _ rfl,rfl,rfl⟩,?e1 b⟩
end
end L2
namespace Sm
inductive nG(h:dg)(f:J)(d:aP):Prop
 |i (b a c e) (_:f=?av) (_:?ep=Y a) (_:a.cls=?ay) (_:a.data=.seq c e) (_:a_ (bT d) c.toList)
theorem Xh:∀{e b:aP} {f:?aX},a_ (bT e) f->a_ (bT b) f->e=b
 |[],[],_,_,_=>rfl
 |[],_::_,_,a,c=>by cases a;cases c
 |_::_,[],_,a,c=>by cases c;cases a
 |n::e,o::b,_,a,c=>by
  cases a with
  |cons j l=>
   cases c with
   |cons k m=>
    let(p,h):=j;let(q,d):=k;rw[h]at d;injection d with d _;let i:n=o:=rW.mp (uZ d);rw[i,Xh l m]
theorem nG.inj{h:dg}(n:nG h f a)(o:nG h f b):a=b:=by let(v,t,p,r,i,j,_,k,l):=n;let(w,u,q,s,c,d,_,e,m):=o;rw[i]at c;cases c;rw[j]at d;cases d;rw[k]at e;cases e;show Xh l m
def nG.keep{h d:dg}(m:nG h e b)(o:∀c a,?jp=Y a->d.get? c=Y a):nG d e b:=by let(q,a,n,p,f,i,j,k,l):=m;show(q,a,n,p,f,o _ _ i,j,k,l)
def kw(a:aP):List (Int⊕?dK):=a.map λb=>gJ ?bz
def Xf:∀{b:aP} {c:?aX} (a:Nat),a_ (bT b) c->tupItems (λ_=>I) a c=Y (kw b):=by
 intro d
 induction d with
 |nil=>
  intro _ a h;cases h;rfl
 |cons i b ih=>
  intro _ a h;cases h with
  |cons e f=>
   let(j,0):=e;have:=ih ?aN f;unfold tupItems;simp only[yt,if_false];rw[this];rfl
theorem nG.key{h:dg}(j:nG h c a):Et h (λ_=>I) c=Y (kw a):=by
 let(k,n,l,m,0,b,d,e,f):=j;unfold Et;let i:G.isTupObj h ?gM=M:=by
  unfold G.isTupObj;simp only[b,d];rfl
 rw[bz i];unfold tupKey;simp only[b,e];show Xf 0 f
def nG.tup{h:dg}(o:nG h f a)(n:a≠[]):∃m,TupOf h (λ_=>I) f m:=by
 let(s,q,d,p,0,j,k,l,b):=o;rcases a with _|⟨i,a⟩
 .lia
 rcases c:d.toList with _|⟨v,w⟩
 .rw[c]at b;cases b
 rw[c]at b;cases b with
 |cons r u=>
  let(e,0):=r;show(.int (i.toNat:Int) e,s,q,d,p,Z,j,k,l,?_,λ_=>(_,e,Z),λt=>nomatch t);rw[<-DE,c];rfl
theorem t9:∀c d:aP,Ll IB (kw c) (kw d)=mO c d
 |[],[]=>rfl
 |[],_::_=>rfl
 |_::_,[]=>rfl
 |a::c,b::d=>by
  have ih:=t9 c d;rw[bS];change Ll IB (gJ ?eg::kw c) (gJ ?bz::kw d)=_;rw[cG];rw[ih];let h:IB.blt (gJ ?eg) (gJ ?bz)=decide (a.toNat<b.toNat):=by
   change decide (?eg<?bz)=_;show decide_eq_decide.mpr Va
  let i:IB.blt (gJ ?bz) (gJ ?eg)=decide (b.toNat<a.toNat):=by
   change decide (?bz<?eg)=_;show decide_eq_decide.mpr Va
  rw[h,i,show decide (a<b)=decide (a.toNat<b.toNat)from decide_eq_decide.mpr W9];by_cases f:a.toNat<b.toNat
  .rw[im f];simp
  rw[gu f,BR,BR];by_cases e:b.toNat<a.toNat
  .rw[im e,show(a==b)=I from beq_eq_false_iff_ne.mpr λj=>by rw[j]at e;lia]
   simp
  have:a=b:=rW.mp ?d
  rw[gu e,this];simp
noncomputable def CV(h:dg)(b:J):aP:=by classical exact if q:∃a,nG h b a then q.choose else[]
def NI{h:dg}(c:nG h b a):CV h b=a:=by unfold CV;let d:∃a,nG h b a:=(a,c);rw[dif_pos d];show d.choose_spec.inj c
def AJ:J->S
 |.ref a=>a
 |_=>0
def Ce(c:List (S×aP)):=(c.map pc).Pairwise λa b=>mO b a=I
def y_{h:dg}(q:jb (λd e=>nG h ?J e) b j){f:Array Keyed}(r:f.Perm (Fc (b.map dR)))(u:SortedToK (G.tupKindC h (λ_=>I)) f (Fc (b.map dR)).size):∃v:List (S×aP),v.Perm (b.zip j)/\Ce v/\(f.map λX=>X.snd).toList=v.map λa=>dR a.1:=by
 let B:Q f=(Fc (b.map dR)).size:=r.size_eq;rw[<-B]at u;let C:=sm_pw_of_sorted u;let s:f.toList.Perm ((b.map dR).zip (b.map dR)):=by
  have:=r.toList;unfold Fc at this;simpa using this
 let m:∀a∈f.toList,a.1=a.2/\bN λd e=>a.2=?J/\nG h ?J e/\(axa d e)∈b.zip j:=by
  intro a i;let T:=s.mem_iff.mp i;let⟨o,n,l⟩:=oA T;rw[Sq]at l;simp only[GS,ft,Vd]at n;let A:o<R j:=by rw[<-q.length];lia
  let⟨e,z,H⟩:=pK q (gv n);rw[gv A]at z;cases z;rw[List.getElem_map]at l;show⟨by rw[<-l],b[o],j[o],by rw[<-l],H,?_⟩
  show List.mem_iff_getElem.mpr ⟨o,by rw[GS];show Xk.mpr ⟨n,A⟩,by rw[Sq]⟩
 show⟨f.toList.map λa=>(axa (AJ a.2) (CV h a.2)),?_,?_,?_⟩
 .have:=s.map λa:Keyed=>(axa (AJ a.2) (CV h a.2));show this.trans (List.Perm.of_eq ?_);clear this s m C u B r
  induction q with
  |nil=>rfl
  |cons c b ih=>
   rw[iF,Lj,iF,Lj,ih];rw[NI c];rfl
 .unfold Ce;rw[mN,List.pairwise_map];show avI (λ{a t} i P c=>?_) C;let⟨w,d,e,k,p,_⟩:=m a i;let⟨E,b,b,x,y,_⟩:=m t P;let c:Ll IB ((Et h (λ_=>I) t.1).getD []) ((Et h (λ_=>I) a.1).getD [])=I:=c;rw[w,E,k,x,p.key,y.key]at c;simp only[Option.getD_some]at c;rw[t9]at c;change mO (CV h t.2) (CV h a.2)=I;rw[k,x,NI p,NI y];show c
 rw[Array.toList_map,mN];show yr λa i=>?_;let⟨w,d,e,k,p,_⟩:=m a i;change a.2=dR (AJ a.2);rw[k];rfl
def asz(f:cp):?au->L->VK->Prop:=λj a h=>gG λl b d=>j=[V.ref l]/\cJ f a l ?fl/\JD f a b d/\(∀i∈d,i≠[])/\∀e c,e.Perm (b.zip d)->Ce e->a c=U->h ?aC (D a c (.lst (e.map λk=>V.ref k.1)))
def asy:?au->L->VK->Prop:=λk a i=>gG λf h b=>k=[V.ref f]/\Rd a f (.dT h)/\h.map fw=b.map bk/\(∀j∈b,j≠[])/\∀e d c,nz a e b->d.Perm (e.zip b)->Ce d->a c=U->i ?aC (D a c (.lst (d.map λl=>V.ref l.1)))
section
variable{X:Cx}{ap:List (S×Obj)}{σ:L2.St}{H:L}{s:aO}
def G6(c:?f H s)(h:cZ X.K H a (bT b)):nG s.1 ?s b:=by let(i,l,(k,f,d,j,e),_):=c.tuple h;show(a,k,i.toArray,j,Z,f,d,e,by simpa using l)
def NR:∀a:List S,a_ ?eN (a.map dR):=by
 intro b
 induction b with
 |nil=>
  show .nil
 |cons c a ih=>
  show .cons Z (ih)
def Zn:∀{a:?aD} {b:?aX},a_ ?eN b->b=a.map dR:=by
 intro c
 induction c with
 |nil=>
  intro _ h;cases h;rfl
 |cons f a ih=>
  intro _ h;cases h with
  |cons d e=>cases d;rw[ih e];rfl
def MD{h:dg}(k:jb (λf a=>nG h ?bL a) c e):(∀a∈e,a≠[])->∃b,TupsOf h (λ_=>I) (c.map dR) b:=by
 induction k with
 |nil=>show λ_=>([],.nil)
 |cons m o ih=>
  intro d;let(b,l):=ih λa j=>d a (gY _ j);let(i,n):=m.tup (d _ ?c)
  show(i::b,.cons n l)
def Vv{h:dg}(k:jb (λa e=>nG h ?s e) b n):∀d∈b.map dR,∃l,Et h (λ_=>I) d=Y l:=by intro d m;let(a,i,0):=eM.mp m;let(o,j,f):=oA i;let(e,_,c):=pK k (gv j);rw[f]at c;show(_,c.key)
def v9{a:?aD}{b:?bl}{c:List (S×aP)}(d:R a=R b)(e:c.Perm (a.zip b)):R c=R a:=by rw[e.length_eq,GS,d,Vd]
def ah8:qN X (.builtin "sorted") (asz X.K):=by
 intro ap s σ H a a a b z h;let(l,f,E,0,r,i,u,y):=h;let(a,A,p,j):=b.list r;have:=Zn A;subst this;rw[a_.JQ z];let d:jb (λn C=>nG s.1 ?jN C) f E:=jb.lu i λ_ _ a=>G6 b a;let(c,B):=MD d u;let t:=i.length;show avq p.isList B (Vv d) ?fZ λk w x c=>?_
 let(c,m,P,T):=y_ d w x;let(o,q):=avw s.1 (f.map dR) ((FB k).map λe=>e.snd);let d:=v9 t m;let v:(c.map λa=>V.ref a.1).length<=cw:=by rw[ft,d];simpa using j
 show(.ref _,D H ?gi (.lst (c.map λa=>V.ref a.1)),b.laid (t':=s.toks) (λ_ _=>avr) (rZ _) (v,((FB k).map λe=>e.snd).toList,o,?_,q),Z,y c _ m P (b.bU.fresh (rZ _)));rw[T];have:=NR (c.map fw);rw[mN,mN]at this;lia
end
theorem Zh{j k:Type}{f:j->k->Prop}:∀{b:List j} {d:List k},R b=R d->(∀(e:Nat) a c,b[e]?=Y a->d[e]?=Y c->f a c)->jb f b d
 |[],[],_,_=>.nil
 |[],_::_,h,_=>by cases h
 |_::_,[],h,_=>by cases h
 |a::b,c::d,h,i=>.cons (i 0 a c Z Z) (Zh ?dy λe n o l m=>i (e+1) n o (by simpa using l) ?ja)
section
variable{X:Cx}{ap:List (S×Obj)}{σ:L2.St}{H:L}{s:aO}
def aqh{d:S}{c:?j4}{n:?bl}{f:Array rj}(t:c.map fw=n.map bk)(T:Q f=R c)(u:∀(a:Nat) (x:?dg) (P:V),c[a]?=Y (x,P)->bN λ(b:rj) (i:S)=>f[a]?=Y b/\b.key=?iB/\H i=Y (.tup (x.map kV))):∃q:List S,nz H q n/\f.toList.map (λb=>b.key)=q.map dR:=by
 show(f.toList.map λb=>AJ b.key,?_,?_)
 .let C:R n=Q f:=by
   have:=fL R t;rw[ft,ft]at this
   lia
  let E:∀(a:Nat) h m,(f.toList.map λb=>AJ b.key)[a]?=Y h->n[a]?=Y m->H h=Y (.tup (bT m)):=by
   intro a h m e w;rw[iC]at e;let k:a<R c:=by
    have:=(ig.mp w).1
    lia
   let v:=gv k;let(b,i,j,p,r):=u a c[a].1 c[a].2 v;rw[DE,j]at e;let e:AJ b.key=h:=gR e;rw[p]at e;let e:i=h:=e;let z:c[a].1=bk m:=by
    have:=fL (λl=>l[a]?) t;simp only[iC,v,w]at this;show gR this
   rw[<-e,r,z];rfl
  show Zh (by rw[ft,BB,C]) E
 rw[mN];show yr λb A=>?_;let(a,k,y):=oA A;rw[BB]at k;let B:a<R c:=by lia
 let(o,i,j,p,r):=u a c[a].1 c[a].2 (gv B);rw[Bu k]at j;have:o=b:=by rw[<-gR j,<-y,Array.getElem_toList]
 rw[<-this];change o.key=dR (AJ o.key);rw[p];rfl
def Ms(t:X.f6=M):qN X (.builtin "sorted") asy:=by
 intro ap s σ H i b b q e h;let(d,b,C,0,c,E,z,a1):=h;let(a0,A,o,v,B,x,b,u,b,f):=atc q c;rw[a_.JQ e];let(l,y,e):=aqh (d:=d) E b f;let T:=y.length;let n:jb (λa p=>nG s.1 ?s p) l C:=jb.lu y λ_ _ c=>G6 q (cZ.of c);let P:∀f:Array J,EX (λm j=>∃w,x[m]?=Y w/\j=w.key) f x.size->f.toList=l.map dR:=by
  intro f k;rw[<-e];show List.ext_getElem? λm=>?_;rw[DE,iC,DE];by_cases j:m<Q x
  .let e:m<Q f:=by rw[k.1];show j
   rw[Bu e];let(w,j,r):=k.2 m f[m] (Bu e);rw[j,r];rfl
  rw[Go (by rw[k.1];lia),Go ?d]
  rfl
 show als (FC:=λ_=>I) (anN A B u) (q.ok.hd t) v (by rw[b];show a0) (λh' f t k=>?_) (λh' B f t k w A v=>?_)
 .rw[P f k];let r:jb (λa p=>nG h' ?s p) l C:=jb.lu n λ_ _ c=>c.keep t;show(MD r z,Vv r)
 generalize b:f.toList=i at A v;let m:i=l.map dR:=by rw[<-b];show P f k
 let k:(?gI).get? (Q h'.1)=Y (zq "list" i.toArray 0):=?dd;let u:∀b e,h'.get? b=Y e->(?gI).get? b=Y e:=λb e j=>?e1 j;generalize ?gI=z at v k u;let r:jb (λa p=>nG z ?s p) l C:=jb.lu n λ_ _ c=>c.keep λb e j=>u b e (t b e j);rw[m]at A v;let(n,m,x,p):=y_ r A v;generalize(FB w).map (λf=>f.snd)=out at p;let(r,f):=avs (out:=out) k;let k:=v9 T m;let w:(n.map λc=>V.ref c.1).length<=cw:=by
  rw[ft,k,T];have:=fL R E;rw[ft,ft]at this
  lia
 let k:∀b e,h'.get? b=Y e->(Xo z h'.1.size i out).get? b=Y e:=λb e j=>by
  let v:b<Q h'.1:=fS j;rw[avn (jS v) (fS (u b e j))];show u b e j
 generalize Xo z h'.1.size i out=T at f k;let E:?f H {s with heap:=h',toks:=B}:=q.kept t;let e:a_ (n.map λc=>V.ref c.1) out.toList:=by
  rw[p];have:=NR (n.map fw);rw[mN,mN]at this;show this
 let b:?f (D H h'.1.size ?bJ) {s with heap:=T,toks:=B}:=E.laid (a:=h'.1.size) (o:=?bJ) (t':=B) (h':=T) k ?a2 (w,out.toList,r,e,f);show(.ref h'.1.size,_,b,Z,a1 l n _ y m x (E.bU.fresh ?a2))
end
def E7:∀{l:List ?dg},(∀a∈l,∃b:aP,a=bk b)->∃c:List aP,l=c.map bk:=by
 intro i
 induction i with
 |nil=>
  intro _;show([],Z)
 |cons a l ih=>
  intro h;let(b,d):=h a ?c
  let(c,e):=ih λa f=>h a (gY _ f);show(b::c,by rw[d,e];rfl)
def aj9{a:?bl}(h:(a.map bk).Nodup):a.Nodup:=by
 induction a with
 |nil=>simp
 |cons b a ih=>
  rw[iF,iu]at h;rw[iu];show(λc=>h.1 (eM.mpr (b,c,Z)),ih h.2)
def arx{b:?aD}{a:?bl}(h:R b=R a):(b.zip a).map pc=a:=List.map_snd_zip ?d
def HW{i:?aD}{b:?bl}{a:List (S×aP)}(l:R i=R b)(m:b.Nodup)(o:a.Perm (i.zip b))(k:Ce a):pO (a.map pc)/\∀h,h∈a.map pc<->h∈b:=by
 let f:=o.map pc;rw[arx l]at f;show(?_,λh=>f.mem_iff);let n:(a.map pc).Nodup:=f.nodup_iff.mpr m;unfold Ce at k;have:(a.map pc).Pairwise λd e=>mO e d=I/\d≠e:=awe k n;show ae2 (λ{d e} j=>?_) this;rcases Hm j.2 with c|c
 .show c
 rw[j.1]at c;cases c
def HY{a:List (S×aP)}(h:nz d e i)(m:a.Perm (e.zip i)):nz d (a.map fw) (a.map pc):=by
 have:∀b∈a,d b.1=Y (.tup (bT b.2)):=by
  intro b f;let f:=m.mem_iff.mp f;let(l,c,j):=oA f;rw[Sq]at j;let o:l<R e:=by rw[GS]at c;show(Xk.mp c).1
  let p:l<R i:=by rw[GS]at c;show(Xk.mp c).2
  let(s,k,n):=pK h (gv o);rw[gv p]at k;cases k;rw[<-j];show n
 clear m
 induction a with
 |nil=>show .nil
 |cons b a ih=>show .cons (this b ?c) (ih λr q=>this r (gY _ q))
def lQ.rows(h:lQ p k i):∃b:List aP,k.map fw=b.map bk/\b.Nodup/\(∀a∈b,a≠[])/\∀a,a∈b<->a∈i.map Yp:=by
 let(b,f):=E7 (l:=k.map fw) λu r=>by
  let(c,_,v):=h.only u r;show(c.key,v)
 let o:=h.nd;rw[f]at o;let n:∀a,a∈b<->a∈i.map Yp:=by
  intro a;let j:=h.keys (bk a);rw[f]at j;constructor
  .intro m;let(c,e,d):=eM.mp (j.mp (eM.mpr (a,m,Z)));show eM.mpr (c,e,uI d)
  intro m;let(c,e,d):=eM.mp m;let(w,t,q):=eM.mp (j.mpr (eM.mpr (c,e,by rw[d])))
  rw[<-uI q];show t
 show(b,f,aj9 o,λa s=>?_,n);let(c,e,d):=eM.mp ((n a).mp s);rw[<-d];show(h.sz c e).2.2.2
def ZE(c:L)(f:?bl)(e:VK):=∀b d a,Le c a->c b=U->a b=Y ?jT->nz a d f->e ?av a
inductive aqY(l:List cq->aP->List aP)(n:V)(o:V)(a:L)(j:VK)(h:XK):Prop
 |i (f d dl k b m e c) (_:n=?J) (_:zK f a d dl k b m) (_:o=?aY) (_:a e=?a1) (_:(gt b c=U->?dp a h)) (_:(∀p,gt b c=Y p->ZE a (l b c) j))
def asL(a:?t->aP->?bl):Sp:=kq (aqY a)
example:fP awQ Xr T.akN XX 5 "own_keys" ((asL pJ)) ["kit","tag"] [] (bw (dM (gq (Ms Z) Z T.Il MH (?q (?cR (?U T.rJ yB hr (?q ?a9))))))):=by
 let(a,t,k,a,u,a,w,b,0,c,0,q,a,a0):=h;let(l,j,o):=c.2;lk;rcases c.langs.find b with⟨z,B⟩|⟨d,d,y,d,e,e,e,m,n,E,_⟩
 .show(t,l,k,j,_,w,b,Z,o,c.dict,Z,q,λ_=>a z,λe a=>by rw[B]at a;cases a)
 show(t,l,k,j,_,w,b,Z,o,c.dict,Z,q,λa=>(by rw[n]at a;cases a),λe a=>?_)
 rw[n]at a;cases a;let(a,a,a,a,a,c,c,c,c,c,c,c,c,c,c,c,v):=E;let(l,e,j,i,k):=v.rows;lk;show(d,a,l,Z,c,e,i,λa d i r p P e=>?_);let(a,c):=HW r.length j p P;let C:d.map pc=pJ u b:=by
  have:pJ u b=y.entries.map Yp:=by unfold pJ;rw[m];rfl
  rw[this];show Eo a v.4 λx=>(c x).trans (k x)
 let X:D H i (.lst (d.map λa=>V.ref a.1)) i=Y (.lst ((d.map fw).map V.ref)):=by rw[bD,mN];rfl
 show a0 y m i (d.map fw) _ (Le.new e) e X ?_;rw[<-C];show(HY r p).mono (Le.new e)
end Sm
namespace L2
def HQ{k:S}{m:Obj}{d:?j4}{g:TG}{x:TS}{i:h_}{c:St}{b:L}(f:Nat->St->L->Prop)(y:f 0 c b)(H:∀a c b,a<=R d->f a c b->b k=Y (.eI m (.dT d)))(P:∀(a:Nat) (l:?dg) (r:V) (j:S) c b,d[a]?=Y (l,r)->b j=Y (.tup (l.map kV))->f a c b->g ?dh c b λu n=>x {i with nx:=f ?aN,ct:=f ?aN,bk:=i.nx} u n)(C:∀c b,f d.length c b->i.nx c b):∃W:Nat->Nat->St->L->Prop,(∃h,W 0 h c b)/\∀a h c b,W a h c b->((FL k m d).stop a b/\i.nx c b)\/((FL k m d).go a b/\∃o:St->L->Prop,(∀t e,o t e->∃w,w<h/\W ?aN w t e)/\∀s e,(FL k m d).2 a b s e->g s c e λu n=>x {i with nx:=o,ct:=o,bk:=i.nx} u n):=by
 show(λa h c b=>h=R d-a/\a<=R d/\f a c b,(d.length,by simp,gI _,y),?_)
 intro a h c b ξ;let(0,E,q):=ξ;let j:=H a c b E q;by_cases v:a<R d
 .show .inr ((j,v),f ?aN,λt e T=>(R d-?aN,by lia,Z,v,T),λs e f=>?_)
  let(p,l,r,X,z,A,B):=f;subst p A;show P a l r X c e z B q
 let p:a=R d:=by lia
 subst p;show .inl ((j,?a2),C c b q)
end L2
namespace Sm
theorem iG.free(h:iG f b t k j d u x)(p:c∈d)(r:kE f b c A e y):∀v z,b e≠Y (.eI v z):=by
 let(s,q,m):=oA p;let(a,i,a,_,n,_,o,_):=h.la.get (show d[s]?=Y c by rw[gv q,m])
 let(B,a,E,X,P,a,w,_):=r;let(C,a,H,a,T,a,a,_):=n;rw[w]at a;let l:e=i:=by grind
 rw[l];show h.un i o
def CO(d:L)(e:S)(a:?bl):=∃b:List (List Key×V),d e=Y (.dT b)/\b.map fw=a.map bk/\a.Nodup/\(∀c∈a,c≠[]/\R c<=24)
inductive ao5(l:List cq->aP->List aP)(n:V)(o:V)(a:L)(h:VK)(f:XK):Prop
 |i (e c dl k j m st d b) (_:n=?aC) (_:iG e a c dl k j m st) (_:o=?J) (_:a d=?bU) (_:(?aU b=U->?dp a f)) (_:(∀p,?aU b=Y p->ZE a (l st.langs b) h))
def G9(a:?t->aP->?bl):Sp:=kq (ao5 a)
theorem NF(a:?au)(b:Nat):oK a (Y ?cg) U=?cf:=by
 unfold oK;let d:?cc 0 (Y ?cg)=min b a.length:=rfl
 let e:?cc a.length U=R a:=rfl;rw[d,e];by_cases c:b<=R a
 .rw[wV c,wQ (by rw[lC];show ?a2)]
 rw[Ss ?d,GN,Up,Bx ?d]
def CO.put(h:CO j l b)(c:R b<=10000)(B:j o=?bo)(C:a≠[]/\R a<=24):bN λq s=>tQ j l ?j1 (.bl M) q/\(∀p u,p≠l->j p=Y u->q p=Y u)/\CO q l s/\(∀f,f∈s<->f∈b\/f=a)/\R s<=R b+1:=by
 let(t,y,m,w,x):=h;let X:R t=R b:=by
  have:=fL R m;simpa using this
 let c:=fU;show(_,if a∈b then b else b++[a],tQ.t (k:=bk a) y B ?d,λp u H e=>bO H e,(_,bD,?_,?_,?_),?_,?_)
 .rw[Ol,m];let e:(t.any λE=>decide (E.1=bk a))=M<->a∈b:=by
   rw[vT];constructor
   .intro ξ;let(n,r,e):=ξ;let e:=lN e;have:n.1∈b.map bk:=by rw[<-m];show eM.mpr (n,r,Z)
    let(f,i,v):=eM.mp this;rw[e]at v;rw[<-uI v];lia
   intro c;have:bk a∈t.map fw:=by rw[m];show eM.mpr (a,c,Z)
   let(n,r,e):=eM.mp this;show(n,r,im e)
  by_cases d:a∈b
  .simp_all
  rw[bp (λc=>d (e.mp c)),bp d,iD];rfl
 .split
  .lia
  rename_i d;show yy.mpr (w,by simp,λP z T A e=>?_)
  rw[lX.mp A]at e;show d (e▸z)
 .intro f i;split at i
  .show x f i
  rcases iE.mp i with c|c
  .show x f c
  rw[lX.mp c];show C
 .intro f;split
  .rename_i d;show(.inl,λc=>c.elim id λo=>o▸d)
  rw[iE,lX]
 split
 .lia
 simp
def k9(a:cq):?bl:=a.entries.map Yp
theorem lQ.EU(h:lQ i f d)(c:aP):?fM f=U<->c∉d.map Yp:=by
 have:=h.find c;rcases e:d.find? (λ(b:jz)=>b.key==c)with _|b
 .rw[e]at this;let o:=Nl.mp e;show(λ_ a=>(by let(b,n,j):=eM.mp a;show o b n j),λ_=>this)
 rw[e]at this;let(k,l,p,m,_):=this;show(λa=>(by rw[m]at a;cases a),λa=>bK (eM.mpr (b,k,l)) a)
example:fP Ha Uw T.ahq UO 6 "lacked_keys" ((G9 Cc)) ["kit","tag"] ["way","lacked","language","key"] (bx (?n 2 Ha.nd (?U T.rJ Aq hr (?q ?a9))) (bx (?n 3 Ha.nd Ip) (bx (?fd (tI (?iP ?dr)) (?R 4 Ha.nd) (bw (IX (?fd (IW (?cR (N 4))) (?R 5 Ha.nd) (bw (?cQ (uK (EE (lc hr) (N 5) (?cR (?b ?dr bP)))) (bw (Fm (lc hr) ?gH (N 5) AW Z)))))))) (bw (dM (gq (Ms Z) Z T.Il MH (?q ?gH))))))):=by
 let(e5,f4,l3,s7,k5,q8,B,g4,C,0,c1,0,p9,q7,q3):=h;let t7:=fU;let(t0,t5):=c1.hk;lk;show(e5,f4,l3,k5,B.langs,q8,g4,C,Z,c1.r,Z,p9,q7,λP c6 g1 e2 b2 f5 t6 d5 f2 h1=>?_);let c5:=c1.ke.Ay c6;let o7:(oE B.langs C).length<=12:=fZ c5.len c1.ke.gM;lk;intro x X;lk;rw[show oK (e2.map V.ref) (Y 1) U=(e2.drop 1).map V.ref by rw[show ?em=((1:Nat):Int)from rfl,NF,Mh]]
 intro g2 p2;let(d7,h6):=wB p2;let g6:=c1.mono f5;let i2:=f2.length;let(b1,E,d2):bN λb1 E=>oE B.langs C=b1::E:=by
  cases c7:oE B.langs C with
  |nil=>rw[c7]at c5;show bK Z c5.ne
  |cons b1 E=>show(b1,E,Z)
 let u1:R E<=11:=by rw[d2,lO]at o7;lia
 let m5:b1=P:=by
  rw[d2]at c5;cases c5 with
  |last b _=>rw[c6]at b;show(gR b).symm
  |more b _ _=>rw[c6]at b;show(gR b).symm
 rw[d2]at f2 i2;let(a6,a4,m4):bN λa6 a4=>e2=a6::a4:=by
  cases e2 with
  |nil=>simp at i2
  |cons a6 a4=>show(a6,a4,Z)
 subst m4;let((b5,w7,h2),i3):mq e5 b2 a6 b1/\jb (mq e5 b2) a4 E:=by cases f2 with|cons r r7=>show(r,r7)
 let m6:=g6.free (h1 a6 ?c) h2
 let(s8,w1,t1,v7,b4,w3,e1,_,_,_,_,_,_,_,_,r2,r3):=h2;let c4:b2 b5=Y (.dT b4):=by
  rcases r2 with b|⟨q,b⟩
  .show b
  .show bK b (m6 _ _)
 let j2:∀c,?fM b4=U<->c∉pJ B.langs C:=by
  intro c;rw[r3.EU c];have:pJ B.langs C=b1.entries.map Yp:=by unfold pJ;rw[c6,m5];rfl
  rw[this]
 rw[ahg,agI]at*;lk;show ?iM g2 (xs:=a4.map V.ref) (λi a5 d1=>gG λa2 m b=>Le b2 d1/\d1 g2=Y (.lst (a4.map V.ref))/\CO d1 x a2/\R a2<=100*i/\(∀c,c∈a2<->(bN λ(e:Nat) (P:cq)=>e<i/\E[e]?=Y P/\c∈k9 P)/\c∉pJ B.langs C)/\a5=[Y (.ref f4),Y (.ref g4),Y (.ref g1),Y ?eJ,m,b]) ([],U,U,by simp_wf,bD,([],bO (bI h6) bD,Z,.nil,λc f1=>(nomatch f1)),gI _,λc=>(λb=>(nomatch b),λ((e,_,b3,_),_)=>bK b3 (Tf _)),Z) (λi a5 d1 _ (_,_,_,_,d,_)=>cJ.of d) ?_ ?_
 .intro i m a5 v n7 ξ;let(a2,s1,k3,a3,h5,n6,o2,e8,0):=ξ;let(a,g8,0):=wt n7;let(k2,f3,p,w5,h3):=pK i3 g8;let n0:=g6.free (h1 a (gY _ (lW g8))) h3;let(s9,w2,t2,w0,k,w4,d0,_,_,_,_,_,_,_,_,r4,b6):=h3;let a1:b2 p=Y (.dT k):=by
   rcases r4 with b|⟨q,b⟩
   .show b
   .show bK b (n0 _ _)
  let t4:i<R E:=(ig.mp f3).1;let u8:x≠a:=λb=>by rw[b,d0]at X;cases X
  let e0:x≠p:=λb=>by rw[b,a1]at X;cases X
  let q9:a≠p:=?bg d0 a1;let u3:R k<=48:=by rw[b6.len];show b6.gM
  show(p,.dT k,a3 _ _ a1,trivial,λt=>?_);let n5:?iA a=_:=bO q9 (a3 _ _ d0);lk;show(p,t,Z,.inr (k,bD,?_));let j9:Rd ?iA b5 (.dT b4):=by
   by_cases y:b5=p
   .rw[y]at c4 ⊢;rw[a1]at c4;cases c4;show .inr (t,bD)
   .show .inl (bO y (a3 _ _ c4))
  let i4:x≠b5:=λb=>by rw[b,c4]at X;cases X
  let h4:?iA g1=Y (.lst ((a6::a4).map V.ref)):=bO (?bg d5 a1) (a3 _ _ d5);let g7:?iA a6=_:=bO (?bg e1 a1) (a3 _ _ e1);let h7:?iA g2=_:=bO (λb=>by rw[b,a1]at d7;cases d7) h5
  let h0:CO ?iA x a2:=let(lk,o,l):=n6;(lk,bO e0 o,l)
  let e9:?iA p=Y (?bt t):=bD;let g5:∀w,(∀m q,m≠x->?iA m=Y q->w m=Y q)->Le b2 (D w p (.dT k)):=by
   intro w f m q d;by_cases y:m=p
   .rw[y]at d ⊢;rw[a1]at d;rw[bD];show d
   .show bO y (f m q (λb=>by rw[b,X]at d;cases d) (bO y (a3 _ _ d)))
  generalize ?iA=k4 at n5 j9 h4 g7 h7 h0 e9 g5;show HQ (λe a5 w=>bN λa9 m=>(∀m q,m≠x->k4 m=Y q->w m=Y q)/\CO w x a9/\R a9<=100*i+e/\(∀c,c∈a9<->c∈a2\/((∃j,j<e/\∃u,k[j]?=Y (bk c,u))/\c∉pJ B.langs C))/\a5=[Y (.ref f4),Y (.ref g4),Y (.ref g1),Y ?eJ,Y ?s,m]) (a2,k3,λm q _ d=>d,h0,by lia,λc=>(.inl,λb=>b.elim id λc7=>by let((j,b3,_),_):=c7;show bK b3 (Tf _)),Z) (λe a5 w _ (_,_,f,_)=>f _ _ (bI e0) e9) ?_ ?_
  .intro e q5 s0 c7 a5 w c3 h9 ξ;let(a9,s2,z,d4,o3,d6,0):=ξ;let u2:e<R k:=(ig.mp c3).1;let(d,a0,0):=b6.only q5 (eM.mpr (_,lW c3,Z));let g9:=b6.sz d a0;let v0:∀j k1,k[j]?=Y (bk d.key,k1)->j=e:=λj k1 c2=>by
    let n:=b6.nd;let o1:j<R k:=(ig.mp c2).1;let l5:(k.map fw)[j]?=Y (bk d.key):=by rw[iC,c2];rfl
    let l9:(k.map fw)[e]?=Y (bk d.key):=by rw[iC,c3];rfl
    show(List.getElem?_inj (by simpa using o1) n).mp (l5.trans l9.symm)
   let k0:∀c,(∃j,j<e+1/\∃u,k[j]?=Y (bk c,u))<->((∃j,j<e/\∃u,k[j]?=Y (bk c,u))\/c=d.key):=by
    intro c;constructor
    .intro ξ;let(j,d3,u,a8):=ξ;by_cases y:j=e
     .subst y;rw[c3]at a8;have:bk d.key=bk c:=fL fw (gR a8);show .inr (uI this).symm
     .show .inl (j,by lia,u,a8)
    .rintro(⟨j,d3,u,a8⟩|rfl)
     .show(j,by lia,u,a8)
     .show(e,by lia,s0,c3)
   let p0:=z _ _ (λb=>by rw[b,X]at d5;cases d5) h4
   let t3:=z _ _ (λb=>by rw[b,X]at e1;cases e1) g7
   let r6:Rd w b5 (.dT b4):=by
    rcases j9 with b|⟨q,b⟩
    .show .inl (z _ _ (bI i4) b)
    .show .inr (q,z _ _ (bI i4) b)
   lk;show pV (cJ.of p0) (tF (n:=0) Z) ?_;lk;show(b5,_,Z,.inr (b4,bk d.key,c7,r6,Z,h9,Z),?_);cases e7:eQ b4 (bk d.key)with
   |none=>
    let p1:=(j2 d.key).mp e7;let(s3,q6,s5,l0,l1,l2,s6):=d4.put ?d h9 (g9.2.2.2,g9.2.2.1)
    lk;show(q6,_,λm q n l4=>l0 m q n (z m q n l4),l1,by lia,λc=>?_,Z)
    rw[l2 c,d6 c,k0 c];constructor
    .rintro((b|⟨o,l⟩)|b)
     .show .inl b
     .show .inr (.inl o,l)
     .show .inr (.inr b,b▸p1)
    .rintro(b|⟨o|o,l⟩)
     .show .inl (.inl b)
     .show .inl (.inr (o,l))
     .show .inr o
   |some x0=>
    let q2:d.key∈pJ B.langs C:=Gi λb=>by
     rw[(j2 d.key).mpr b]at e7;cases e7
    lk;show(a9,_,z,d4,by lia,λc=>?_,Z)
    rw[d6 c,k0 c];constructor
    .rintro(b|⟨o,l⟩)
     .show .inl b
     .show .inr (.inl o,l)
    .rintro(b|⟨o|o,l⟩)
     .show .inl b
     .show .inr (o,l)
     .show bK (o▸q2) l
  .intro a5 w ξ;let(a9,s2,z,d4,o3,d6,0):=ξ;show(z _ _ (bI e0) e9,a9,_,_,g5 w z,?_,?_,by lia,λc=>?_,Z)
   .show bO (λb=>by rw[b,a1]at d7;cases d7) (z _ _ h6 h7)
   .let(lk,o,l):=d4;show(lk,bO e0 o,l)
   .rw[d6 c,e8 c];let q4:(∃j,j<R k/\∃u,k[j]?=Y (bk c,u))<->c∈k9 k2:=by
     let d3:=b6.keys (bk c);unfold k9;constructor
     .intro ξ;let(j,_,u,a8):=ξ;let(d,a0,a7):=eM.mp (d3.mp (eM.mpr (_,lW a8,Z)));show eM.mpr (d,a0,uI a7)
     .intro b;let(d,a0,a7):=eM.mp b;let(r1,p3,m3):=eM.mp (d3.mpr (eM.mpr (d,a0,by rw[a7])))
      let(j,c2,m1):=oA p3;show(j,c2,r1.2,by rw[gv c2,m1,<-m3])
    rw[q4];constructor
    .rintro(⟨⟨e,b0,o,l,c0⟩,e3⟩|⟨o,l⟩)
     .show((e,b0,by lia,l,c0),e3)
     .show((i,k2,by lia,f3,o),l)
    .intro ξ;let((e,b0,o,l,c0),e3):=ξ;by_cases y:e=i
     .subst y;rw[f3]at l;cases l;show .inr (c0,e3)
     .show .inl ((e,b0,by lia,l,c0),e3)
 .intro a5 v ξ;let(a2,s1,k3,a3,h5,(lk,n1,n2,n3,n4),o2,e8,0):=ξ;lk;show(x,lk,a2,Z,.inl n1,n2,λc f1=>(n4 c f1).1,λs4 e4 g3 i1 h8 p4 f0=>?_);let(d0,r5):=HW i1.length n3 h8 p4;let m2:e4.map pc=Cc B.langs C:=by
   show Eo d0 (ag0 _ _) λc=>?_;rw[r5 c,e8 c,ajZ,d2];simp only[ahg,agI];have:(bN λ(e:Nat) (P:cq)=>e<(a4.map V.ref).length/\E[e]?=Y P/\c∈k9 P)<->∃P∈E,∃d∈P.entries,d.key=c:=by
    constructor
    .intro ξ;let(e,b0,_,l,c0):=ξ;let(d,a0,a7):=eM.mp c0;show(b0,lW l,d,a0,a7)
    .intro ξ;let(b0,q1,d,a0,a7):=ξ;let(e,b3,m0):=oA q1;show(e,b0,by rw[ft,i3.length];show b3,by rw[gv b3,m0],eM.mpr (d,a0,a7))
   rw[this]
  let q0:D v g3 (.lst (e4.map λb=>V.ref b.1)) g3=Y (.lst ((e4.map fw).map V.ref)):=by rw[bD,mN];rfl
  show q3 P c6 g3 (e4.map fw) _ (f5.trans (a3.f7 f0)) ((f5.trans a3).no f0) q0 ?_;rw[<-m2];show(HY i1 h8).mono (Le.new f0)
end Sm
namespace L2
def aqC{a:Cx}{K:cp}{j:Nat}{n:Nat}{pos:Pos}(d:a.K=K)(e:a.f6=M)(h:FX a b c)(f:?arf ((Cd b a.env).length=n))(i:?arf ((Cd b a.env).findIdx? (·.1)=U)):PG a (.Tuple b j pos) (R0 K n c):=by subst d;show Jy e h f i
end L2
namespace Sm
inductive aq0(k:V)(l:V)(b:L)(j:VK)(o:XK):Prop
 |i (a d m f e n h) (_:k=?J) (_:l=?aY) (_:?gR) (_:rH a d m f) (_:rH a e n h) (_:∀c,Le b c->j (.bl (Nb f h)) c)
def asQ:Sp:=kq (aq0)
theorem apD(b a:Nat):TH ?cg (Ah ?aO)=?cg-((b&&&a:Nat):Int):=by
 let e:decide (0<=?cg)=M:=im (RD b);let c:Ah ?aO=-?aO-1:=rfl;let f:decide (0<=Ah ?aO)=I:=gu (by rw[c];lia)
 unfold TH;rw[e,f];let d:Ah (Ah ?aO)=?aO:=by
  change-(-?aO-1)-1=a
  lia
 change ?cg-(((b:Int).toNat&&&(Ah (Ah ?aO)).toNat:Nat):Int)=_;rw[d,uh,uh]
def Vk(a c:Nat):(?aO-((a&&&c:Nat):Int)=0)<->¬∃b,a.testBit b=M/\c.testBit b=I:=by
 let j:a&&&c<=a:=Nat.and_le_left;constructor
 .intro h ξ;let(b,e,f):=ξ;let d:a=a&&&c:=by lia
  have:=fL (λi=>i.testBit b) d;simp only[af3,e,f]at this;cases this
 intro h;let d:a&&&c=a:=Rf λb=>by
  rw[af3];rcases e:a.testBit b with _|_
  .rfl
  rcases f:c.testBit b with _|_
  .show bK (b,e,f) h
  rfl
 rw[d]
 lia
def rL(b c:jc)(a:Nat):Bool:=!decide (V.int (((IC a b:Nat):Int)-((IC a b&&&IC a c:Nat):Int))=V.int 0)
def aiE(h:l6 b):([rL b d 0,rL b d 1,rL b d 2].any id)=Nb b d:=by
 let i:∀c,rL b d c=M<->∃f,(IC c b).testBit f=M/\(IC c d).testBit f=I:=by
  intro c;unfold rL;rw[GL,decide_eq_false_iff_not];constructor
  .intro a;show Gi λe=>a (by rw[(Vk _ _).mpr e])
  intro a e;injection e with e;show(Vk _ _).mp e a
 rw[sZ,aks h];simp only[rX,ahR,id,Hb,GQ,i];constructor
 .rintro(a|a|a)
  .show(0,by decide,a)
  .show(1,by decide,a)
  show(2,by decide,a)
 intro ξ;let(c,j,a):=ξ
 match c,j with
 |0,_=>show ?ai
 |1,_=>show ?ab
 |2,_=>show .inr ?gO
def PN{f:Nat->V}{a:Nat}(h:a<3):[f 0,f 1,f 2][a]?=Y (f a):=by
 match a,h with
 |0,_=>rfl
 |1,_=>rfl
 |2,_=>rfl
example:fP Mn ah3 T.ail MB 1 "names_more" ((asQ)) ["message","other"] ["own","others"] (bw (dM (gq (anI Z) Z T.3 boot_any (?q (vB (ip:=[("own",2),("others",3)]) rO Z Z Z Mn.nd (asu Z T.ats (F ?l (?q (?cR ?a9)))) (rq (aM:=["message","other","own","others"]) (sc:=eO MB) ?w) (λ_ _ _ _ _=>(aqC (K:=g.K) (n:=2) Z Z (yV (?R 2 Mn.nd) (yV (?R 3 Mn.nd) IV)))) (λ_ _ _ _ _=>sr) (λ_ _ _ _ _=>(uG wH (jW asq ?dr (om as4 ?gH)) bP (fi _)))))))):=by
 let(a,a,a,a,b,b,b,0,0,o,d,e,c):=h;let(j,j,j,j,k,C,k,k,k,E,P):=d;let(d,d,d,k,d,X,d,d,d,d,l):=e;let e:=o _ _ C;let e:=o _ _ X;let u:=o _ _ E;let v:=o _ _ d;let d:=fU;lk;show(j,k,_,_,Z,cJ.of u,cJ.of v,λd o=>?_);show(λi z e=>z=3-i/\i<=3/\?eo e/\e d=Y (.lst ([V.bl (rL a b 0),V.bl (rL a b 1),V.bl (rL a b 2)].take i)),(3,Z,by lia,by simp_wf,bD),?_)
 intro i z e ξ;let(0,j,m,t):=ξ;let p:=m _ _ u;let q:=m _ _ v;by_cases r:i<3
 .let w:=PN (f:=λc=>V.int ((IC c a:Nat):Int)) r;let x:=PN (f:=λc=>V.int ((IC c b:Nat):Int)) r;show .inr ((_,_,_,_,cJ.of p,cJ.of q,w,x),λj=>i+1<=3/\?eo j/\j d=Y (.lst ([V.bl (rL a b 0),V.bl (rL a b 1),V.bl (rL a b 2)].take (i+1))),λj k=>(3-(i+1),by lia,Z,k),λk j j=>?_)
  let(B,x1,k,0,y,0,k,l):=j;let k:=k _ (cJ.of p);let l:=l _ (cJ.of q);rw[w]at k;rw[x]at l;cases k;cases l;let j:d≠B:=fO t y;show(_,_,Z,cZ.of bD,Z,_,_,Z,_,_,Z,Z,Z,?_);dsimp only[vI];rw[?eZ];lk;show(_,bO j t,?_,by lia,?_,?_)
  .rw[jR];simp;lia
  .show(m.f7 y).put o
  rw[bD];let j:=PN (f:=λc=>V.bl (rL a b c)) r;rw[take_snoc j];simp only[apD];rfl
 let j:i=3:=by lia
 subst j;show .inl ((_,_,cJ.of p,cJ.of q,.inl ?c),?_)
 show(d,[rL a b 0,rL a b 1,rL a b 2],Z,cJ.of t,?_);rw[aiE P];show c e m
def iG.aum(h:iG e f t k j c i w)(p:b∈c)(r:kE e f b y d x):d∈i:=by
 let(s,q,m):=oA p;let(a,u,a,_,n,_,o,_):=h.la.get (show c[s]?=Y b by rw[gv q,m])
 let(z,X,B,P,E,a,v,_):=r;let(A,a,C,T,H,a,a,_):=n;rw[v]at a;let l:d=u:=by lia
 rw[l];lia
def mq.R3(h:mq l d m r)(b:d f=Y (.dT o)):mq l (D d f (.eI q (.dT o))) m r:=by
 let(p,t,n):=h;let s:=n;let(u,C,v,B,w,E,i,x,y,z,A,j,_):=n;show(p,t,s.mono .refl (λc a=>?_) (λH a=>?_) (λc a=>?_))
 .rw[i]at a;cases a;show bO (?gf i b) i
 .by_cases e:p=f
  .subst e;rcases a with a|⟨c,a⟩
   .rw[b]at a;cases a;show .inr (q,bD)
   rw[b]at a;cases a
  rcases a with a|⟨c,a⟩
  .show .inl (bO e a)
  show .inr (c,bO e a)
 rw[j]at a;cases a;show bO (?gf j b) j
def tW(d:cq)(c:?t)(a:aP):Bool:=match d.entry a,uD a 0 c with
 |some b,Y e=>Nb b.msg e.2.2.msg
 |_,_=>I
def asp{a:?t}(l:R a<=12)(h:gt a b=Y c)(m:Rm.Way a b (c::e)):zo a b=(pJ a b).filter (tW c e):=by
 unfold zo;show RR λd _=>?_;let j:((gt a b).bind λ(c:cq)=>c.entry d)=c.entry d:=by rw[h];rfl
 let k:((Yw a b).bind λ(n:aP)=>Ch a n d)=uD d 0 e:=by
  have:Yw a b=c.back:=by unfold Yw;rw[h];rfl
  rw[this];cases m with
  |last o f=>rw[f];rfl
  |more o f i=>
   rw[f];change Ch a _ d=_;rw[Za,show oE a _=e from i.chain 12 (fZ i.len l)]
 rw[j,k];rfl
example:fP HA Xq T.akM XW 6 "odd_keys" ((G9 zo)) ["kit","tag"] ["way","odd","key","behind"] (bx (?n 2 HA.nd (?U T.rJ Aq hr (?q ?a9))) (bx (?n 3 HA.nd ?fc) (bx (IX (?fd (IW (?cR (?b ?dr bP))) (?R 4 HA.nd) (bx (?n 5 HA.nd (?aA TU (F (?iP ?dr) (?q (N 4))))) (bw (?cQ (PW.pt (sC (uK (F5 (N 5))) (ss (jD (?aA ah3 (F (?ak (?cR (?b ?dr bP)) (N 4)) (?q (?cR (N 5))))))))) (bw (dO (?aM ?gH (?q (N 4)))))))))) (bw (dM (gq ah8 Z T.Il MH (?q ?gH))))))):=by
 let(C,i2,k5,r6,k4,q1,b1,j9,b2,0,a8,0,n7,p2,p0):=h;let u1:=fU;let(s2,t1):=a8.hk;lk;show(C,i2,k5,k4,b1.langs,q1,j9,b2,Z,a8.r,Z,n7,p2,λk3 b0 e8 k2 t e5 t4 d7 e4 h0=>?_);let a9:=a8.ke.Ay b0;let t2:(oE b1.langs b2).length<=12:=fZ a9.len a8.ke.gM;lk;show(by decide,λd P=>?_)
 lk;let c0:=a8.mono e5;let h8:=e4.length;let(l,p,l9):bN λl p=>oE b1.langs b2=l::p:=by
  cases a4:oE b1.langs b2 with
  |nil=>rw[a4]at a9;show bK Z a9.ne
  |cons l p=>show(l,p,Z)
 rw[l9]at e4 h8 a9;let m1:l=k3:=by
  cases a9 with
  |last a _=>rw[b0]at a;show(gR a).symm
  |more a _ _=>rw[b0]at a;show(gR a).symm
 subst m1;let l4:=asp a8.ke.gM b0 a9;let(x,q,m0):bN λx q=>k2=x::q:=by
  cases k2 with
  |nil=>simp at h8
  |cons x q=>show(x,q,Z)
 subst m0;let((e,w4,d6),o7):mq C t x l/\jb (mq C t) q p:=by cases e4 with|cons r q6=>show(r,q6)
 let m2:=c0.free (h0 x ?c) d6
 let n4:=c0.aum (h0 x ?c) d6
 let m5:=c0.no e (by simp[n4])
 let(s0,w1,s7,v7,k,w3,f3,_,_,_,_,_,_,_,_,q2,b6):=d6;let X:t e=Y (.dT k):=by
  rcases q2 with a|⟨o,a⟩
  .show a
  .show bK a (m2 _ _)
 let l5:pJ b1.langs b2=l.entries.map Yp:=by unfold pJ;rw[b0];rfl
 let(a0,k0,q8,q9,k1):=b6.rows;let u3:R k<=48:=by rw[b6.len];show b6.gM
 let p1:R a0=R k:=by
  have:=fL R k0;simpa using this.symm
 let a1:d≠e:=λa=>by rw[a,X]at P;cases P
 let f0:d≠x:=λa=>by rw[a,f3]at P;cases P
 let f1:d≠e8:=λa=>by rw[a,d7]at P;cases P
 show(e,.dT k,bO (bI a1) X,trivial,λw=>?_);let d4:?di x=_:=bO (?L f3 X) (bO (bI f0) f3);let c1:?di e8=Y (.lst ((x::q).map V.ref)):=bO (?L d7 X) (bO (bI f1) d7);let a3:?di e=Y (?bt w):=bD;let g7:?di d=?j8:=bO a1 bD;let h9:∀c o,c≠e->t c=Y o->c≠d/\?di c=Y o:=λc o n b=>by
  let v:c≠d:=λa=>by rw[a,P]at b;cases b
  show(v,bO n (bO v b))
 let i4:∀c o,C c=Y o->c≠d/\?di c=Y o:=λc o b=>by
  let E:=c0.le _ _ b;let v:c≠d:=λa=>by rw[a,P]at E;cases E
  show(v,bO (λa=>by rw[a,m5]at b;cases b) (bO v E))
 let g3:∀m,(∀c o,c≠d->?di c=Y o->m c=Y o)->Le t (D m e (.dT k)):=by
  intro m f c o b;by_cases a5:c=e
  .rw[a5]at b ⊢;rw[X]at b;rw[bD];show b
  .let v:c≠d:=λa=>by rw[a,P]at b;cases b
   show bO a5 (f c o v (bO a5 (bO v b)))
 lk;show pV (cJ.of c1) (tF (n:=0) Z) ?_;lk;show(e,w,Z,.inr (k,a3,?_));generalize ?di=g1 at d4 c1 a3 g7 h9 i4 g3;show HQ (λy c6 m=>gG λz f4 f5=>(∀c o,c≠d->g1 c=Y o->m c=Y o)/\m d=Y (.lst (z.map V.ref))/\nz m z ((a0.take y).filter (tW l p))/\c6=[Y (.ref i2),Y (.ref j9),Y (.ref e8),Y ?J,f4,f5]) ([],U,U,λc o _ b=>b,g7,.nil,Z) (λy c6 m _ (_,_,_,f,_)=>f _ _ (bI a1) a3) ?_ ?_
 .intro y i1 w7 a4 c6 m h1 n5 ξ;let(z,f4,f5,a2,d1,c3,0):=ξ;let u2:y<R k:=(ig.mp h1).1;let(j,e3,l3):∃j,a0[y]?=Y j/\i1=bk j:=by
   let E:(k.map fw)[y]?=Y i1:=by rw[iC,h1];rfl
   rw[k0,iC]at E;cases g5:a0[y]? with
   |none=>rw[g5]at E;cases E
   |some j=>rw[g5]at E;show(j,Z,(gR E).symm)
  subst l3;let g9:=b6.find j;let(a7,d5,s3):∃a7,l.entry j=Y a7/\True:=by
   let n0:=(k1 j).mp (lW e3);let(b,m6,l1):=eM.mp n0;cases a4:l.entry j with
   |none=>show bK l1 (Nl.mp a4 b m6)
   |some a7=>show(a7,Z,trivial)
  rw[show l.entries.find? (λ(b:jz)=>b.key==j)=Y a7 from d5]at g9;let(_,_,q0,o2,n2):=g9;let t5:=a2 _ _ (bI f1) c1;let s8:=a2 _ _ (bI f0) d4;let t7:=a2 _ _ (bI a1) a3;let r5:=c3.length;let s5:((a0.take y).filter (tW l p)).length<=48:=by
   let m4:=Gq (tW l p) (a0.take y);rw[jR]at m4
   lia
  lk;rw[show oK ((x::q).map V.ref) (Y 1) U=q.map V.ref by rw[show ?em=((1:Nat):Int)from rfl,NF];rfl]
  intro a6 c2;let B:∀c o,c≠d->g1 c=Y o->?eI c=Y o:=λc o n b=>gc c2 (a2 c o n b);let d2:?eI d=Y (.lst (z.map V.ref)):=gc c2 d1;let e1:?eI a4=_:=gc c2 n5;let e2:=c3.mono (Le.new (o:=.lst (q.map V.ref)) c2);let h3:?eI a6=_:=bD;generalize ?eI=c7 at B d2 e1 e2 h3;let c4:∀c o,c≠e->t c=Y o->c7 c=Y o:=λc o n b=>let(v,e9):=h9 c o n b;B c o v e9
  let p4:jb (mq C c7) q p:=jb.lu o7 λg2 k3 a=>by
   let(j2,q7,h2):=a;let m3:=h2;let(r7,w0,s6,v0,u8,w2,r1,y2,y3,y4,y5,r2,y6,y7,y8,y0,y1):=h2;show(j2,q7,m3.mono .refl (λo b=>c4 _ _ (?L r1 X) b) (λw5 b=>?_) (λo b=>c4 _ _ (?L r2 X) b));by_cases a5:j2=e
   .rw[a5]at b ⊢;rcases b with b|⟨o,b⟩
    .rw[X]at b;cases b;show .inr (w,B _ _ (bI a1) a3)
    .rw[X]at b;cases b
   .rcases b with b|⟨o,b⟩
    .show .inl (c4 _ _ a5 b)
    .show .inr (o,c4 _ _ a5 b)
  lk;let i3:Le C c7:=λc o b=>let(v,e9):=i4 c o b;B c o v e9
  show(C,a6,q,p,a4,j,Z,cJ.of h3,p4,i3,Z,e1,?_);have skip:tW l p j=I->(a0.take (y+1)).filter (tW l p)=(a0.take y).filter (tW l p):=λa=>by
   rw[Ck e3,?it,mD]
  cases g8:uD j 0 p with
  |none=>
   intro b3 u;lk;let d0:tW l p j=I:=by unfold tW;rw[d5,g8]
   show(z,_,_,λc o n b=>u _ _ (B c o n b),u _ _ d2,?_,Z);rw[skip d0];show e2.mono u
  |some a=>
   let(n,x0,l0):=a;intro b3 s4 r4 p9 s1 u t0 t3 n3 t6;let d0:tW l p j=Nb a7.msg l0.msg:=by unfold tW;rw[d5,g8]
   let n1:=u _ _ (B _ _ (bI f1) c1);let s9:=u _ _ (B _ _ (bI f0) d4);let q5:Rd b3 e (.dT k):=.inr (w,u _ _ (B _ _ (bI a1) a3));let h5:=u _ _ e1;let p3:Le C b3:=i3.trans u;lk;show pV (cJ.of n1) (tF (n:=0) Z) ?_;lk;show(e,_,Z,.inr (k,bk j,a4,q5,Z,h5,o2.symm),?_);lk;show(C,q0,_,_,p9,_,_,Z,Z,p3,n2,n3,λr3 b5=>?_);let d3:=b5 _ _ (u _ _ d2);let h6:=b5 _ _ h5;let h7:=(e2.mono u).mono b5;rw[<-d0];lk;cases g4:tW l p j with
   |false=>
    lk;show(z,_,_,λc o n b=>b5 _ _ (u _ _ (B c o n b)),d3,?_,Z);rw[skip g4];show h7
   |true=>
    lk
    .rw[ft];lia
    show(z++[a4],_,_,λc o n b=>bO n (b5 _ _ (u _ _ (B c o n b))),?_,?_,Z)
    .rw[bD,iD];rfl
    .rw[Ck e3,bz g4];show vZ (jb.lu h7 λg2 j a=>bO (?L a d3) a) ?_;show bO (?L h6 d3) h6
 .intro c6 m ξ;let(z,f4,f5,a2,d1,c3,0):=ξ;show(a2 _ _ (bI a1) a3,?_);let g6:D m e (.dT k) d=_:=bO a1 d1;let b4:nz (D m e (.dT k)) z ((a0.take k.length).filter (tW l p)):=jb.lu c3 λg2 j a=>bO (?L a (a2 _ _ (bI a1) a3)) a;let e7:=g3 m a2;rw[<-p1,nP]at b4;generalize D m e (.dT k)=b3 at g6 b4 e7;lk;show(d,z,_,Z,cJ.of g6,b4.q,λj o3=>q9 j (tj.mp o3).1,λc5 f2 h4 n6 e0=>?_);let(q3,q4):=HW b4.length (q8.filter _) h4 n6;let l2:c5.map pc=zo b1.langs b2:=by
   rw[l4,l5];show Eo q3 (X9 _ b6.4) λj=>?_;rw[q4 j,tj,tj,k1 j]
  let o1:D b3 f2 (.lst (c5.map λa=>V.ref a.1)) f2=Y (.lst ((c5.map fw).map V.ref)):=by rw[bD,mN];rfl
  show p0 l b0 f2 (c5.map fw) _ (e5.trans (e7.f7 e0)) ((e5.trans e7).no e0) o1 ?_;rw[<-l2];show(HY b4 h4).mono (Le.new e0)
def arA(d:cp)(b:L)(e:V)(a:?bl):=bN λl c=>e=?bk/\cJ d b l (c.map V.ref)/\nz b c a/\R a<=1000/\(∀f∈a,R f<=1000)
def asP:Sp:=ic λd a c _=>∃b,arA g.K a d b/\zM a (yY b) c
example:fP awS HN T.al8 Zp 2 "line_of" ((asP)) ["fields"] [] (bw (dM (jW Pg (?aA RF (?q ?cJ)) (ib (?q (?Y T.Eg)))))):=by
 let(i,(l,m,0,p,q,u,j),r):=h;let w:=fU;lk;show(l,m,i,Z,p,q,u,j,λb k e v n=>?_);let x:=Nm i j;show(by change 1<=cw;decide,λc a=>?_)
 let o:D k c (.lst [.int 10]) b=_:=gc a n;show(b,c,_,_,Z,Z,o,bD,by rw[gZ];simp;lia,λt d=>?_)
 show r t _ ((e.f7 a).f7 d) ((e.f7 a).no d) ?_;rw[bD,E9];simp only[kF,iD];rfl
def Ij(a:?bl)(h:∀b∈a,R b<=1000):(yY a).length<=1001*R a+1:=by
 have:=Nm a h;rw[E9,iA];simp
 lia
theorem Iw:jN "-" [45]:=?g
theorem Wb:jN "language" ?a5:=?g
theorem B7:jN "rule" ?dw:=?g
theorem Xg:jN "message" ?bp:=?g
theorem K2:jN "say" ?e3:=?g
def apV(h:a≠[]):xF a=xZ a:=by
 unfold xF;rw[bp ?dy]
 rfl
structure K6(b:L)(f:S)(a:cq):Prop where
 obj:vJ λh e c d j i=>b f=Y (?A h (iX ?aY c ?J ?dh ?iB))/\b e=Y (.tup (bT a.tag))/\sw b c a.back/\b d=Y (.tup (bT a.ways.sep))/\a.ways.sep.length<=4
 tag:a.tag.length<=12
 back:(?g9).length<=12
def alz:Sp:=ic λe b d _=>bN λc a=>e=?aC/\K6 b c a/\zM b (yY [?a5,a.tag,?g9,xF a.3.sep]) d
example:fP SY agh T.ago Tz 3 "language_line" ((alz)) ["language"] ["fallback","separator"] (bx (?n 1 SY.nd (vA (qI (?B (zx hr.units) ?l ?cH) (?aA qc (?q (?Y T.HS))) ?l))) (bx (?n 2 SY.nd (vA (qI (Cu ?l ?dz) (?aA afI (?q ?l)) (?aA qc (?q (?Y T.HS)))))) (bw (dM (?aA HN (?q (ib (F (?aA qc (?q (?Y T.Xy))) (F ?l (?fE ?a9)))))))))):=by
 let(a,e,0,((a,u,a,a,a,a,z,E,n,P,a),a,a),a0):=h;let(y,0,a):=n.sq;lk;show(λv b=>?eo b/\∃f,v=?bL/\b f=Y (.tup (bT (e.back.getD [45]))),?_,?_)
 .lk;show xY (w:=[]) a (T.Cw H) ?_;lk;rcases x:e.back with _|d
  .show ?fU;lk;show(_,[45],Z,Iw,λf b j a=>(j,f,Z,a))
  rw[x]at n;let(c,a,X,c):=n;cases a;rw[show(decide ((Y d:Option aP).getD []=[]))=I from gu c];show ?gd;lk;show(.refl,y,Z,X)
 intro v t ξ;let(o,f,0,n):=ξ;let B:=o _ _ z;let r:=o _ _ P;lk;show(λv b=>Le t b/\∃f,v=?bL/\b f=Y (.tup (bT (xF e.3.sep))),?_,?_)
 .lk;by_cases c:e.3.sep=[]
  .show(I,.inr (.inl (_,cZ.of r,by rw[c];rfl)),?_)
   lk;show(_,[45],Z,Iw,λf b j a=>(j,f,Z,by rw[c];show a))
  show(M,.inr (.inl (_,cZ.of r,?_)),?_)
  .rcases a:e.3.sep with _|⟨_,_⟩
   .show bK a c
   rfl
  lk;show(by lia,λf b j a=>(j,f,Z,by rw[apV c];show a))
 intro v a ξ;let(q,a,0,j):=ξ;let C:=q _ _ B;lk;show(_,?a5,Z,Wb,λw b m k=>?_);let b:=m _ _ C;lk;show(by change 4<=cw;decide,λl d=>?_)
 lk;let p:=o.trans (q.trans m);let b:(xF e.3.sep).length<=8:=by
  unfold xF;split
  .simp
  rw[List.length_flatMap];have:∀l:aP,(l.map λc=>([vm (c.toNat/16),vm (c.toNat %16)]:aP).length).sum=2*R l:=by
   intro l
   induction l with
   |nil=>rfl
   |cons c l ih=>rw[iF,DV,ih];simp;lia
  rw[this]
  lia
 show(_,(l,[w,u,f,a],Z,?fV,?_,by simp,?_),λe u c a b=>a0 e u ((p.f7 d).trans c) ((p.f7 d).no a) b)
 .show .cons (gc d k) (.cons (gc d (?il E)) (.cons (gc d (m _ _ (q _ _ n))) (?c2 (gc d (m _ _ j)))))
 intro w k;simp only[bM,kK,or_false]at k;rcases k with rfl|rfl|rfl|rfl
 .decide
 .lia
 .lia
 lia
def pR(a:j3):?dK:=[a.category,if a.ends=M then 1 else 0,if a.outside=M then 1 else 0,a.modulus,a.low,a.high]
theorem apn(a:j3):[V.int a.category,V.int (vL a.ends),V.int (vL a.outside),V.int a.modulus,V.int a.low,V.int a.high]=(pR a).map nV:=by unfold pR vL nV;cases a.ends<;>cases a.outside<;>rfl
theorem WE(a:Nat):qg ?aO=wd a:=by
 unfold qg
 simp
def alG:Sp:=ic λf b d _=>bN λc a=>f=?aC/\sx b c a/\(∀e∈pR a,e<10^40)/\zM b (BZ a) d
example:fP VZ ajr T.ajJ MU 3 "rule_line" ((alG)) ["term"] ["number"] (bw (dM (?aA HN (?q (jW Pg (ib (?q (?aA qc (?q (?Y T.L7))))) (vB (ip:=[("number",1)]) rO Z Z Z VZ.nd (tI (?aA ah4 (?q ?cJ))) (rq (aM:=["term","number"]) (sc:=eO MU) ?w) (λ_ _ _ _ _=>(?R 1 VZ.nd)) (λ_ _ _ _ _=>sr) (λ_ _ _ _ _=>(?aA Hn (?q ?a9) (O:=JI))))))))):=by
 let(a,b,0,a1,a2,a8):=h;let c0:=fU;lk;show(_,?dw,Z,B7,λc H1 c1 a7=>?_);show(by change 1<=cw;decide,λl a3=>?_)
 lk;let a9:?eo (D H1 l (.lst [?aC])):=by simp_wf
 show(a,b,Z,a1.mono a9,λe B=>?_);rw[apn];let z:?bN l=Y (.lst [?aC]):=gc B bD;let E:?bN c=Y (.tup (bT ?dw)):=gc B (gc a3 a7);let v:?bN e=Y (.lst ((pR b).map nV)):=bD;let w:?eo ?bN:=by simp_wf
 generalize ?bN=x at z E v w;let c2:(pR b).length=6:=rfl;show(e,Z,(_,cJ.of v),λaE y=>?_);show Fh (K:=g.K) (a:=e) (xs:=(pR b).map nV) (H1:=x) (aE:=aE) (λi j=>Le x j/\∃k:List S,j aE=Y (.lst (k.map V.ref))/\nz j k (((pR b).take i).map wd)) (Le.new y,[],bD,.nil) (λi j _ a0=>cJ.of (a0.1 _ _ v)) ?_ ?_
 .intro i c3 j O ξ;let(n,k,p,m):=ξ;rw[iC]at O;cases o:(pR b)[i]? with
  |none=>rw[o]at O;cases O
  |some P=>
   rw[o]at O;cases O;let b5:i<6:=by have:=(ig.mp o).1;lia
   show(rfl,?_);dsimp only[vI];rw[?eZ];lk;show(by have:=a2 P (lW o);simpa using this,λt b4 q C=>?_)
   let u:=m.length;let b2:t≠aE:=gW C (q _ _ p) (λd=>nomatch d);show(_,q _ _ p,?_,(n.trans q).put y,k++[t],?_,?_)
   .rw[ft,u,ft,jR];lia
   .rw[bD,iD];rfl
   .rw[take_snoc o,iD];show vZ (jb.lu (m.mono q) λa c d=>bO (gW d (q _ _ p) (λd=>nomatch d)) d) ?_;rw[<-WE];show bO b2 C
 .intro j ξ;let(n,k,p,m):=ξ;rw[ft,nP]at m;let u:=m.length;rw[ft]at u;show(l,aE,_,_,Z,Z,?cA z,p,by simp;lia,λt r=>?_)
  show(_,Z,?dw::(pR b).map wd,(t,c::k,Z,?fV,.cons (gc r (?cA E)) (m.mono (Le.new r)),by simp;lia,?_),λb3 X b0 a4 a5=>a8 b3 X (((w.trans n).f7 r).trans b0) (((w.trans n).f7 r).no a4) a5)
  intro P a6;rcases bM.mp a6 with d|d
  .rw[d];decide
  .let(b1,b6,0):=eM.mp d;have:=Ap 40 b1;show fZ this ?d
inductive akm(h:V)(j:V)(b:L)(f:VK)(l:XK):Prop
 |i (e c d a k) (_:h=?aY) (_:b e=?a1) (_:c.length<=24) (_:j=?J) (_:rH b d a k) (_:a.length<=1024) (_:zM b (yY [?bp,c,wd a.length]++(a++[10])) f)
def alD:Sp:=kq (akm)
example:fP af0 agi T.agp TB 3 "message_lines" ((alD)) ["key","message"] ["lines"] (bx (?n 2 af0.nd (?aA HN (?q (ib (F (?aA qc (?q (?Y T.YS))) (F ?cJ (?q (?aA Hn (?q (?y (?q (?cR ?a9)))))))))))) (bx (dO (?eb En ?dr (?q (?cR ?a9)))) (?jn (dO (?aM ?dr (?q (?Y T.Eg))))))):=by
 let(k,d,a,c,a,0,B,a,0,(a,x,a,a,a,o,p,a,a,a,a),a,E):=h;let a:=fU;lk;show(_,?bp,Z,Xg,λm a e C=>?_);let a:=?dl o;let a:=?dl p;lk;rw[gZ];show(by simp;lia,λb a w t=>?_)
 show(by change 3<=cw;decide,λl a=>?_)
 lk;rw[WE]at t;let j:=e.trans w;let r:∀y∈[gO "message",d,wd c.length],R y<=1000:=by
  intro y v;simp only[bM,kK,or_false]at v;rcases v with rfl|rfl|rfl
  .decide
  .lia
  have:=Ap 40 c.length;show fZ this ?d
 show([?bp,d,wd c.length],(l,[m,k,b],Z,?fV,.cons (gc a (w _ _ C)) (.cons (gc a (j _ _ B)) (?c2 (gc a t))),by simp,r),λb n P z u=>?_)
 let X:=Ij _ r;simp only[lO,uX]at X;let k:?eo n:=(j.f7 a).trans P;let e:=?is o;let q:=?is p;let e:x≠b:=gW q u (λe=>nomatch e);let m:=(j.f7 a).no z;lk;show(b,x,_,_,Z,Z,u,cZ.of q,by rw[gZ,gZ];lia,?_)
 let a:D n b (.lst (bT (yY [?bp,d,wd c.length])++bT c)) b=_:=bD;lk
 .rw[iA,gZ,gZ];lia
 lk;show E b _ ?_ m ?_
 .show(k.put m).put m
 rw[bD];simp only[kF,iD,sY];rfl
theorem EQ.ns(h:EQ c):∀b∈pR c,b<10^40:=by
 intro b a;let(d,e,f,i):=h;unfold pR at a;simp only[bM,kK,or_false]at a;rcases a with rfl|rfl|rfl|rfl|rfl|rfl
 .lia
 .grind
 .split<;>decide
 .lia
 .lia
 lia
def Ht(b:j3):(BZ b).length<=7100:=by
 let h:=Ij (?dw::(pR b).map wd) (by
  intro f c;rcases bM.mp c with a|a
  .rw[a];decide
  let(d,e,0):=eM.mp a;show fZ (Ap 40 d) ?d)
 show fZ h (by simp[pR])
def Mj{a:jz}(h:R a.text<=1024)(d:R a.key<=24):(Ec a).length<=4100:=by
 let c:=Ij [?bp,a.key,wd a.text.length] (by
  intro e b;simp only[bM,kK,or_false]at b;rcases b with rfl|rfl|rfl
  .decide
  .lia
  show fZ (Ap 40 _) ?d)
 unfold Ec;simp at c ⊢
 lia
theorem yS{b:Type}{f:b->aP}{m:Nat}:∀{l:List b},(∀a∈l,(f a).length<=m)->(l.flatMap f).length<=m*R l
 |[],_=>by simp
 |a::l,h=>by
  let e:=h a ?c
  let i:=yS (l:=l) λd c=>h d (gY _ c);rw[Lu,iA,lO,Nat.mul_add]
  lia
def FP(a:cq):=R a.tag<=12/\(?g9).length<=12
theorem mq.rd(h:mq c a d b)(l:Le c a)(e:FP b):K6 a d b:=by let(j,s,f,r,i,q,t,A,k,m,n,o,p,w,x,y,z,u,v):=h;show((f,r,i,q,s,j,k,?c5 m,n.mono l,?c5 o,p),e.1,e.2)
def Vw(d:FP a)(h:R a.3.sep<=4):(yY [?a5,a.tag,?g9,xF a.3.sep]).length<=4100:=by
 let e:=Ij [?a5,a.tag,?g9,xF a.3.sep] (by
  intro i c;simp only[bM,kK,or_false]at c;rcases c with rfl|rfl|rfl|rfl
  .decide
  .have:=d.1;lia
  .have:=d.2;lia
  unfold xF;split
  .simp
  have:=yS (f:=λb:UInt8=>[vm (b.toNat/16),vm (b.toNat %16)]) (m:=2) (l:=a.3.sep) (λ_ _=>by simp)
  show fZ this ?d)
 show fZ e ?c
def akj:Sp:=ic λf a e _=>gG λc d b=>f=?J/\Le c a/\mq c a d b/\FP b/\zM a (DP b) e
example:fP LD afJ T.afN SR 4 "language_lines" ((akj)) ["language"] ["lines","term","key"] (bx (?n 1 LD.nd (?aA agh (?q ?cJ))) (bx (?fd (tI ?l) (?R 2 LD.nd) (bw (dO (?eb yP ?a9 (?q (?aA ajr (?q ?dr))))))) (?cz (?fd (tI (gq (Ms Z) Z T.Il MH (?q ?l))) (?R 3 LD.nd) (bw (dO (?eb yP ?a9 (?q (?aA agi (F ?gH (?q (?ak ?l ?gH)))))))))))):=by
 let(b,a,e,0,a2,b,c,a9):=h;let d:=fU;let d:=b.rd a2 c;let(a6,p,d,d,d,d,a5,k,a3,d,d,d,d,r,n,j,z,a7,q):=b;let b:=Vw c d;generalize a4:yY [?a5,e.tag,e.back.getD [45],xF e.3.sep]=C at b;lk;intro j b l X b;rw[a4]at b;let c:=?c5 a3;let E:=n.length;lk;show ?iM p (xs:=k.map V.ref) (λi k p=>?eo p/\p j=Y (.lst (bT (C++(e.3.rules.take i).flatMap BZ)))/\bN λd c=>k=[Y ?s,Y ?dh,d,c]) (l,by rw[LX];simpa using b,U,U,Z) (λi k p _ b=>cJ.of (b.1 _ _ r)) ?_ ?_
 .intro i d k v x ξ;let(t,B,P,a1,0):=ξ;let(u,y,0):=wt x;let(r,l,w):=pK n y;let a8:i<R e.3.rules:=(ig.mp l).1;let n:((e.3.rules.take i).flatMap BZ).length<=7100*32:=by
   show fZ (yS (m:=7100) λr _=>Ht r) (BE _ ?_);rw[jR]
   lia
  let y:=Ht r;lk;show(u,r,Z,w.mono (a2.trans t),(z r (lW l)).ns,λa0 y u z z=>?_);show(j,a0,_,_,Z,Z,u _ _ B,z,?_,?_)
  .rw[gZ,gZ,iA];lia
  show((t.trans u).put X,?_,_,_,Z);rw[bD,take_snoc l];simp only[kF,iD,GA,sY];simp
 intro k v ξ;let(t,B,P,a1,0):=ξ;rw[ft,E,nP]at B;let n:(e.3.rules.flatMap BZ).length<=7100*32:=by
  show fZ (yS (m:=7100) λr _=>Ht r) (BE _ ?_)
  lia
 let(z,n,a1,r,b1):=q.rows;let l:=t _ _ a3;let l:=Rd.mono a7 t;lk;show(a6,a5,z,Z,l,n,r,λl n l w r E z=>?_);let(P,b0):=HW w.length a1 r E;let a1:n.map pc=e.entries.map Yp:=Eo P q.4 λE=>(b0 E).trans (b1 E);let P:=HY w r;rw[a1]at P;let r:D v l ?bJ l=Y (.lst ((n.map fw).map V.ref)):=by rw[bD,mN];rfl
 let a1:D v l ?bJ j=_:=gc z B;let u:?eo (D v l ?bJ):=t.f7 z;let E:=P.mono (Le.new (o:=?bJ) z);let t:l≠j:=λc=>by rw[c,B]at z;cases z
 generalize D v l ?bJ=y at r a1 u E;generalize n.map fw=n at r E;let v:=E.length;rw[ft]at v;show(l,Z,(_,cJ.of r),?_);show ?iM l (xs:=n.map V.ref) (λi k p=>(∀d o,d≠j->y d=Y o->p d=Y o)/\p j=Y (.lst (bT ((C++e.3.rules.flatMap BZ)++(e.entries.take i).flatMap Ec)))/\bN λd c=>k=[Y ?s,Y ?dh,d,c]) (λd o _ b=>b,by rw[LX];simpa using a1,_,_,Z) (λi k p _ b=>cJ.of (b.1 _ _ t r)) ?_ ?_
 .intro i d k n x ξ;let(w,l,b0,b1,0):=ξ;let(t,p,0):=wt x;let(r,y,r):=pK E p;rw[iC]at y;rcases x:e.entries[i]? with _|b
  .rw[x]at y;cases y
  rw[x]at y;cases y;let p:=lW x;let(B,z,y):=q.has b p;let P:=q.sz b p;let a8:i<R e.entries:=(ig.mp x).1;let p:=q.gM;let p:((e.entries.take i).flatMap Ec).length<=4100*48:=by
   show fZ (yS (m:=4100) λC e=>Mj (q.sz C (Gv e)).1 (q.sz C (Gv e)).2.2.1) (BE _ ?_);rw[jR]
   lia
  let e:=Mj P.1 P.2.2.1;let e:?eo n:=λd o b=>w d o (λc=>by rw[c,X]at b;cases b) (u _ _ b)
  let p:=w _ _ (gW r a1 (λc=>nomatch c)) r;let q:=?dl a3;lk;show(a6,_,Z,.inr (a5,bk b.key,t,Rd.mono a7 e,Z,p,z.symm),?_);lk;show(t,b.key,B,b.text,b.msg,Z,p,P.2.2.1,Z,y.mono (a2.trans e),P.1,λa0 q p e e=>?_);let e:q a0=Y (.lst (bT (Ec b))):=e;show(j,a0,_,_,Z,Z,?il l,e,?_,?_)
  .rw[gZ,gZ,iA,iA];lia
  show(λd o e C=>bO e (?il (w d o e C)),?_,_,_,Z);rw[bD,take_snoc x];simp only[kF,iD,GA,sY];simp
 intro k n ξ;let(w,l,b0,b1,0):=ξ;rw[ft,v,nP]at l;lk;show a9 j n (λd o b=>w d o (λc=>by rw[c,X]at b;cases b) (u _ _ b)) X ?_
 rw[l];unfold DP;rw[a4,sY]
def YH{c:?aD}{d:?t}{a:Nat}(l:R c=R d)(h:(hG c d)[a]?=Y (j,k)):bN λb e=>c[a]?=Y b/\d[a]?=Y e/\j=bk e.tag/\k=?av:=by
 unfold hG at h;rw[List.getElem?_zipWith]at h;rcases f:c[a]? with _|b
 .rw[f]at h;cases h
 rcases i:d[a]? with _|e
 .rw[f,i]at h;cases h
 rw[f,i]at h;let h:=gR h;show(b,e,Z,Z,(fL fw h).symm,(fL pc h).symm)
theorem Kept.wr(d:Rm.Kept f)(e:a∈f):FP a:=by
 let o:∀{j:aP},fh j=M->R j<=12:=λ{j} h=>by
  unfold fh at h;simp only[ik,ja]at h;show h.2.1
 show(o (d.tag a e),?_);rcases l:a.back with _|q
 .simp
 let(s,p):=d.way a e;let m:=Hz d.tags e;cases p with
 |last b c=>rw[m]at b;cases b;rw[l]at c;cases c
 |more b c r=>
  rw[m]at b;cases b;rw[l]at c;cases c;let(k,n):∃k,gt f q=Y k:=by
   cases r with
   |last i _=>show(_,i)
   |more i _ _=>show(_,i)
  have:=o (d.tag k (Ih n));rw[xB n]at this;lia
def Vx(h:mq e f i a)(n:FP a):(DP a).length<=500000:=by
 let(u,T,o,H,p,E,s,P,v,x,y,z,j,A,B,k,C,w,b):=h;let t:=Vw n j;let q:(a.3.rules.flatMap BZ).length<=7100*32:=fZ (yS (m:=7100) λl _=>Ht l) (BE _ k);let r:(a.entries.flatMap Ec).length<=4100*48:=fZ (yS (m:=4100) λc d=>Mj (b.sz c d).1 (b.sz c d).2.2.1) (BE _ b.gM);unfold DP;rw[iA,iA]
 lia
inductive arh(h:V)(a:L)(f:VK)(j:XK):Prop
 |i (c dl d b e) (_:h=.ref dl) (_:Le c a) (_:a dl=Y (.dT (hG d b))) (_:c dl=U) (_:jU c a d b e) (_:dl∉e) (_:Rm.Kept b) (_:zM a (Sk.textOf b) f)
def asU:Sp:=ic (arh)
example:fP Rq Z4 T.Z6 Ry 5 "text_of_languages" ((asU)) ["languages"] ["text","tag"] (bx (?n 1 Rq.nd (?aA HN (?q (ib (?q (?aA qc (?q (?Y T.L6)))))))) (?cz (IX (?fd (IW ?cJ) (?R 2 Rq.nd) (bw (dO (?eb yP ?a9 (?q (?aA afJ (?q (?ak ?cJ ?dr))))))))))):=by
 let(y,e,o,k,d6,0,d4,b2,e3,b4,e7,z,g3):=h;let k3:=fU;let i4:=z.gM;let c4:=b4.length;let e4:=Ey c4;lk;show(_,?e3,Z,K2,λg9 h6 d2 g2=>?_);show(by change 1<=cw;decide,λl B=>?_)
 lk;show([?e3],(l,[g9],Z,?fV,?c2 (gc B g2),by simp,λm5 g1=>by rw[lX.mp g1];decide),λj v g4 f0 f1=>?_)
 let a4:?eo v:=(d2.f7 B).trans g4;let C:H j=U:=(d2.f7 B).no f0;let e5:=a4 _ _ b2;let a2:j≠e:=λd=>by rw[d,b2]at C;cases C
 lk;show(e,_,e5,trivial,λq=>?_);let X:D v e ?c6 e=Y ?c6:=bD;let b5:D v e ?c6 j=_:=bO a2 f1;let a5:jU y (D v e ?c6) o k d6:=b4.mono .refl λb a0 c a=>bO (λd=>e7 (d▸a0)) (a4 _ _ a);let d5:Le y (D v e ?c6):=λb c a=>bO (λd=>by rw[d,e3]at a;cases a) (a4 _ _ (d4 _ _ a))
 let f2:∀b∈d6,b≠j:=λb a0 d=>by
  have:=b4.has b a0;rw[d,C]at this;show this rfl
 let c3:∀n,(∀b c,b≠j->D v e ?c6 b=Y c->n b=Y c)->?eo (D n e (.dT (hG o k))):=by
  intro n f b c a;by_cases b1:b=e
  .rw[b1]at a ⊢;rw[b2]at a;rw[bD];show a
  .show bO b1 (f b c (λd=>by rw[d,C]at a;cases a) (bO b1 (a4 _ _ a)))
 lk;show(e,q,Z,.inr (_,X,?_));generalize D v e ?c6=b0 at X b5 a5 d5 c3;show HQ (λa1 a9 n=>(∀b c,b≠j->b0 b=Y c->n b=Y c)/\n j=Y (.lst (bT (yY [?e3]++(k.take a1).flatMap DP)))/\∃b,a9=[Y ?aY,Y ?dh,b]) (λb c _ a=>a,by rw[LX];simpa using b5,U,Z) (λa1 a9 n _ a=>a.1 _ _ (bI a2) X) ?_ ?_
 .intro a1 k4 m6 g6 a9 n e8 f4 ξ;let(p,a3,h1,0):=ξ;let(h8,x,k0,b6,0,0):=YH c4 e8;let c0:=lW b6;let k1:a1<R k:=(ig.mp b6).1;let b3:=Hz z.tags c0;let(r,c7,c6):∃r,eQ (hG o k) (bk x.tag)=?jW/\mq y b0 r x:=by
   rcases a5.find x.tag with⟨t,_⟩|⟨d1,r,h0,u,E,a7,e1,P,c2,a8,_⟩
   .rw[b3]at t;cases t
   .rw[b3]at P;cases P;show(r,c2,u,E,a8)
  let l2:=Vx c6 (Kept.wr z c0);let l3:((k.take a1).flatMap DP).length<=500000*12:=by
   show fZ (yS (m:=500000) λb a0=>?_) (BE _ (by rw[jR];lia))
   let d0:=Gv a0;let c5:=Hz z.tags d0;rcases a5.find b.tag with⟨t,_⟩|⟨d1,h9,h0,u,E,a7,e1,P,c2,a8,_⟩
   .rw[c5]at t;cases t
   .rw[c5]at P;cases P;show Vx (u,E,a8) (Kept.wr z d0)
  let f3:∀b c,y b=Y c->b≠j:=λb c a d=>by
   have:=d4 _ _ a;rw[d,C]at this;cases this
  let e9:mq y n r x:=by
   let(u,E,B):=c6;let e2:=B;let(i2,m0,j2,l5,l0,m2,a7,e1,P,c2,a8,n6,n7,o1,o2,h5,n5):=B;let c1:∀b,(∃c,b0 b=Y c/\∀h4,c≠.lst h4)->b≠j:=λb (c,a,a6) d=>by rw[d,b5]at a;show a6 _ (gR a).symm
   let g5:E≠j:=by
    rcases a5.find x.tag with⟨t,_⟩|⟨d1,i1,x2,l4,g8,n0,n1,n2,e0,h2,n3,n4,h3⟩
    .rw[b3]at t;cases t
    .rw[c7]at e0;cases e0;let(i3,m1,j9,l9,k5,m3,w,_):=h2;rw[a7]at w;injection w with w;injection w with _ _ w;simp only[iX,Tb,Hc,V.ref.injEq,mj,kY]at w;rw[w.2.2.2.1];show f2 g8 h3
   show(u,E,e2.mono .refl (λc a=>?il (c1 r (_,a7,λ_ d=>nomatch d)) a) (λm4 a=>?_) (λc a=>?il g5 a));let d7:u≠j:=by
    rcases h5 with d|⟨c,d⟩
    .show c1 u (_,d,λ_ d=>nomatch d)
    .show c1 u (_,d,λ_ d=>nomatch d)
   rcases a with a|⟨c,a⟩
   .show .inl (?il d7 a)
   .show .inr (c,?il d7 a)
  lk;show(e,_,Z,.inr (_,bk x.tag,g6,.inr (q,?il (bI a2) X),Z,f4,c7.symm),?_);lk;show(y,r,x,Z,λb c a=>?il (f3 b c a) (d5 _ _ a),e9,Kept.wr z c0,λg7 h7 d3 k2 f5=>?_);let l1:(yY [?e3]).length<=10:=by decide
  show(j,g7,_,_,Z,Z,d3 _ _ a3,f5,?_,?_)
  .rw[gZ,gZ,iA];lia
  show(λb c a6 a=>bO a6 (d3 _ _ (p b c a6 a)),?_,_,Z);rw[bD,take_snoc b6];simp only[kF,iD,GA,sY];simp
 .intro a9 n ξ;let(p,a3,h1,0):=ξ;rw[e4,nP]at a3;show(?il (bI a2) X,?_);lk;show g3 j _ (c3 n p) C (bO a2 a3)
def D0(h i:L)(e:S)(j:?aD)(m:nW)(k:L->Prop):=∀b a d c l f,iG b a e d c l f m->tS h i j b a (e::d::c::f)->k a
def pp(a:aP):Option aP:=if a.isEmpty=M then U else Y a
def YC(a:aP):(pp a).getD []=a:=by cases a<;>rfl
theorem sw.of{c:L}(h:c a=?bU):sw c ?s (pp b):=by
 rcases b with _|⟨e,d⟩
 .show(a,Z,cZ.of h)
 show(a,Z,h,by simp)
def Jj(b:?t)(c a:aP):=a=[]\/((gt b a).isSome=M/\((oE b a).map qD).contains c=I)
inductive alI(s:V)(u:V)(r:V)(t:V)(c:L)(l:VK)(h:XK):Prop
 |i (f d dl j q k st o b m a n e) (_:s=?J) (_:iG f c d dl j q k st) (_:u=?j1) (_:c o=?bU) (_:r=?d6) (_:c m=?bo) (_:t=?jN) (_:c n=Y (.tup (bT e))) (_:fh b=M) (_:e.length<=4) (_:(a≠[]->?aU a=U->?dp c h)) (_:(a≠[]->(?aU a).isSome=M->((oE st.langs a).map qD).contains b=M->XR g.uu c (-5) [] h)) (_:(Jj st.langs b a->?aU b=U->12<=st.langs.length->XR g.f8 c (-9) [] h)) (_:(Jj st.langs b a->(?aU b).isSome=M->D0 f c d (d::dl::j::k) {st with langs:=we st.langs b λp=>{p with back:=pp a,ways:={p.ways with sep:=e}}} (l (.bl M)))) (_:(Jj st.langs b a->?aU b=U->st.langs.length<12->D0 f c d (d::dl::j::k) {st with langs:=st.langs++[(b,pp a,(e,[]),[])]} (l (.bl I))))
def anf:Sp:=Bl (alI)
def tS.of_le(l:Le i k)(e:tS f k m h j n):tS f i m h j n:=(λa c p b=>e.fr a c p (?c5 b),λa c b=>(e.gr a c b).imp id λq=>q.imp (λd=>l.no d) id,λa o=>(e.mo a o).imp id λd=>l.no d)
theorem Mt{a:?t}:(a.map qD).contains b=a.any λc=>c.tag==b:=by
 induction a with
 |nil=>rfl
 |cons c a ih=>grind
def Cv(h:gt c a=Y b):b.tag=a:=xB h
example:oj Rz Ln T.Ln RH 7 g.jG "set_language" ((anf)) ["self","tag","fallback","separator"] ["was_there","language"] (bx (dO (?U T.rJ KS hr (?fE ?a9))) (bx (?n 4 Rz.nd (Pi (Ju (lc hr) ?a9 ?l))) (bx (?cQ (nY (jD (N 4))) (bw (dO (?aA TR (F ?l (?q ?a9)))))) (bx (?n 5 Rz.nd (?ak ?l ?a9)) (bx (fV (N 5) ?dr Z) (bx (fV (N 5) ?gH Z) (bw (dM (N 4))))))))):=by
 let(z,E,l,B,c0,a0,d5,u,a1,p,v,P,b3,0,C,0,b1,0,a,0,b,f1,e4,c,d,e5,d7,f2):=h;let(e,e1):=C.hk;lk;show(_,_,_,Z,z,E,l,c0,d5.langs,a0,u,a1,p,v,Z,C.r,Z,b1,Z,a,c,d,λb0 r X=>?_);let j:=C.mono X;let(c,f0):=j.hk;lk;show(l,_,Z,.inr (_,bk a1,u,.inl j.hd,Z,X _ _ b1,Z),?_);lk;let e0:=X _ _ a;let e3:=X _ _ b;let a7:=X _ _ b1;let a9:=j.hd;rcases j.la.find a1 with⟨a3,a4⟩|⟨i,c,x,_,_,a,b6,a3,a4,_⟩
 rotate_left 1
 .let(e,d,k,q,c3,a8,c6,c7,b,fin):=j.set a b6;let(n,a5,b,w,b4,e9,c5,d3,a,a,a,d2,d6,e7,e8,d0,d1):=k;rw[a4];lk;show(l,?aC,Z,.inr (_,bk a1,u,.inl a9,Z,a7,a4.symm),?_);lk;let e2:D r c _ c=Y _:=bD (o:=?A n ?bu);lk;generalize k:D r c (?A n ?bu)=a2 at e2;let t:∀y o,y≠c->r y=Y o->D a2 c (?A n (?ev ?bu)) y=Y o:=λy o a6 a=>by
   rw[<-k];show bO a6 (bO a6 a)
  generalize b5:D a2 c (?A n (?ev ?bu))=m at t;let c1:m c=Y (?A n (iX (.ref a5) ?jV (.ref P) ?J ?aY)):=by rw[<-b5];show bD
  let c2:Le z m:=λy o a=>t y o (λb=>by rw[b,j.no c (by simp[q])]at a;cases a) (j.le _ _ a)
  let d4:∀{y q},r y=Y (.tup q)->y∉d::E::l::B::a0:=λ{y q} a b=>by
   rcases ?i3 with k|k
   .show j.uO a (by rw[k];simp[a8])
   show j.uO a k
  let b2:Le z (b9 z r m (d::E::l::B::a0)):=xK λy c4=>by
   rcases bM.mp c4 with k|k
   .rw[k];show j.no d (by simp[a8])
   show j.no y k
  let a8:∀{y q},r y=Y (.tup q)->b9 z r m (d::E::l::B::a0) y=Y (.tup q):=λ{y q} a=>xJ c2 (t y _ (λb=>by rw[b,c5]at a;cases a) a) (d4 a) (.inr ?f0)
  let c2:Rd m e (.dT b4):=by
   rcases d0 with b|⟨o,b⟩
   .show .inl (t _ _ (bI c6) b)
   show bK b (j.un e c3 _ _)
  let c5:kE (b9 z r m (d::E::l::B::a0)) m c {x with back:=pp v,ways:={x.3 with sep:=b3}} e d:=
   (n,a5,?jV,P,b4,e9,c1,b2 _ _ d3,sw.of (a8 e0),a8 e3,e4,t _ _ (bI c7) d2,jb.lu d6 λ_ _ b=>b.mono b2,e7,e8,c2,d1.mono b2)
  let c4:Rm.Kept (d5.langs.set i {x with back:=pp v,ways:={x.3 with sep:=b3}}):=by
   rw[<-Cg C.ke.tags b6 (Cv a3) (f:=λx=>{x with back:=pp v,ways:={x.3 with sep:=b3}})];show C.ke.back (o:=pp v) (λ_=>rfl) (λ_=>rfl) λx a5=>?_;rcases b0 with b|⟨b4,e8⟩
   .rw[b]at a5;cases a5
   let c2:x=v:=by
    have:=YC v;rw[a5]at this;show this
   rw[c2];show(b4,by rw[<-Mt];show e8)
  let d1:∀y,(y=c\/y=e\/y=d)->∀o x,m y≠Y (.eI o x):=by
   rintro y (b|b|b) o x a
   .rw[b,c1]at a;cases a
   .rcases d0 with k|⟨b2,k⟩
    .rw[b,t _ _ (bI c6) k]at a;cases a
    show j.un e c3 _ _ k
   rw[b,t _ _ (bI c7) d2]at a;cases a
  let(c1,d3,d2,d6):=fin (H':=m) (gX:=d) (λy o b4 _ _ a=>t y o b4 a) ?aG c5 Z c4 d1;show d7 b0 (by rw[a3];rfl) c1 m l B c0 d3 ?_ (d6.of_le X)
  rw[Cg C.ke.tags b6 (Cv a3)];show d2
 let c6:=Ey j.la.length;let b2:=C.ke.gM;rw[a4];lk;show(l,_,u,a1,Z,a9,by rw[c6];show b2,Z,a7,λb=>(e5 b0 a3 (by rw[c6]at b;lia)).mono X,λd0 a2 c e d w n c3 c7 b2 e5 e7 d7 b6 c0 b6=>?_)
 rw[c6]at d0;let e9:E≠l:=by
  let c6:=C.nd;simp only[iu,bM,iw]at c6;show c6.1.1
 let e2:=c3 _ _ e9 f0;let c6:a2 u=_:=c3 _ _ (λb=>by rw[b,a9]at a7;cases a7) a7
 rw[x_ a4]at c7;lk;show(l,?aC,Z,.inr (_,bk a1,u,.inl c7,Z,c6,?_),?_)
 .unfold eQ at a4 ⊢;rw[GM,KL.mp a4];simp
 lk;let a4:D a2 c _ c=Y _:=bD (o:=?A n ?az);lk;generalize b5:D a2 c (?A n ?az)=m at a4;let t:∀y o,y≠l->r y=Y o->D m c (?A n (?ev ?az)) y=Y o:=λy o a6 a=>by
  let a4:y≠c:=λb=>by rw[b,b2]at a;cases a
  rw[<-b5];show bO a4 (bO a4 (c3 _ _ a6 a))
 let e2:l≠c:=λb=>by rw[<-b,a9]at b2;cases b2
 let c3:e≠c:=?bg b6 d7;let c6:d≠c:=?bg c0 d7;let d7:e≠d:=?bg b6 c0;let a4:∀y o,y≠c->a2 y=Y o->D m c (?A n (?ev ?az)) y=Y o:=λy o a6 a=>by
  rw[<-b5];show bO a6 (bO a6 a)
 generalize a2:D m c (?A n (?ev ?az))=m at t a4;let w:m c=Y (?A n (iX (.ref u) ?jV (.ref P) ?J ?aY)):=by rw[<-a2];show bD
 let a2:Le z m:=λy o a=>t y o (λb=>by rw[b,j.no l ?c]at a;cases a) (j.le _ _ a)
 let d4:∀{y q},r y=Y (.tup q)->y∉c::e::d::E::l::B::a0:=λ{y q} a b=>by
  simp only[bM]at b;rcases b with k|k|k|k
  .rw[k,b2]at a;cases a
  .rw[k,e5]at a;cases a
  .rw[k,e7]at a;cases a
  show j.uO a (by simp only[bM];show k)
 let a8:∀{y q},r y=Y (.tup q)->b9 z r m (c::e::d::E::l::B::a0) y=Y (.tup q):=λ{y q} a=>xJ a2 (t y _ (λb=>by rw[b,a9]at a;cases a) a) (d4 a) (.inr ?f0)
 let c5:kE (b9 z r m (c::e::d::E::l::B::a0)) m c (a1,pp v,(b3,[]),[]) e d:=
  (n,u,?jV,P,[],[],w,a8 a7,sw.of (a8 e0),a8 e3,e4,a4 _ _ c6 c0,.nil,gI _,λq b1=>(nomatch b1),.inl (a4 _ _ c3 b6),(.nil,λa k=>(nomatch k),λn e1=>(nomatch e1),.nil,gI _,λa k=>(nomatch k)))
 let c4:Rm.Kept (d5.langs++[(a1,pp v,(b3,[]),[])]):=by
  show C.ke.add d0 f1 a3 λx a5=>?_;rcases b0 with b|⟨b4,e8⟩
  .rw[b]at a5;cases a5
  let c2:x=v:=by
   have:=YC v;rw[show pp v=Y x from a5]at this;show this
  rw[c2];show b4
 let d1:∀y,(y=c\/y=e\/y=d)->∀o x,m y≠Y (.eI o x):=by
  rintro y (b|b|b) o x a
  .rw[b,w]at a;cases a
  .rw[b,a4 _ _ c3 b6]at a;cases a
  rw[b,a4 _ _ c6 c0]at a;cases a
 let(c1,d3,d2,d6):=j.add b2 e5 e7 (bI c3) (bI c6) d7 t (by rw[Nj j.la.length];show a4 _ _ e2 c7) c5 c4 d1
 show f2 b0 a3 d0 c1 m l B _ d3 d2 (d6.of_le X)
def FR:aP:=gO "abcdefghijklmnopqrstuvwxyz0123456789-"
def FI:aP:=gO "abcdefghijklmnopqrstuvwxyz0123456789_-."
theorem art:jN "abcdefghijklmnopqrstuvwxyz0123456789-" FR:=?g
theorem apt:jN "abcdefghijklmnopqrstuvwxyz0123456789_-." FI:=?g
def apl(a:UInt8):FR.contains a=Hl a:=beq_iff_eq.mp (vx (P:=λa=>FR.contains a==Hl a) ?w a)
def amD(a:UInt8):FI.contains a=(Ev a||a==46):=beq_iff_eq.mp (vx (P:=λa=>FI.contains a==(Ev a||a==46)) ?w a)
theorem amM:(mF "-").cps.getD 0 0=45:=rfl
def c9(e:Bool)(a:L)(d:VK)(c:XK):=if e=M then∀b,?gR->d .cT b else ?aL a c
def Jc(f:aP->Bool):Sp:=ic λh b e d=>bN λc a=>h=?aC/\b c=?bo/\R a<=cw/\c9 (f a) b e d
def aiV:gy ["tag"] ["tag"] (eO WU):=(rfl,Z,Z,by decide+kernel,Z,by decide+kernel,by decide+kernel)
def sh[d:?da]:g.qV 4 "check_tag" ["tag"] (Jc fh):=wy d.ajE aiV ?v nI λE C A H P u X B t s h=>by
 let(T,0,h):=h;show(_,(bw (?cQ (PW.pt (qR (nY (Oj wG wG bP (?cp jx d.7 (?q ?cJ)) (?Y d.ahv))) (qR (nY (jD (cQ II s (F ?cJ (?q (?Y d.ajQ)))))) (vC (?B jV (?b ?cJ bP) (?dQ d.9)))))) (bw (lh nR s)))),?_)
 try dsimp only[eJ,jC,jF,jA]
 let(w,a,0,q,z,c):=h;let l:fh a=I->?aL u t:=λo=>by unfold c9 at c;rw[o]at c;show c
 lk;rw[gZ];show ?bs
 .let b:?em<=?co:=b;lk;rcases j:decide (?c1<=12)with _|_
  .lk;show iI (l ?_);let j:=nN j;unfold fh;rw[gu (show¬R a<=12 by lia)]
   simp
  let j:=lN j;lk;show(w,a,_,_,Z,q,z,Z,art,λv k=>?_);rw[show(a.all λn=>FR.contains n)=a.all Hl by rw[show(λn=>FR.contains n)=Hl from funext apl]]
  rcases p:a.all Hl with _|_
  .lk;show iI ((l ?_).mono k);unfold fh;rw[p];simp
  cases a with
  |nil=>simp at b
  |cons e m=>
  let y:=?is q;lk;show uc (cZ.of y) (xP (i:=0) Z) ?_;lk;rw[amM];show hU (λf=>?_) (λf=>?_)
  .show iI ((l ?_).mono k);let x:e=45:=by
    injection f with f;show rW.mp (uZ f)
   unfold fh;simp[x]
  unfold c9 at c;rw[show fh (e::m)=M by
   have:e≠45:=λo=>f (by rw[o];rfl)
   unfold fh;rw[p,im (show 1<=(e::m).length by lia),im (show(e::m).length<=12 by lia)]
   simp[this]]at c
  show c v k
 let b:¬?em<=?co:=b;lk;show iI (l ?_);unfold fh;rw[gu (show¬1<=(R a)by lia)]
 rfl
def aiU:gy ["key"] ["key"] (eO WT):=(rfl,Z,Z,by decide+kernel,Z,by decide+kernel,by decide+kernel)
def Wn[e:?da]:g.qV 4 "check_key" ["key"] (Jc lE):=wy e.ajD aiU ?v nI λw v t x y n A u m k h=>by
 let(z,0,h):=h;show(_,(bw (?cQ (PW.pt (qR (nY (Oj wG wG bP (?cp jx e.7 (?q ?cJ)) (?Y e.ahu))) (vC (nY (jD (cQ II k (F ?cJ (?q (?Y e.ajO))))))))) (bw (lh nR k)))),?_)
 try dsimp only[eJ,jC,jF,jA]
 let(p,a,0,q,r,c):=h;let i:lE a=I->?aL n m:=λs=>by unfold c9 at c;rw[s]at c;show c
 lk;rw[gZ];show ?bb
 .let d:?em<=?co:=d;lk;rcases f:decide (?c1<=24)with _|_
  .lk;show iI (i ?_);let f:=nN f;unfold lE;rw[gu (show¬R a<=24 by lia)]
   simp
  let f:=lN f;lk;show(p,a,_,_,Z,q,r,Z,apt,λo l=>?_);rw[show(a.all λb=>FI.contains b)=a.all λb=>Ev b||b==46 by rw[show(λb=>FI.contains b)=λb=>Ev b||b==46 from funext amD]]
  rcases j:a.all λb=>Ev b||b==46 with _|_
  .lk;show iI ((i ?_).mono l);unfold lE;rw[j];simp
  lk;unfold c9 at c;rw[show lE a=M by
   unfold lE;rw[j,im (show 1<=(R a)by lia),im (show R a<=24 by lia)]
   rfl]at c
  show c o l
 let d:¬?em<=?co:=d;lk;show iI (i ?_);unfold lE;rw[gu (show¬1<=(R a)by lia)]
 rfl
example:fP awd RZ T.aff Sh 4 "check_separator" ((Jc λc=>decide (R c<=4))) ["separator"] [] (bw (?ao (?B vE (?y (?q ?cJ)) (?Y T.Z7)))):=by
 let(d,c,0,e,i,b):=h;dsimp only[c9]at b;lk;rw[gZ];show ?ds
 .let a:(4:Int)<?ig:=a;rw[gu ?d]at b
  show iI b
 let a:¬(4:Int)<?ig:=a;rw[im ?d]at b
 show b H .refl
example:fP awq Mb T.agO Ud 4 "check_length" ((Jc λc=>decide (R c<=1024))) ["message"] [] (bw (?ao (?B vE (?y (?q ?cJ)) (?Y T.afk)))):=by
 let(d,c,0,e,i,b):=h;dsimp only[c9]at b;lk;rw[gZ];show ?ds
 .let a:(1024:Int)<?ig:=a;rw[gu ?d]at b
  show iI b
 let a:¬(1024:Int)<?ig:=a;rw[im ?d]at b
 show b H .refl
inductive CW(a:L)(h:V)(b:yN):Prop
 |i (e f c d) (_:h=?aY) (_:a e=Y (?aB f (Ov (.int b.ret) ?aC ?J))) (_:a c=Y (.lst (b.nums.map nV))) (_:LT a d (bT b.bytes))
def Ref(a:S):=a=g.lD\/a=g.oX\/a=g.si\/a=g.uu\/a=g.nu\/a=g.rk\/a=g.wx\/a=g.f8
theorem Ref.na:Ref g.lD:=?aG
theorem Ref.nl:Ref g.oX:=.inr ?aG
theorem Ref.nm:Ref g.si:=?jm
def Ref.cr:Ref g.uu:=.inr ?jm
theorem Ref.fa:Ref g.nu:=.inr (.inr ?jm)
theorem Ref.wl:Ref g.rk:=.inr (.inr (.inr ?jm))
def Ref.wa:Ref g.wx:=.inr (.inr (.inr (.inr ?jm)))
def Ref.fu:Ref g.f8:=.inr (.inr (.inr (.inr (.inr (.inr (.inr Z))))))
structure iY(m f:L)(j:S)(n:List S)(q:nW)(b:nW×yN)(o:VK)(e:XK):Prop where
 ok:∀c a i h p k l,iG c a j i h p k b.1->tS m f n c a (j::i::h::k)->CW a l b.2->o l a
 ex:b.1=q->b.2.bytes=[]->∀d,Ref d->XR d f b.2.ret (b.2.nums.map nV) e
 nn:∀a,e .none U a
theorem tS.le(l:?iG):tS b c e b d e:=(λ_ _ _ a=>?c5 a,λ_ _ a=>?ai,λ_ h=>.inl h)
def iY.same(q:iY b c f (f::e::d::h) j i m o)(s:iG b c f e d n h j)(r:i.1=j)(l:Le c a)(p:CW a k i.2):m k a:=
 q.ok b a e d n h k (by rw[r];show s.mono l) (.le l) p
theorem iY.no(k:iY h c n i f e j b){d:Int}(l:e=(f,ji d))(m:Ref a):XR a c d [] b:=by subst l;show k.ex Z Z a m
def iY.Kb(l:iY i c o j h f k b){d:Int}{e:Nat}(m:f=(h,Cp d [e]))(n:Ref a):XR a c d [.int e] b:=by subst m;show l.ex Z Z a n
def aqN:Sp:=ic λf d e _=>∃c:Int,f=?f3/\∀b a,Le d a->CW a b (ji c)->e b a
example:fP aws tq T.agT Uh 3 "number_alone" ((aqN)) ["number"] [] (bw (dM (oM yU hr (F ?cJ (F ?fc (?q ?fc)))))):=by
 let(o,0,k):=h;lk;show(by decide,λd m=>(by decide,λe j=>?_))
 show xu λl c b n a=>?_;let(i,a):=a;show k _ c (?eT b) (l,i,d,e,Z,a,?ga (gc j bD),.inl (?ga bD))
def arz(a:L)(c:V)(b:?bD):=∃l,c=?bk/\a l=Y (.lst (b.map V.int))
def Pq(a:L)(e:V)(d:?jO):=bN λl b=>e=?bk/\a l=Y (.lst ?fl)/\jb (λc f=>a c=Y (.tup f)) b d
def Pq.get(h:Pq c n e):bN λ(l:S) (b:?aD)=>n=?bk/\c l=Y (.lst ?fl)/\R b=R e/\∀(i:Nat) f,e[i]?=Y f->∃a,b[i]?=Y a/\c a=Y (.tup f):=by
 let(l,b,o,q,d):=h;show(l,b,o,q,d.length,λi f m=>?_);let k:i<R b:=by rw[d.length];show(ig.mp m).1
 let(r,j,p):=pK d (gv k);rw[m]at j;cases j;show(_,gv k,p)
def gE{a:L}{l:S}{d:?aD}{i:Nat}{b:VK}(h:a l=Y ?jT)(f:d[i]?=Y c)(j:b ?aC a):dF e ?bk (.int i) a b:=
 pV (cJ.of h) (tF (by rw[iC,f];rfl)) j
inductive ani(k:V)(a:L)(j:VK)(h:XK):Prop
 |i (l:S) (b:?aD) (d c:aP) (e f:S) (_:k=?bk) (_:a l=Y (.lst ?fl)) (_:b[0]?=Y e) (_:b[1]?=Y f) (_:a e=?kc) (_:a f=?a1) (_:d.length<=20000) (_:c.length<=20000) (_:c9 (fh d&&lE c) a j h)
def apc:Sp:=ic (ani)
example:fP av5 Lb T.Z5 Rx 5 "check_tag_and_key" ((apc)) ["rows"] [] (bx (dO (?aA sh (?q (?b ?cJ bP)))) (bw (dO (?aA Wn (?q (?b ?cJ bP)))))):=by
 let(l,x,k,j,v,w,0,e,n,o,y,p,C,E,a):=h;let B:=fU;dsimp only[c9]at a;lk;show ?P 0 e n;lk;show ?b4
 change ?du (fh k);unfold c9;rcases c:fh k with _|_
 .rw[c]at a;show a
 rw[?eZ];intro u b;let q:=?ga e;let z:=?ga p;lk;show ?P 1 q o;lk;show ?b4
 change ?du (lE j);rw[c,Ak]at a;unfold c9;rcases d:lE j with _|_
 .rw[d]at a;show XR.mono a b
 rw[d,?eZ]at a;show λm t=>a m (b.trans t)
def aq8:Sp:=ic λe a d c=>∃b:Int,e=?dk/\(if b<=15 then d .cT a else ?aL a c)
example:fP awB Vm T.aij VR 4 "check_slot" ((aq8)) ["slot"] [] (bw (?ao (?B vE ?cJ (?Y T.agW)))):=by
 let(c,0,a):=h;lk;show ?bs
 .rw[bp ?d]at a;show iI a
 rw[bz ?d]at a;lia
def ari:Sp:=ic λe b d c=>∃a:Int,e=?cD/\(if CI<=a/\a<=tP then d .cT b else ?aL b c)
example:fP awv Uv T.ahp UN 4 "check_value" ((ari)) ["value"] [] (bw (?ao (nY (jD (?aA SB (?q ?cJ)))))):=by
 let(a,0,c):=h;lk;by_cases b:CI<=a/\a<=tP
 .rw[bz b]at c;rw[im (show-9223372036854775808<=a/\a<=9223372036854775807 from b)];lk;show c
 rw[bp b]at c;rw[gu (show¬?bV from b)];lk;show iI c
inductive C_(b c:L)(l:V)(k:Nat)(h:cq)(a:jz):Prop
 |i (e j d f) (_:l=?aY) (_:c e=Y (.ins g.Found j (Ji (.int k) ?J ?bL))) (_:mq b c d h) (_:rH b f a.text a.msg) (_:a∈h.entries)
def aqO:Sp:=kq λu w a r e=>JS λi n t s d v l=>mv λ(h:?aD) (b c:aP) (j k:S)=>u=?jN/\zK i a n t s d v/\w=?bk/\a l=Y (.lst (h.map V.ref))/\h[0]?=Y j/\h[1]?=Y k/\a j=?bU/\a k=?a1/\R b<=20000/\R c<=20000/\((fh b&&lE c)=I->?aL a e)/\((fh b&&lE c)=M->(gt d b=U->?dp a e)/\((gt d b).isSome=M->(Ch d b c=U->XR g.si a (-4) [] e)/\∀o q m,Ch d b c=Y (o,(q,m))->∀p f,Le a f->C_ i f p o q m->r p f))
example:fP afZ GV T.agk Tt 6 "asked_message" ((aqO)) ["kit","rows"] ["found"] (bx (dO (?aA Lb (?q ?a9))) (bx (?n 2 afZ.nd (?aA TU (F (?U T.rJ Aq hr (?q (?b ?a9 bP))) (?q (?b ?a9 bP))))) (?jn (?cQ (uK (Jv ?dr)) (bw (lh MT hr)))))):=by
 let(m,n,P,E,k,B,l,C,c,d,o,p,0,b,0,x,t,u,v,w,j,q,e,a):=h;lk;show(l,C,c,d,o,p,Z,x,t,u,v,w,j,q,?_);unfold c9;rcases q:(fh c&&lE d)with _|_
 .show e q
 let(e,z):=a q;intro a a;let y:=?eM x;let j:=b.mono a;let(b,b,b):=j.2;lk;show ?P 0 y t;lk;show(m,n,P,E,k,B,o,c,Z,j,Z,?eM v,λb=>(e b).mono a,λb e v x b b n n o _=>?_);let(q,t):=z (by rw[e];rfl)
 let e:=?ga y;lk;show ?P 1 e u;lk;show(m,v,x,oE k c,p,d,Z,cJ.of n,o,j.le.trans b,Z,?ga (?eM w),?_);rw[<-Za];rcases z:Ch k c d with _|d
 .intro n e;lk;show iI ((q z).mono (a.trans (b.trans e)))
 let(p,q,c):=d;intro n f B o X e d j k m;lk;show t p q c z _ n (a.trans (b.trans e)) (f,X,B,o,Z,d,j.le e,k,m)
inductive ao4(N:V)(l:V)(a:L)(k:VK)(j:XK):Prop
 |i (d:Nat) (f:S) (c:?aD) (e:?bl) (_:N=.int (d:Nat)) (_:l=?bL) (_:a f=Y (.lst (c.map V.ref))) (_:nz a c e) (_:(match e[d]? with|none=>XR g.si a (-4) [] j|some m=>∀h b,?gR->CW b h (Sk.shows m)->k h b))
def aqX:Sp:=kq (ao4)
example:fP awZ NZ T.anL A_ 4 "key_at" ((aqX)) ["place","keys"] [] (bx (?cQ (?B P5 ?cJ (?y (?q ?a9))) (bw (lh MT hr))) (bw (dM (oM yU hr (F bP (F ?fc (?q (?b ?a9 ?cJ)))))))):=by
 let(i,t,c,x,0,0,p,j,b):=h;let v:=j.length;lk;rw[ft];show ?ds
 .rw[Gp ?d]at b
  show iI b
 let k:i<R c:=by lia
 let(y,n,o):=pK j (gv k);rw[n]at b;show(by decide,λr hr=>?_)
 let q:D H r ?M t=_:=gc hr p;lk;show ?P i q (gv k);lk;show xu λu l e w d=>?_;let(m,d):=d;show b _ l (?eT e) (u,m,r,_,Z,d,?dl bD,.inr (?dl (gc hr o)))
inductive aqS(m:List Int->List (List V)->qf->Prop)(o:V)(p:V)(q:V)(a:L)(l:VK)(k:XK):Prop
 |i (c b dl e n f st h j d) (_:o=?av) (_:iG c a b dl e n f st) (_:arz a p h) (_:Pq a q j) (_:m h j d) (_:iY c a b (b::dl::e::f) st (rA st d) l k)
def mI(a:?bD->?jO->qf->Prop):Sp:=yl (aqS a)
section
variable{B H:L}{k:S}{bZ:List S}{st:nW}{t bJ:aP}{bA:Nat->cq->jz->yN}{F1:cq->yN}{ah:VK}{E:XK}
def iY.l7(c:?jE (st,xw st t bJ bA)):((fh t&&lE bJ)=I->?aL H E)/\((fh t&&lE bJ)=M->(?aU t=U->?dp H E)/\((?aU t).isSome=M->(Ch st.langs t bJ=U->XR g.si H (-4) [] E)/\∀e f b,Ch st.langs t bJ=Y (e,(f,b))->?jE (st,bA e f b))):=by
 let j:∀a:(fh t&&lE bJ)=M,¬(fh t=I\/lE bJ=I):=λa i=>by
  rcases i with i|i<;>rw[i]at a<;>simp at a
 show(λa=>c.no ?_ Ref.na,λa=>(λb=>c.no ?_ Ref.nl,λb=>(λm=>c.no ?_ Ref.nm,λe f l h=>?_)))
 .unfold xw;rw[bz];rcases n:fh t with _|_
  .lia
  rw[n,Ak]at a;show ?gO
 .unfold xw;rw[bp (j a),bz (by rw[b];rfl)]
 .unfold xw;have:(?aU t).isNone≠M:=by cases d:?aU t with|none=>rw[d]at b;cases b|some _=>simp
  rw[bp (j a),bp this,m]
 have:xw st t bJ bA=bA e f l:=by
  unfold xw;let d:(?aU t).isNone≠M:=by cases d:?aU t with|none=>rw[d]at b;cases b|some _=>simp
  rw[bp (j a),bp d,h]
 rw[this]at c;show c
theorem iY.ofTag(b:?jE (st,uw st t F1)):(fh t=I->?aL H E)/\(fh t=M->(?aU t=U->?dp H E)/\∀c,?aU t=Y c->?jE (st,F1 c)):=by
 show(λa=>b.no ?_ Ref.na,λa=>(λd=>b.no ?_ Ref.nl,λc h=>?_))
 .unfold uw;rw[bz a]
 .unfold uw;rw[?it,d]
 have:uw st t F1=F1 c:=by unfold uw;rw[?it,h]
 rw[this]at b;show b
def Gb(mk:aP->aP->qf)(b:?bD)(c:?jO)(a:qf):=b=[]/\bN λt bJ=>c=[bT t,bT bJ]/\R t<=20000/\R bJ<=20000/\a=mk t bJ
end
def aiN(o:Iz)(l:wm):∀(n:jc) (c:Int) (d:Ou),∀b∈(kD o l n c d).2,∃e,(b,e)∈n.names:=by
 intro n
 induction n with
 |nil=>intro c d b h;nomatch h
 |char t k ih=>intro c d b h;show ih c d b h
 |esc t k ih=>intro c d b h;show ih c d b h
 |hash k ih=>intro c d b h;show ih c d b h
 |arg m u k ih=>
  intro c d b h;let i:b∈(kD o l k c d).2->∃e,(b,e)∈(jc.arg m u k).names:=λa=>let(e,f):=ih c d b a;(e,gY _ f)
  rw[bF]at h;cases j:kL l m with
  |none=>
   rw[j]at h;rcases ?fb with a|a
   .show ?d1
   show i a
  |number q=>rw[j]at h;show i h
  |text r=>
   rw[j]at h;dsimp only at h;split at h
   .rcases ?fb with a|a
    .show ?d1
    show i a
   show i h
 |plural m r k s p=>
  intro c d b h;let i:b∈(kD o l k c d).2->∃e,(b,e)∈(jc.plural m r k).names:=λa=>let(e,f):=p c d b a;(e,gY _ (ug _ f))
  rw[bV]at h;cases j:kL l m with
  |number q=>
   rw[j]at h;rcases iE.mp h with a|a
   .let(e,f):=s q (.number q) b a;show(e,gY _ (BA _ f))
   show i a
  |none=>
   rw[j]at h;rcases ?fb with a|a
   .show ?d1
   show i a
  |text _=>
   rw[j]at h;rcases ?fb with a|a
   .show ?d1
   show i a
 |select m r k s p=>
  intro c d b h;let i:b∈(kD o l k c d).2->∃e,(b,e)∈(jc.select m r k).names:=λa=>let(e,f):=p c d b a;(e,gY _ (ug _ f))
  rw[bW]at h;cases j:kL l m with
  |text q=>
   rw[j]at h;rcases iE.mp h with a|a
   .let(e,f):=s c (.word q) b a;show(e,gY _ (BA _ f))
   show i a
  |none=>
   rw[j]at h;rcases ?fb with a|a
   .show ?d1
   show i a
  |number _=>
   rw[j]at h;rcases ?fb with a|a
   .show ?d1
   show i a
 |branch e n w v p=>
  intro c d b h;let h:b∈(if C8 o d e=M then kD o l n c d else kD o l w c d).2:=h;split at h
  .let(e,f):=v c d b h;show(e,BA _ f)
  let(e,f):=p c d b h;show(e,ug _ f)
 |other n ih=>intro c d b h;show ih c d b h
inductive alJ(p:V)(o:V)(b:L)(k:VK)(s:XK):Prop
 |i (e f dl m l q st r d c) (_:p=?bL) (_:iG e b f dl m l q st) (_:C_ e b o r d c) (_:∀h j n a,Le b a->a h=Y (.ins g.rB n (EO (.ref j) (.int (AX (kD d.ways st.args c.msg 0 .none).2:Nat))))->a j=Y (.lst (bT (kD d.ways st.args c.msg 0 .none).1))->k (.ref h) a)
def ang:Sp:=kq (alJ)
example:fP awK Wo T.ajF WV 6 "displayed" ((ang)) ["kit","found"] [] (bw (dM (?aA agg (F (?cR (?cR ?a9)) (F ?l (?q (?cR ?a9))))))):=by let(a,a,a,i,a,a,r,a,a0,b,0,a,(f,c,d,c,0,c,n,o,p),u):=h;let(c,c):=a.hk;let(c,c,z,c,B,w,c,x,y,c,c):=o;let c:=a.le _ _ w;let(c,v,j,c,c,q,c,t,C,c,c,P,X,c,k,e,o,e,E):=n;let(e,l,m,_):=a.ar;lk;show(_,_,_,Z,z,B,b.msg,i,r.args,d,j,_,_,q,v,_,a0.3,0,.none,Z,cJ.of (a.le _ _ x),io.mono a.le y,by have:=(E.sz b p).2.1;lia,Z,(e,l,m.mono a.le),Z,C,a.le _ _ P,X,(t,c,jb.lu k λ_ _ b=>b.mono a.le),λa r=>(o a r).1,λs a k c v b b q t=>u s a k c v q t)
example:fP awA ah2 T.aii VQ 7 "call_wants" ((mI (Gb .wants))) ["kit","numbers","rows"] [] (bw (dM (?aA tq (?q (?cR (?aA Wo (F ?cJ (?q (?aA GV (?fE ?cJ)))))))))):=by let(i,d,j,o,n,m,a,b,b,b,0,l,c,P,(0,v,r,0,E,X,0),k):=h;let(u,t,0,p,c,q):=P.get;let(w,y,B):=q 0 _ Z;let(x,z,C):=q 1 _ Z;let(x1,x2):=k.l7;lk;show(i,d,j,n,a.langs,m,u,t,v,r,w,x,Z,l.r,Z,p,y,z,B,C,E,X,x1,λb=>((x2 b).1,λc=>(((x2 b).2 c).1,λu e p q r k t k=>?_)));let E:=((x2 b).2 c).2 u e p q;lk;show(i,d,j,o,n,m,a,u,e,p,Z,l.mono t,k,λa a a a a b b=>?_);lk;show λr b b X=>E.same l Z (t.trans (a.trans b)) X
example:fP ahK ah1 T.aih VP 7 "call_slots" ((mI (Gb .slots))) ["kit","numbers","rows"] ["found"] (bx (?n 3 ahK.nd (?aA GV (?fE ?cJ))) (bw (dM (oM yU hr (F (?cR ?gH) (F (?cR (?cR ?gH)) (?q ?fc))))))):=by
 let(o,k,p,z,y,u,d,a,a,b,0,c,a,a,(0,v,t,0,B,P,0),e):=h;let(q,m,0,l,j,r):=a.get;let(w,C,X):=r 0 _ Z;let(x,E,j):=r 1 _ Z;let(x1,x2):=e.l7;lk;show(o,k,p,y,d.langs,u,q,m,v,t,w,x,Z,c.r,Z,l,C,E,X,j,B,P,x1,λb=>((x2 b).1,λa=>(((x2 b).2 a).1,λn j P e d d l q=>?_)));let d:=((x2 b).2 a).2 n j P e;let(f,a,a,a,0,q,a,(a,a,a,e,a,a,b,b,b,b,j),j):=q;let j:=?c5 (c.le _ _ a);let a:=?c5 (c.le _ _ b);lk;show(by decide,λb hr=>?_)
 lk;show xu λk j m j j=>?_;let(B,j):=j;show d.same c Z (l.trans (?eT m)) (k,B,e,b,Z,j,m _ _ (gc hr a),.inl (m _ _ bD))
example:fP aiT ajn T.ajB WR 7 "call_text" ((mI (Gb .text))) ["kit","numbers","rows"] ["found"] (bx (?n 3 aiT.nd (?aA GV (?fE ?cJ))) (bw (dM (oM yU hr (F (?cR ?gH) (F ?fc (?q (?cR (?cR ?gH))))))))):=by
 let(q,l,t,C,B,w,d,a,a,a,0,c,b,b,(0,x,v,0,r,E,0),e):=h;let(p,n,0,m,j,u):=b.get;let(y,P,j):=u 0 _ Z;let(z,X,k):=u 1 _ Z;let e:iY q H l (l::t::C::w) d (d,xw d x v λ(o:Nat) (_:cq) (b:jz)=>((o:Nat),[],b.text)) _ _:=e;let(x1,x2):=e.l7;lk;show(q,l,t,B,d.langs,w,p,n,x,v,y,z,Z,c.r,Z,m,P,X,j,k,r,E,x1,λa=>((x2 a).1,λb=>(((x2 a).2 b).1,λo l d k e r m j=>?_)));let e:=((x2 a).2 b).2 o l d k;let(f,a,a,k,0,j,a,(a,l,a,a,a,a,d,b,b,b,b),b):=j;let b:=m _ _ (c.le _ _ a);let a:=m _ _ (c.le _ _ d);lk;show(by decide,λp hr=>?_)
 let d:D r p ?M f=_:=gc hr j;lk;show xu λb d n d k=>?_;let(E,k):=k;show e.same c Z (m.trans (?eT n)) (b,E,p,l,Z,k,?cA bD,.inr (?cA (gc hr a)))
example:fP VY ajm T.ajA WQ 7 "call_show" ((mI (Gb .show_))) ["kit","numbers","rows"] ["found","shown"] (bx (?n 3 VY.nd (?aA GV (?fE ?cJ))) (bx (?n 4 VY.nd (?aA Wo (F ?cJ (?q ?gH)))) (bx (?cQ (?B wH (?cR (N 4)) bP) (bw (Dl aoI hr (?q (?cR (N 4)))))) (bw (dM (oM yU hr (F bP (F (ib (?q (?cR ?gH))) (?q (?cR (N 4))))))))))):=by
 let(o,n,p,B,z,y,a,b,b,j,0,t,b,C,(0,k,d,0,a0,a1,0),r):=h;let(X,P,0,x,b,E):=C.get;let(l,q,v):=E 0 _ Z;let(m,u,w):=E 1 _ Z;let(x1,x2):=r.l7;lk;show(o,n,p,z,a.langs,y,X,P,k,d,l,m,Z,t.r,Z,x,q,u,v,w,a0,a1,x1,λj=>((x2 j).1,λc=>(((x2 j).2 c).1,λe b k m d d v l=>?_)));let d:=((x2 j).2 c).2 e b k m;let c:=l;let(f,j,j,j,0,l,j,m,j):=l;lk;show(o,n,p,B,z,y,a,e,b,k,Z,t.mono v,c,λo p c j w P X=>?_);let c:∀i∈(kD b.3 a.args k.msg 0 .none).2,i<16:=λi l=>by
  let(_,_,_,_,_,_,_,_,_,_,n):=m;let(m,m):=aiN _ _ _ _ _ i l;show(n _ m).1
 generalize C:kD b.3 a.args k.msg 0 .none=R at d P X c;lk;let a:=amz c;by_cases m:R.2=[]
 .let q:AX R.2=0:=a.mpr m;rw[bz (by rw[m];rfl)]at d
  rw[q];lk;show(by change 1<=cw;decide,λb hr=>?_)
  lk;show xu λe c x c u=>?_;let(c,u):=u;show d.same t Z (v.trans (w.trans (?eT x))) (e,c,b,p,Z,u,x _ _ bD,.inl (x _ _ (gc hr X)))
 let c:¬(V.int ((AX R.2:Nat):Int)=V.int 0):=λb=>by
  lia
 rw[gu c];lk;show CF (XR.mono ?_ (v.trans w));rw[bp ?ja]at d
 show d.Kb Z Ref.wa
def vv{a:L}{l:S}{c:?bD}{i:Nat}{d:Int}{b:VK}(h:a l=Y (.lst (c.map V.int)))(f:c[i]?=Y d)(j:b ?gV a):dF e ?bk (.int i) a b:=
 pV (cJ.of h) (tF (by rw[iC,f];rfl)) j
def rT(mk:aP->qf)(c:?bD)(d:?jO)(b:qf):=c=[]/\∃a,d=[bT a]/\R a<=20000/\b=mk a
def Ke(mk:Nat->aP->qf)(d:?bD)(e:?jO)(c:qf):=bN λ(b:Nat) (a:aP)=>d=[?cg]/\e=[bT a]/\R a<=20000/\c=mk b a
def rVT(mk:Int->aP->qf)(d:?bD)(e:?jO)(c:qf):=bN λ(b:Int) (a:aP)=>d=[b]/\e=[bT a]/\R a<=20000/\c=mk b a
example:fP awm age T.agl Tu 5 "call_category" ((mI (rVT λc b=>.category b c))) ["kit","numbers","rows"] [] (bx (dO (?aA Uv (?q (?b ?a9 bP)))) (?cm (bw (dM (?aA tq (?q (?aA Uu (F (?cR (?U T.rJ yB hr (?q (?b ?dr bP)))) (?q (?b ?a9 bP)))))))))):=by
 let(X,k,n,a,d,t,p,d,d,m,0,o,d,j,(c,b,0,0,e,0),e):=h;let l:=fU;let(l,l,0,E,l,l):=j.get;let(q,v,z):=l 0 _ Z;let(j,0,C):=d;let e:iY X H k (k::n::a::t) p (p,if c<CI\/tP<c then ji (-1)else uw p b λ(l:cq)=>ji (As l.3.rules c:Nat)) _ _:=e;let(a,a):=o.hk;lk;show ?dI 0 C;lk;by_cases m:CI<=c/\c<=tP;rotate_left 1
 .rw[bp m];rw[bz ?d]at e
  show e.no Z Ref.na
 rw[bz m];rw[bp ?d]at e
 let(x1,x2):=e.ofTag;lk;show ?P 0 E v;lk;show ?b4
 change ?du (fh b);unfold c9;rcases t:fh b with _|_
 .show x1 t
 rw[?eZ];let(x3,x4):=x2 t;intro a d;let j:=o.mono d;let(u,B):=j.hk;let a:=d _ _ E;let p:=d _ _ C;lk;show ?P 0 a v;lk;rcases j.la.find b with⟨w,x⟩|⟨i,a,l,a,t,w,x,e,y,m,_⟩
 .show(k,u,n,_,_,q,b,Z,B,.inl j.hd,Z,d _ _ z,λ_=>(x3 w).mono d,λP a=>by rw[x]at a;cases a)
 show(k,u,n,_,_,q,b,Z,B,.inl j.hd,Z,d _ _ z,λa=>(by rw[y]at a;cases a),λP a=>?_)
 rw[y]at a;cases a;let(a,a,a,a,a,k,a,a,a,a,a,a,b,n,n,n,n):=m;lk;show ?dI 0 p;lk;show(t,c,l.3.rules,Z,Z,(k,a,jb.lu b λ_ _ a=>a.mono j.le),?_);lk;show λP a b a=>(x4 l e).same o Z (d.trans b) a
def aqw(h:gt a b=Y c):(pJ a b).length=R c.entries:=by unfold pJ;rw[h];simp
example:fP awE ajh T.ajv WL 6 "call_keys" ((mI (rT .keys))) ["kit","numbers","rows"] [] (?cm (bw (dM (?aA tq (?q (?y (?q (?aA Xr (?cB ?cJ))))))))):=by
 let(k,e,m,x,w,u,b,a,a,a,0,o,C,E,(0,c,0,a,0),d):=h;let a:=fU;let(a,a,0,q,a,a):=E.get;let(v,n,z):=a 0 _ Z;let(a,0,t):=C;let d:iY k H e (e::m::x::u) b (b,uw b c λ(j:cq)=>ji (j.entries.length:Nat)) _ _:=d;let(x1,x2):=d.ofTag;lk;show ?P 0 q n;lk;show ?b4
 change ?du (fh c);unfold c9;rcases l:fh c with _|_
 .show x1 l
 rw[?eZ];let(x3,x4):=x2 l;intro a a;let p:=o.mono a;let(d,d):=p.hk;let d:=?eM q;let l:=?eM t;lk;show ?P 0 d n;lk;show(k,e,m,w,b.langs,u,v,c,Z,p.r,Z,?eM z,λy=>(x3 y).mono a,λj t b b b c b b P=>?_);let B:=x4 j t;let b:=P.length;lk;rw[ft,b,aqw t];show λb b b X=>B.same o Z (a.trans (c.trans b)) X
example:fP awO akA T.akI XS 6 "call_key" ((mI (Ke .key))) ["kit","numbers","rows"] [] (?cm (bw (dM (?aA NZ (F (?b ?a9 bP) (?q (?aA Xr (?cB ?cJ)))))))):=by
 let(j,d,k,m,z,l,a,b,b,b,0,q,P,X,(i,c,0,0,b,0),n):=h;let b:=fU;let(b,b,0,v,b,b):=X.get;let(y,p,E):=b 0 _ Z;let(b,0,b):=P;let(x1,x2):=n.ofTag;lk;show ?P 0 v p;lk;show ?b4
 change ?du (fh c);unfold c9;rcases o:fh c with _|_
 .show x1 o
 let(x3,x4):=x2 o;intro e e;let t:=q.mono e;let(n,n):=t.hk;let o:=?dl v;let n:=?dl b;lk;show ?dI 0 n;lk;show ?P 0 o p;lk;show(j,d,k,z,a.langs,l,y,c,Z,t.r,Z,?dl E,λC=>(x3 C).mono e,λx p t B b w b o n=>?_);let b:=x4 x p;lk;show(i,t,B,_,Z,Z,o,n,?_);rcases u:(pJ a.langs c)[i]? with _|n
 .unfold sv at b;rw[u]at b;show(b.no Z Ref.nm).mono (e.trans w)
 let b:iY j H d (d::k::m::l) a (a,sv (pJ a.langs c) i) _ _:=b;unfold sv at b;rw[u]at b;show λa a c a=>?f7
example:fP awz ahZ T.aif VN 7 "call_lacks" ((mI (rT .lacks))) ["kit","numbers","rows"] [] (?cm (bw (dM (?aA tq (?q (?y (?q (?aA Uw (?cB ?cJ))))))))):=by
 let(j,e,m,l,w,t,b,a,a,a,0,o,B,C,(0,c,0,a,0),d):=h;let a:=fU;let(a,a,0,q,a,a):=C.get;let(v,n,y):=a 0 _ Z;let(a,0,x):=B;let(x1,x2):=d.ofTag;lk;show ?P 0 q n;lk;show ?b4
 change ?du (fh c);unfold c9;rcases k:fh c with _|_
 .show x1 k
 rw[?eZ];let(x3,x4):=x2 k;intro a a;let p:=o.mono a;let(d,d):=p.hk;let d:=?eM q;let k:=?eM x;lk;show ?P 0 d n;lk;show(j,e,m,l,w,t,b,v,c,Z,p,Z,?eM y,λx=>(x3 x).mono a,λu b c c c c d d E=>?_);let z:=x4 u b;let X:=E.length;lk;rw[ft,X];show λb b b P=>z.same o Z (a.trans (c.trans b)) P
example:fP awF aji T.ajw WM 7 "call_lack" ((mI (Ke .lack))) ["kit","numbers","rows"] [] (?cm (bw (dM (?aA NZ (F (?b ?a9 bP) (?q (?aA Uw (?cB ?cJ)))))))):=by
 let(j,d,l,k,z,m,a,b,b,b,0,q,P,X,(i,c,0,0,b,0),n):=h;let b:=fU;let(b,b,0,v,b,b):=X.get;let(y,p,E):=b 0 _ Z;let(b,0,b):=P;let n:?fm (a,uw a c λ(x:cq)=>sv (Cc a.langs c) i):=n;let(x1,x2):=n.ofTag;lk;show ?P 0 v p;lk;show ?b4
 change ?du (fh c);unfold c9;rcases o:fh c with _|_
 .show x1 o
 let(x3,x4):=x2 o;intro e e;let t:=q.mono e;let(n,n):=t.hk;let o:=?dl v;let n:=?dl b;lk;show ?dI 0 n;lk;show ?P 0 o p;lk;show(j,d,l,k,z,m,a,y,c,Z,t,Z,?dl E,λC=>(x3 C).mono e,λx p t B b w b o n=>?_);let b:=x4 x p;lk;show(i,t,B,_,Z,Z,o,n,?_);rcases u:(Cc a.langs c)[i]? with _|n
 .let b:?fm (a,sv (Cc a.langs c) i):=b;unfold sv at b;rw[u]at b;show(b.no Z Ref.nm).mono (e.trans w)
 unfold sv at b;rw[u]at b;show λa a c a=>?f7
example:fP awH ajk T.ajy WO 7 "call_odds" ((mI (rT .odds))) ["kit","numbers","rows"] [] (?cm (bw (dM (?aA tq (?q (?y (?q (?aA Xq (?cB ?cJ))))))))):=by
 let(j,e,m,l,w,t,b,a,a,a,0,o,B,C,(0,c,0,a,0),d):=h;let a:=fU;let(a,a,0,q,a,a):=C.get;let(v,n,y):=a 0 _ Z;let(a,0,x):=B;let(x1,x2):=d.ofTag;lk;show ?P 0 q n;lk;show ?b4
 unfold c9;rcases k:fh c with _|_
 .grind
 rw[?eZ];let(x3,x4):=x2 k;intro a a;let p:=o.mono a;let(d,d):=p.hk;let d:=?eM q;let k:=?eM x;lk;show ?P 0 d n;lk;show(j,e,m,l,w,t,b,v,c,Z,p,Z,?eM y,λx=>(x3 x).mono a,λu b c c c c d d E=>?_);let z:=x4 u b;let X:=E.length;lk;rw[ft,X];show λb b b P=>z.same o Z (a.trans (c.trans b)) P
example:fP awP akB T.akJ XT 7 "call_odd" ((mI (Ke .odd_))) ["kit","numbers","rows"] [] (?cm (bw (dM (?aA NZ (F (?b ?a9 bP) (?q (?aA Xq (?cB ?cJ)))))))):=by
 let(j,d,l,k,z,m,a,b,b,b,0,q,P,X,(i,c,0,0,b,0),n):=h;let b:=fU;let(b,b,0,v,b,b):=X.get;let(y,p,E):=b 0 _ Z;let(b,0,b):=P;let(x1,x2):=n.ofTag;lk;show ?P 0 v p;lk;show ?b4
 change ?du (fh c);unfold c9;rcases o:fh c with _|_
 .show x1 o
 rw[?eZ];let(x3,x4):=x2 o;intro e e;let t:=q.mono e;let(n,n):=t.hk;let o:=?dl v;let n:=?dl b;lk;show ?dI 0 n;lk;show ?P 0 o p;lk;show(j,d,l,k,z,m,a,y,c,Z,t,Z,?dl E,λC=>(x3 C).mono e,λx p t B b w b o n=>?_);let b:=x4 x p;lk;show(i,t,B,_,Z,Z,o,n,?_);rcases u:(zo a.langs c)[i]? with _|n
 .let b:?fm (a,sv (zo a.langs c) i):=b;unfold sv at b;rw[u]at b;show(b.no Z Ref.nm).mono (e.trans w)
 let b:?fm (a,sv (zo a.langs c) i):=b;unfold sv at b;rw[u]at b;show λa a c a=>?f7
example:fP UR ahW T.aic MA 6 "call_chain" ((mI (rT .chain_))) ["kit","numbers","rows"] ["tags","language"] (?cm (bx (HV (i:=3) (ip:=[("language",4)]) rO Z Z Z UR.nd Z Z (Jd Z Z Z Z) (tI (?U T.rJ Aq hr (?q (?b ?dr bP)))) (rq (aM:=["kit","numbers","rows","tags","language"]) (sc:=eO MA) ?w) (λ_ _ _ _ _=>(?R 4 UR.nd)) (λ_ _ _ _ _=>sr) (λ_ _ _ _ _=>(OP (K:=g.K) Z (N 4) Z))) (bw (dM (oM yU hr (F (?y (?q ?gH)) (F ?fc (?q (?aA RF (?q ?gH)))))))))):=by
 let(B,x,E,j,m,d,b,a,a,a,0,e,a,v,(0,c,0,a,0),t):=h;let a:=fU;let(a,a,0,a,k,p):=v.get;let(k,P,n):=p 0 _ Z;let t:iY B H x (x::E::j::d) b (b,uw b c λ(_:cq)=>(((oE b.langs c).length:Nat),[],((oE b.langs c).flatMap λ(p:cq)=>p.tag++[32]).dropLast)) _ _:=t;let(x1,x2):=t.ofTag;lk;show ?P 0 a P;lk;show ?b4
 change ?du (fh c);unfold c9;rcases C:fh c with _|_
 .show x1 C
 rw[?eZ];let(x3,x4):=x2 C;intro y j;let u:=e.mono j;let(q,q):=u.hk;let q:=j _ _ a;lk;show ?P 0 q P;lk;show(B,x,E,m,b.langs,d,k,c,Z,u.r,Z,j _ _ n,λq=>(x3 q).mono j,λp m l a1 k a a z n _=>?_);let x:=x4 p m;let(a,t,P,a0):=OV n;let d:=e.ke.Ay m;let w:=fZ d.len e.ke.gM;let C:=n.length;let E:∀n∈(oE b.langs c).map qD,R n<=1000:=λn B=>by
  let(n,w,0):=eM.mp B;have:=(Kept.wr e.ke (d.mem n w)).1
  lia
 lk;intro d X;show IP (xs:=a1.map V.ref) (ys:=?eN) (cJ.of z) X (by simp[t]) ?b7 (λi p n m w n v=>(rfl,?_)) ?_
 .let(n,p,0):=wt m;let(z,m,0):=wt w;let(w,v2,v3,v4,v5,q):=a0 i n z p m;let m:=gc (o:=.lst ((?eN).take i)) X q;lk;show v
 let z:Le y (D k d (.lst ?eN)):=by simp_wf
 let m:D k d (.lst ?eN) d=Y (.lst ?eN):=bD;let n:nz (D k d (.lst ?eN)) a ((oE b.langs c).map qD):=P.mono (u.le.trans z);generalize D k d (.lst ?eN)=b at z m n;lk;show(by decide,λr hr=>?_)
 lk;show(d,a,_,Z,cJ.of (gc hr m),n.mono (Le.new hr),by simp;lia,E,λd a a b c=>?_)
 lk;show xu λk b y b n=>?_;let(b,n):=n;show x.same e Z (j.trans (z.trans (Le.trans (Le.new hr) (a.trans y)))) (k,b,r,d,Z,?_,y _ _ (?eM bD),.inl ?_)
 .rw[ft,t,C]at n;show n
 rw[y _ _ c];unfold i0;rw[List.flatMap_map]
def r0(b:qf)(c:?bD)(d:?jO)(a:qf):=c=[]/\d=[]/\a=b
example:fP awI ajl T.ajz WP 6 "call_save" ((mI (r0 .save))) ["kit","numbers","rows"] [] (bw (dM (oM yU hr (F bP (F ?fc (?q (?aA Z4 (?q ?l)))))))):=by
 let(l,j,c,t,r,n,b,a,a,C,0,a,P,X,(0,0,0),d):=h;let d:iY l H j (j::c::t::n) b (b,Sk.shows (Sk.textOf b.langs)) _ _:=d;let(E,v):=a.hk;let p:=a.nd;simp only[iu,bM,iw]at p;lk;show(by decide,λq hr=>?_)
 let e:D H q ?M j=_:=gc hr v;let e:=a.mono (Le.new (o:=?M) hr);lk;show(l,c,r,b.langs,n,Z,e.le,e.hd,a.no c ?c,e.la,p.2.1.2,a.ke,λx z m b w=>?_)
 lk;show xu λy B k b i=>?_;let(u,i):=i;show d.same a Z ((Le.new hr).trans (m.trans k)) (y,u,q,x,Z,i,?is (m _ _ bD),.inl (?is w))
example:fP awy ahY T.aie VM 12 "call_judge" ((mI (rT .judge))) ["kit","numbers","rows"] [] (bx (dO (?W Mb hr)) (bw (dM (oM yU hr (F bP (F (?cR (?W Mc hr)) (?q ?fc))))))):=by
 let(o,m,t,q,a,c,n,a,a,a,0,w,a,x,(0,b,0,a,0),a):=h;let d:=fU;let(d,d,0,l,d,C):=x.get;let(p,k,v):=C 0 _ Z;let a:iY o H m (m::t::q::c) n (n,if C7<R b then ji (-1)else match Na b with
  |.error c=>Cp (-6) [c]
  |.ok g=>Cp 0 [IC 0 g,IC 1 g,IC 2 g]) _ _:=a
 lk;show ?P 0 l k;lk;show ?b4
 change ?du (decide (R b<=1024));unfold c9;by_cases j:R b<=1024;rotate_left 1
 .rw[bp ?fZ]
  rw[bz (by change 1024<_;lia)]at a
  show a.no Z Ref.na
 rw[bz (im j)];rw[bp (by change¬1024<_;lia)]at a
 intro c c;let B:=c _ _ l;lk;show ?P 0 B k;lk;show(p,b,Z,c _ _ v,by lia,λb y=>?_,λb z b b P b E=>?_)
 .rw[y]at a;show(a.Kb Z Ref.fa).mono c
 rw[z]at a;let(b,b,b,k,b,X,b,b,b,b,d):=E;let d:=wj _ _ X;let j:=wj _ _ b;lk;show(by decide,λr hr=>?_)
 lk;show xu λb d e d d=>?_;let(u,d):=d;show a.same w Z (c.trans (P.trans (Le.trans (Le.new hr) e))) (b,u,k,r,Z,d,?dl (gc hr j),.inl (?dl bD))
section
variable{az:List (Key×V)}
theorem w9:(b_ az a c).map fw=if(az.any λb=>decide (b.1=a))=M then ?e7 else ?e7++[a]:=by
 unfold b_;split
 .rw[mN];show yr λd _=>?_;simp only[ahf];split<;>rfl
 simp
def w_(h:a∈(b_ az c d).map fw):a=c\/a∈?e7:=by
 rw[w9]at h;split at h
 .lia
 rcases iE.mp h with b|b
 .show .inr b
 show .inl (lX.mp b)
def G0(h:(?e7).Nodup):((b_ az e j).map fw).Nodup:=by
 rw[w9];split
 .lia
 rename_i i;show yy.mpr (h,by simp,λk b l c a=>?_)
 rw[lX.mp c]at a;subst a;let(f,d,a):=eM.mp b;show i (vT.mpr (f,d,im a))
theorem Iq:eQ (b_ az d k) e=if e=d then Y k else eQ az e:=by
 unfold eQ b_;split
 .rename_i h
  induction az with
  |nil=>grind
  |cons j az ih=>
   rw[iF];by_cases a:j.1=d
   .rw[bz a];by_cases f:e=d
    .rw[bz f,wP (by simp[a,f])]
     rfl
    rw[bp f,?dC,?dC]
    by_cases m:(az.any λb=>decide (b.1=d))=M
    .grind
    let n:az.map (λb=>if b.1=d then(axa (b.1) k)else b)=az:=by
     show(yr λc p=>?_).trans (Wj az);rw[bp (λl=>m (vT.mpr ⟨c,p,im l⟩))];rfl
    rw[n]
   rw[bp a];rw[rX,gu a,BR]at h;by_cases i:j.1=e
   .rw[wP ?fo,wP ?fo,bp (λc=>a (i.trans c))]
   rw[uf ?fo,uf ?fo]
   show ih h
 rename_i h;rw[GM];by_cases a:e=d
 .subst a;rw[?eZ,show(az.find? λb=>decide (b.1=e))=U from Ag.mpr λj o l=>h (vT.mpr ⟨j,o,l⟩)];simp
 rw[bp a];have:([(axa d k)].find? λb=>decide (b.1=e))=U:=by simp;show λc=>a c.symm
 rw[this,agJ]
def ZG(f:(?e7).Nodup)(h:∀b∈az.map fw,∃a:Nat,a<16/\b=gJ ?aO):R az<=16:=by
 have:=?fF Key ?e7 ((wb 16).map λ(a:Nat)=>(gJ ?aO:Key)) f λb e=>by
  let(a,d,c):=h b e;show eM.mpr (a,DS.mpr d,c.symm)
 simpa using this
end
def YB{args:wm}{a b:Nat}(e:a<args.length):kL (args.set a d) b=if b=a then d else ?dF b:=by
 unfold kL;rw[wO,wO,List.getElem?_set];by_cases c:a=b
 .simp_all
 rw[bp c,bp (λf=>c f.symm)]
theorem iG.args(h:iG p o d i m w n H){l:L}(r:∀b f,b≠d->b≠m->o b=Y f->l b=Y f)(a0:∃X,l d=Y (?iJ X (qu ?iB ?aY)))(t:e=m\/o e=U)(u:l e=Y (.dK q))(a3:CY (b9 p o l (e::d::i::m::n)) q Dc)(a2:(q.map fw).Nodup)(a1:∀d∈q.map fw,∃x:Nat,x<16/\d=gJ (x:Int))(P:R Dc=16):∃v,iG v l d i e w n {H with args:=Dc}/\tS p o (d::i::m::n) v l (d::i::e::n):=by
 let E:=h.nd;simp only[iu,bM,iw]at E;let((z,w,A),(B,x),C,H):=E;let T:Le p l:=λb f j=>r b f (λa=>by rw[a,?dU d]at j;cases j) (λa=>by rw[a,?dU m]at j;cases j) (h.le _ _ j)
 let s:∀b∈e::d::i::m::n,p b=U:=by
  intro b c;rcases bM.mp c with a|a
  .rcases t with k|k
   .rw[a,k];show ?dU m
   rw[a];show h.le.no k
  show h.no b a
 let v:Le p (b9 p o l (e::d::i::m::n)):=xK s;let y:∀b∈n,∀f,o b=Y f->l b=Y f:=λb c f j=>r b f (λa=>A (a▸c)) (λa=>C (a▸c)) j;let s:e≠d/\e≠i/\e∉n:=by
  rcases t with k|k
  .lia
  have:=h.new k;simp only[bM,iw]at this;show(this.1,this.2.1,this.2.2.2)
 show(b9 p o l (e::d::i::m::n),(AF T,a0,r i _ (bI z) B h.hd,h.la.mono v y,?_,h.ke,(q,u,a3,a2,a1),P,?_,?_),(?_,CD,?_))
 .intro b c f d j;rcases u:o b with _|e
  .show h.la.has b c u
  have:=y b c e u;rw[j]at this;cases this;show h.un b c f d u
 .grind
 .intro b c;show AE ?_;simp only[bM]at c ⊢;rcases c with a|a|a|a
  .show ?ab
  .show ?jZ
  .lia
  show .inr ?aT
 .intro b f c j;simp only[bM,iw]at c;show r b f c.1 c.2.2.1 j
 intro b c;simp only[bM]at c ⊢;rcases c with a|a|a|a
 .show .inl ?ai
 .show .inl ?ab
 .rcases t with k|k
  .show .inl (.inr (.inr (.inl (a.trans k))))
  show .inr (by rw[a];show k)
 show .inl ?aT
example:fP awx ahX T.aid VL 4 "call_clear" ((mI (r0 .clear))) ["kit","numbers","rows"] [] (?jR (?E v6)):=by
 let(x,b,c,d,B,v,w,a,a,a,0,q,a,a,(0,0,0),n):=h;let(e,l):=q.hk;lk;intro a i;let j:?j3 (.dK []) b=_:=gc i l;let o:a≠b:=λj=>by rw[j,l]at i;cases i
 lk;let p:∀k j,k≠b->k≠d->H k=Y j->?bE k=Y j:=λk j k _ m=>bO k (gc i m);let t:?bE b=Y (?iJ e (qu ?aC ?s)):=bD;let r:?bE a=Y (.dK []):=bO o bD;generalize ?bE=b at p t r;let(y,P,o):=q.args (Dc:=vU 16 .none) p (e,t) (.inr i) r (λE=>by
  have:kL (vU 16 ai6) E=.none:=by
   unfold kL;rw[wO,QN];split<;>rfl
  rw[this];rfl) .nil (λb l=>(nomatch l)) Z
 lk;show λb z u C=>n.ok y z c a B v b (P.mono u) ?_ C;show(λa j X m=>u _ _ (o.fr a j X m),o.gr,o.mo)
def rNV(d:?bD)(e:?jO)(c:qf):=bN λ(a:Nat) (b:Int)=>d=[?aO,b]/\e=[]/\c=.number a b
example:fP awu ahj T.ahn UL 5 "call_number" ((mI rNV)) ["kit","numbers","rows"] [] (bx (dO (?aA Vm (?q (?b ?a9 bP)))) (bx (dO (?aA Uv (?q (?b ?a9 bP)))) (?jR (Fm (lc hr) ?l (?b ?a9 bP) (?b ?a9 bP) Z)))):=by
 let(u,n,x,a,b0,y,p,e1,e2,d2,0,e,b3,d6,(i,c,0,0,0),j):=h;let d7:=fU;let(e0,0,v):=b3;let j:iY u H n (n::x::a::y) p (if 16<=i\/c<CI\/tP<c then(p,ji (-1))else({p with args:=p.args.set i (.number c)},ji 0)) _ _:=j;let(b2,a3):=e.hk;let(l,X,b5,a0,a1):=e.ar;let d3:=ZG a0 a1;lk;show ?dI 0 v;lk;by_cases C:i<16;rotate_left 1
 .rw[bp ?d]
  rw[bz (.inl ?d)]at j
  show j.no Z Ref.na
 rw[bz ?d]
 lk;show ?dI 1 v;lk;by_cases E:CI<=c/\c<=tP;rotate_left 1
 .rw[bp E];rw[bz (.inr ?d)]at j
  show j.no Z Ref.na
 rw[bz E];rw[bp ?d]at j
 lk;show ?dI 1 v;lk;show ?dI 0 v;show(a,_,Z,tQ.k (k:=gJ (i:Int)) X ?d,?_)
 let P:∀m o,m≠n->m≠a->H m=Y o->?j3 ?eU m=Y o:=λm o _ z d=>bO z d;let c4:n≠a:=?bg a3 X;let a4:?j3 ?eU n=_:=bO c4 a3;let a2:?j3 ?eU a=Y ?eU:=bD;let b1:Le u (?j3 ?eU):=λm o d=>bO (λb=>by rw[b,e.no a ?c]at d;cases d) (e.le _ _ d)
 generalize ?j3 ?eU=a7 at P a4 a2 b1;let c3:Le u (b9 u H a7 (a::n::x::a::y)):=xK λm c0=>by
  rcases bM.mp c0 with b|b
  .rw[b];show e.no a ?c
  .show e.no m b
 let d4:tP=9223372036854775807:=rfl;let d5:CI=-9223372036854775808:=rfl;let(a6,c2,B):=e.args (Dc:=p.args.set i (.number c)) P (b2,a4) ?aG a2 (λt=>by
  rw[YB (by rw[e.al];show C)]
  by_cases w:t=i
  .subst w;rw[?eZ];show(by rw[Iq,?eZ],by lia)
  .have:=(b5.mono c3) t;rw[bp w];let d:eQ (?aR ?f3) (gJ (t:Int))=eQ l (gJ (t:Int)):=by
    rw[Iq,bp (λb=>w (by injection b with b;lia))]
   revert this;cases kL p.args t with
   |none=>lia
   |number e3=>simp_all
   |text d1=>intro q;let(a9,c5,c6):=q;show(a9,d.trans c5,c6)) (G0 a0) (λc1 b6=>by
  rcases w_ b6 with b|b
  .show(i,C,b)
  .show a1 c1 b) (by rw[BL];show e.al)
 lk;show λc7 a8 a5 b4=>j.ok a6 a8 x a b0 y c7 (c2.mono a5) ?_ b4;show(λd0 o z d=>a5 _ _ (B.fr d0 o z d),B.gr,B.mo)
example:fP awJ ajo T.ajC WS 5 "call_word" ((mI (Ke λi j=>.word i j))) ["kit","numbers","rows"] [] (bx (dO (?aA Vm (?q (?b ?a9 bP)))) (bx (?ao (?B vE (?y (?q (?b ?dr bP))) (?Y T.agX))) (?jR (Fm (lc hr) ?l (?b ?a9 bP) (?b ?dr bP) Z)))):=by
 let(u,o,x,a,a5,y,q,b,b,b,0,e,l,b,(i,j,0,0,c,0),m):=h;let c:=fU;let(c,c,0,n,c,d):=b.get;let(c,b,B):=d 0 _ Z;let(d,0,d):=l;let m:iY u H o (o::x::a::y) q (if 16<=i\/Sk.WORD<R j then(q,ji (-1))else({q with args:=q.args.set i (.text j)},ji 0)) _ _:=m;let l:Sk.WORD=64:=rfl;let(a6,t):=e.hk;let(l,C,a7,a1,a2):=e.ar;let p:=ZG a1 a2;lk;show ?dI 0 d;lk;by_cases a0:i<16;rotate_left 1
 .rw[bp ?d]
  rw[bz (.inl ?d)]at m
  show m.no Z Ref.na
 rw[bz ?d]
 lk;show ?P 0 n b;lk;rw[gZ];show hU (λv=>?_) (λv=>?_)
 .rw[bz (.inr ?d)]at m
  show iI (m.no Z Ref.na)
 let v:¬(64:Int)<((j.length:Nat):Int):=v;rw[bp ?d]at m
 lk;show ?P 0 n b;lk;show ?dI 0 d;show(a,_,Z,tQ.k (k:=gJ (i:Int)) C ?d,?_)
 let w:∀n p,n≠o->n≠a->H n=Y p->?gL n=Y p:=λn p _ E d=>bO E d;let v:o≠a:=?bg t C;let a4:?gL o=_:=bO v t;let a3:?gL a=Y (.dK (?aR ?aC)):=bD;let z:?gL c=_:=bO (?bg B C) B;let v:Le u ?gL:=λn p d=>bO (λb=>by rw[b,e.no a ?c]at d;cases d) (e.le _ _ d)
 generalize ?gL=t at w a4 a3 v z;let a8:Le u (b9 u H t (a::o::x::a::y)):=xK λn C=>by
  rcases bM.mp C with b|b
  .rw[b];show e.no a ?c
  show e.no n b
 let n:=e.uO B;let B:b9 u H t (a::o::x::a::y) c=Y (.tup (bT j)):=xJ v z (λb=>by
  rcases ?i3 with P|P
  .show n (by rw[P];simp)
  show n P) (.inr ?f0)
 let(n,o,X):=e.args (Dc:=q.args.set i (.text j)) w (a6,a4) ?aG a3 (λw=>by
  rw[YB (by rw[e.al];show a0)]
  by_cases z:w=i
  .subst z;rw[?eZ];show(c,by rw[Iq,?eZ],B,by lia)
  .have:=(a7.mono a8) w;rw[bp z];let d:eQ (?aR ?aC) (gJ (w:Int))=eQ l (gJ (w:Int)):=by
    rw[Iq,bp (λb=>z (by injection b with b;lia))]
   revert this;cases kL q.args w with
   |none=>intro t;show d.trans t
   |number c=>intro t;show(d.trans t.1,t.2)
   |text j=>intro t;let(c,j,l):=t;show(c,d.trans j,l)) (G0 a1) (λj c=>by
  rcases w_ c with b|b
  .show(i,a0,b)
  show a2 j b) (by rw[BL];show e.al)
 lk;show λj c b e=>m.ok n c x a a5 y j (o.mono b) ?_ e;show(λa p E d=>?ga (X.fr a p E d),X.gr,X.mo)
def S2(mk:aP->aP->aP->qf)(e:?bD)(f:?jO)(d:qf):=e=[]/\gG λa b c=>f=[bT a,bT b,bT c]/\R a<=20000/\R b<=20000/\R c<=20000/\d=mk a b c
def aqi{st:nW}{e a d:aP}(i:fh e=M)(j:a=[]\/fh a=M)(k:R d<=4):¬(fh e=I\/(a.isEmpty=I/\fh a=I)\/wu<R d):=by
 have:wu=4:=rfl;rintro(c|⟨f,h⟩|c)
 .grind
 .rcases j with b|b
  .rw[b]at f;cases f
  rw[b]at h;cases h
 lia
section
variable{st:nW}{t u w:aP}
def atD(a:fh t=I\/(u.isEmpty=I/\fh u=I)\/wu<R w):?ew=(st,ji (-1)):=bz a
def atC(b:¬?cU)(h:u≠[])(a:?aU u=U):?ew=(st,ji (-3)):=(bp b).trans (bz (by cases u with|nil=>show bK Z h|cons _ _=>rfl,by rw[a];rfl))
theorem G8(f:Rm.Kept st.langs)(e:¬?cU)(a:u=[]\/(?aU u).isSome=M):?ew=if((oE st.langs u).any λ(c:cq)=>c.tag==t)=M then(st,ji (-5))else match ?aU t with
 |some _=>({st with langs:=we st.langs t λ(c:cq)=>{c with back:=pp u,ways:={c.3 with sep:=w}}},ji 1)
 |none=>if Eb<=R st.langs then(st,ji (-9))else ?ix:=(bp e).trans (bp (λb=>by
 rcases a with a|a
 .simp_all
 rcases d:?aU u with _|_
 .rw[d]at a;cases a
 rw[d]at b;cases b.2))
def atB(c:Rm.Kept st.langs)(d:¬?cU)(b:(?aU u).isSome=M)(a:((oE st.langs u).map qD).contains t=M):?ew=(st,ji (-5)):=(G8 c d (.inr b)).trans (bz (by rw[<-Mt];show a))
theorem PK(c:Rm.Kept st.langs)(a:¬?cU)(b:Jj st.langs t u):?ew=match ?aU t with
 |some _=>({st with langs:=we st.langs t λ(d:cq)=>{d with back:=pp u,ways:={d.3 with sep:=w}}},ji 1)
 |none=>if Eb<=R st.langs then(st,ji (-9))else ?ix:=by
 let e:u=[]\/(?aU u).isSome=M:=b.imp id λa=>a.1;show(G8 c a e).trans (bp ?_);rcases b with b|b
 .rw[b,aia c.anU];show λa=>nomatch a
 rw[<-Mt,b.2];show λa=>nomatch a
end
def SX:gy ["kit","numbers","rows","was_there"] ["kit","numbers","rows"] (eO Tv):=(rfl,Z,Z,by decide+kernel,Z,by decide+kernel,by decide+kernel)
def agf[y:?da]:?jF 8 "call_language" (mI (S2 .language)):=wy y.agm SX ?bF Bd λc e9 e4 g2 g5 a8 g8 e7 c2 m h=>by
 let(g6,e2,g7,0,h):=h;show(_,(bx (dO (?W sh m)) (nh (?cQ (?B (Ft m.units) (?b ?dr bP) (uH (v:=.ref g.mG) Z y.Az Z)) (bw (dO (?W sh m)))) (bx (dO (?W RZ m)) (bx (?n 3 SX.nd (?U y.rJ Ln m (F (?b ?dr bP) (?cB (?b ?dr bP))))) (bw (dM (cQ tq m (?q (qI (jD ?gH) bP bP))))))))),?_)
 try dsimp only[eJ,jC,jF,jA]
 let(c1,b6,d1,d0,c6,d7,st,g1,g4,e8,0,t,f1,d3,(0,e,a,w,0,g9,h0,h1,0),j):=h;let f5:=fU;let(e1,g3,0,z,f4,a3):=d3.get;let(c5,b1,d2):=a3 0 _ Z;let(a9,X,a0):=a3 1 _ Z;let(b0,b2,b3):=a3 2 _ Z;let a6:(fh e=I\/(a.isEmpty=I/\fh a=I)\/wu<R w)->?aL a8 c2:=λe3=>j.no (atD e3) Ref.na;lk;show ?P 0 z b1;lk;show ?b4
 change ?du (fh e);unfold c9;cases H:fh e with
 |false=>show a6 (.inl H)
 |true=>
 rw[?eZ];intro c3 n;let b5:=?cA z;show(λc0 B=>Le a8 B/\(a=[]\/fh a=M)/\c0=[Y (.ref b6),Y e2,Y (.ref e1),U],?_,?_)
 .lk;show ?P 1 b5 X;lk;show JF (w:=[]) (cZ.of (?cA a0)) (y.Cw c3) ?_;cases l:decide (a=[])with
  |true=>
   lk;show(n,.inl (lN l),Z)
  |false=>
   let l:=nN l;lk;show ?P 1 b5 X;lk;show(a9,a,Z,?cA a0,by lia,?_)
   unfold c9;cases f:fh a with
   |false=>show(a6 (.inr (.inl (by cases a with|nil=>show bK Z l|cons _ _=>rfl,f)))).mono n
   |true=>show λc4 o=>(n.trans o,.inr Z,Z)
 intro c0 c4 ξ;let(o,l,0):=ξ;let d5:=o _ _ z;lk;show ?P 2 d5 b2;lk;show(b0,w,Z,o _ _ b3,by lia,?_)
 change ?du (decide (R w<=4));unfold c9;let f2:wu=4:=rfl;cases f:decide (R w<=4)with
 |false=>
  let f:=nN f;show(a6 (.inr (.inr ?d))).mono o
 |true=>
 let f:=lN f;let x:=aqi (st:=st) H l f;rw[?eZ];intro e5 b;let b:=o.trans b;let a2:=?ga z;let b4:=t.mono b;let(f0,f3):=b4.hk;lk;show ?P 0 a2 b1;lk;show ?P 1 a2 X;lk;show ?P 2 a2 b2;lk;show(_,_,_,_,Z,c1,b6,d1,d0,c6,d7,st,c5,e,a9,a,b0,w,Z,b4,Z,?ga d2,Z,?ga a0,Z,?ga b3,H,f,λp c=>?_,λp c c7=>?_,λs c d6=>?_,λs c=>?_,λs c d6=>?_)
 .show(j.no (atC x p c) Ref.nl).mono b
 .show(j.no (atB t.ke x c c7) Ref.cr).mono b
 .let d4:Eb=12:=rfl;show(j.no ((PK t.ke x s).trans (by rw[c];show bz ?d)) Ref.fu).mono b
 .intro A B T P E a5 a4 d;let k:rA st (.language e a w)=({st with langs:=we st.langs e λ(q:cq)=>{q with back:=pp a,ways:={q.3 with sep:=w}}},ji 1):=(PK t.ke x s).trans (by
   cases e0:?aU e with
   |none=>rw[e0]at c;cases c
   |some _=>rfl)
  rw[k]at j;lk;show λv C u a1=>j.ok A C T P E a5 v (a4.mono u) ?_ a1;let d:=d.of_le b;show(λq a7 p k=>u _ _ (d.fr q a7 p k),d.gr,d.mo)
 .intro A B T P E a5 a4 d;let k:rA st (.language e a w)=({st with langs:=st.langs++[(e,pp a,(w,[]),[])]},ji 0):=(PK t.ke x s).trans (by rw[c];show bp (by let d4:Eb=12:=rfl;lia))
  rw[k]at j;lk;show λv C u a1=>j.ok A C T P E a5 v (a4.mono u) ?_ a1;let d:=d.of_le b;show(λq a7 p k=>u _ _ (d.fr q a7 p k),d.gr,d.mo)
def Q0(h:(fh b&&lE a)=M):fh b=M/\lE a=M:=by simpa using h
def P_(h:(fh a&&lE b)=I):fh a=I\/lE b=I:=by
 rcases c:fh a with _|_
 .show ?aG
 rw[c,Ak]at h;show .inr h
theorem iG.entries{j i:L}{n m l:S}{E o:?aD}{u:nW}(h:iG j i n m l E o u){v:aP}{r:cq}(A:gt u.langs v=Y r):Qk λs e z b d p q x=>eQ (hG E u.langs) (bk v)=Y (.ref s)/\i s=Y (?A z (iX b d p q ?aY))/\i e=Y (.dT x)/\lQ j x r.entries/\e∈o/\∀{H':L} {B:?j4} {f:List jz->List jz},(∀a c,a≠e->i a=Y c->H' a=Y c)->H' e=Y (.dT B)->(∀k,Le j k->(∀a c,H' a=Y c->a∉n::m::l::o->(i a=U\/∃v,c=.tup v)->k a=Y c)->lQ k B (f r.entries))->bN λk C=>iG k H' n m l E C {u with langs:=we u.langs v λ(a:cq)=>{a with entries:=f a.entries}}/\tS j i (n::m::l::o) k H' (n::m::l::C):=by
 rcases h.la.find v with⟨w,_⟩|⟨a3,s,b,_,_,b,H,w,d,_⟩
 .rw[w]at A;cases A
 rw[w]at A;cases(A);let(e,p,q,t,P,v,A,t,E,fin):=h.set b H;let(z,b2,a2,b1,x,b3,T,a4,a5,a6,a7,a0,a8,a9,b0,b,t):=q;let q:i e=Y (.dT x):=by
  rcases b with b|⟨c,b⟩
  .show b
  show bK b (h.un e P _ _)
 show(s,e,z,_,_,_,_,x,d,T,q,t,P,λ{H' B f} t X x=>?_);let a1:Le j H':=λa c d=>t a c (λb=>by rw[b,h.no e (by simp[P])]at d;cases(d)) (h.le _ _ d)
 let y:Le j (b9 j i H' (p::n::m::l::o)):=xK λa q=>by
  rcases bM.mp q with q|q
  .rw[q];show h.no p (by simp[v])
  show h.no a q
 let P:=x (b9 j i H' (p::n::m::l::o)) y λa c d x f=>xJ a1 d (λb=>by
  rcases ?i3 with q|q
  .show x (by rw[q];simp[v])
  show x q) f
 let q:kE (b9 j i H' (p::n::m::l::o)) H' s {r with entries:=f r.entries} e p:=
  (z,b2,a2,b1,B,b3,t _ _ A T,y _ _ a4,a5.mono y,y _ _ a6,a7,t _ _ (bI E) a0,jb.lu a8 λ_ _ b=>b.mono y,a9,b0,.inl X,P)
 let i:Rm.Kept (u.langs.set a3 {r with entries:=f r.entries}):=by
  rw[<-Cg h.ke.tags H (Cv w) (f:=λa=>{a with entries:=f a.entries})];show Wt h.ke (λ_=>rfl) (λ_=>rfl)
 let j:∀a,(a=s\/a=e\/a=p)->∀c e,H' a≠Y (.eI c e):=by
  rintro a (b|b|b) c e d
  .rw[b,t _ _ A T]at d;cases d
  .rw[b,X]at d;cases d
  rw[b,t _ _ (bI E) a0]at d;cases d
 let(k,C,e,l):=fin (H':=H') (gX:=p) (λa c _ b _ d=>t a c b d) ?aG q Z i j;show(k,C,?_,l);rw[Cg h.ke.tags H (Cv w)];show e
theorem lQ.entry{f:cq}(h:lQ l e f.entries)(a:aP):(eQ e (bk a)).isSome=(f.entry a).isSome:=by
 rcases b:f.entry a with _|c
 .rcases k:eQ e (bk a)with _|p
  .rfl
  let(c,m,d):=h.only (bk a) (by
   unfold eQ at k;let(o,j,0):=QP.mp k;have:=BK j;rw[<-lN this];show List.mem_map_of_mem (Bv j))
  let d:=uI d;unfold RX at b;show bK (beq_iff_eq.mpr d.symm) (Ag.mp b c m)
 unfold RX at b;let(n,i,_):=h.has c (Bv b);have:=BK b;rw[?jD]at i;rw[i];rfl
def aiS:gy ["kit","numbers","rows"] ["kit","numbers","rows"] (eO WK):=(rfl,Z,Z,by decide+kernel,Z,by decide+kernel,by decide+kernel)
theorem ajg[E:?da]:?jF 6 "call_drop" (mI (Gb .drop)):=wy E.aju aiS ?bF Bd λf f4 f2 g4 g6 C h0 c0 b4 u h=>by
 obtain⟨g7,g8,g9,rfl,h⟩:=h;show(_,(bx (dO (cQ Lb u (?q ?dr))) (bx (dO (cQ agM u (?cB (?U E.rJ yB u (?q (?b ?dr bP)))))) (bw (dM (cQ tq u (?q bP)))))),?_)
 try dsimp only[eJ,jC,jF,jA]
 obtain⟨A,p,t,x,c2,a9,e,g3,g5,f3,rfl,d0,f5,d1,⟨rfl,j,b,rfl,f0,f1,rfl⟩,c⟩:=h;have g2:=fU;obtain⟨e1,e0,rfl,a3,g1,a5⟩:=d1.get;obtain⟨H,X,a1⟩:=a5 0 _ rfl;obtain⟨P,a0,a2⟩:=a5 1 _ rfl;have c:iY A C p (p::t::x::a9) e (if fh j=I\/lE b=I then(e,ji (-1))else match gt e.langs j with
  |none=>(e,ji (-3))
  |some d=>if(d.entry b).isNone=M then(e,ji (-4))else ?dt) _ _:=c
 lk;show(e1,e0,j,b,H,P,rfl,a3,X,a0,a1,a2,f0,f1,?_);unfold c9;cases T:(fh j&&lE b)with
 |false=>
  rw[bz (P_ T)]at c;show c.no rfl Ref.na
 |true=>
 obtain⟨c3,c4⟩:=Q0 T;rw[bp (by rw[c3,c4];simp)]at c
 rw[bz rfl];intro b5 k;have o:=d0.mono k;obtain⟨c6,d3⟩:=o.hk;have a4:=?is a3;lk;show ?P 0 a4 X;lk;show(p,c6,t,_,_,H,j,rfl,d3,.inl o.hd,rfl,?is a1,λa=>?_,λb1 a=>?_)
 .rcases o.la.find j with⟨m,_⟩|⟨i,w,d,_,_,c1,d6,m,q,_⟩
  .rw[m]at c;show(c.no rfl Ref.nl).mono k
  .rw[q]at a;cases a
 obtain⟨d,a6⟩:∃d,gt e.langs j=Y d:=by
  rcases o.la.find j with⟨_,m⟩|⟨i,w,d,_,_,c1,d6,m,q,_⟩
  .simp_all
  .show(d,m)
 rw[a6]at c;obtain⟨w,a8,c5,e2,e3,e4,e5,y,e7,e8,e9,b2,h1,fin⟩:=o.entries a6;rw[e7]at a;cases a;have l:=b2.entry b;lk;show ?P 1 a4 a0;lk;show(w,c5,e2,e3,e4,e5,a8,y,P,b,rfl,e8,e9,rfl,?is a2,λa=>?_,λa=>?_)
 .rw[a]at l;show(c.no (bz ?_) Ref.nm).mono k;cases v:d.entry b with
  |none=>rfl
  |some _=>rw[v]at l;cases l
 .have c:iY A C p (p::t::x::a9) e ?dt c0 b4:=by
   have:¬(d.entry b).isNone=M:=λb3=>by
    cases v:d.entry b with
    |none=>
     rw[v]at l;cases q:eQ y (bk b)with
     |none=>show a q
     |some _=>rw[q]at l;cases l
    |some _=>rw[v]at b3;cases b3
   simp only[bp this]at c;show c
  obtain⟨B,d7,d4,s⟩:=fin (H':=D b5 a8 (.dT (qo y (bk b)))) (f:=λc7=>c7.filter λ(a:jz)=>a.key !=b) (λn b0 z a=>bO z a) bD (λB d5 _=>(b2.mono d5).drop b);lk;show λb1 b6 a7 d2=>c.ok B b6 t x c2 d7 b1 (d4.mono a7) ?_ d2;have s:=s.of_le k;show(λd b0 z a=>a7 _ _ (s.fr d b0 z a),s.gr,s.mo)
def YW(h:lE a=M):R a<=24/\a≠[]:=by
 unfold lE at h;show(by lia,λb=>?_)
 rw[b]at h;simp at h
example:fP Xb akC T.akK XU 12 "call_put" ((mI (S2 .put))) ["kit","numbers","rows"] ["language","was_there"] (bx (dO (?aA Lb (?q ?dr))) (bx (dO (?W Mb hr)) (bx (eG (i:=3) Xb.nd rfl ?aJ (?U T.rJ yB hr (?q (?b ?dr bP)))) (bx (eG (i:=4) Xb.nd rfl ?aJ (?aA Ux (F ?gH (F (?b ?dr bP) (?q (?W Mc hr)))))) (bw (dM (?aA tq (?q (qI (jD (N 4)) bP bP))))))))):=by
 obtain⟨e1,E,x,C,c4,b6,o,k0,k1,h7,rfl,f1,i2,f3,⟨rfl,q,c,n,rfl,h4,h5,k3,rfl⟩,b⟩:=h;have j2:=fU;obtain⟨g5,g4,rfl,b0,i3,b2⟩:=f3.get;obtain⟨c1,c7,d0⟩:=b2 0 _ rfl;obtain⟨c2,a0,d1⟩:=b2 1 _ rfl;obtain⟨c3,a8,d2⟩:=b2 2 _ rfl;have b:iY e1 H E (E::x::C::b6) o (if fh q=I\/lE c=I\/C7<n.length then(o,ji (-1))else match gt o.langs q with
  |none=>(o,ji (-3))
  |some a=>match Na n with
   |.error p=>(o,Cp (-6) [p])
   |.ok g=>if(a.entry c).isNone=M/\C6<=a.entries.length then(o,ji (-9))else({o with langs:=we o.langs q λ(d:cq)=>{d with entries:=BY (c,n,g) d.entries}},ji (if(a.entry c).isSome=M then 1 else 0))) _ _:=b
 lk;show(g5,g4,q,c,c1,c2,rfl,b0,c7,a0,d0,d1,h4,h5,?_);unfold c9;cases c5:(fh q&&lE c)with
 |false=>
  rw[bz ((P_ c5).imp id .inl)]at b;show b.no rfl Ref.na
 |true=>
 obtain⟨e4,c6⟩:=Q0 c5;rw[bz rfl];intro h6 a2;have g1:=a2 _ _ b0;lk;show ?P 2 g1 a8;lk;show(c3,n,rfl,a2 _ _ d2,by lia,?_)
 change ?du (decide (n.length<=1024));unfold c9;have i1:C7=1024:=rfl;cases B:decide (n.length<=1024)with
 |false=>
  have B:=nN B;rw[bz (.inr (.inr ?d))]at b
  show(b.no rfl Ref.na).mono a2
 |true=>
 have B:=lN B;rw[bp (by rw[e4,c6];simp;lia)]at b
 rw[bz rfl];intro e2 k;have k:=a2.trans k;have v:=f1.mono k;obtain⟨e7,f4⟩:=v.hk;have b1:=?is b0;lk;show ?P 0 b1 c7;lk;show(E,e7,x,_,_,c1,q,rfl,f4,.inl v.hd,rfl,?is d0,λe=>?_,λa3 e=>?_)
 .rcases v.la.find q with⟨z,_⟩|⟨i,a7,a,_,_,e3,g3,z,l,_⟩
  .rw[z]at b;show(b.no rfl Ref.nl).mono k
  .rw[l]at e;cases e
 obtain⟨a,d4⟩:∃a,gt o.langs q=Y a:=by
  rcases v.la.find q with⟨_,z⟩|⟨i,a7,a,_,_,e3,g3,z,l,_⟩
  .rw[z]at e;cases e
  .show(a,z)
 rw[d4]at b;obtain⟨a7,b4,e5,g6,v1,v2,v3,b3,g7,g8,h0,a4,h2,fin⟩:=v.entries d4;rw[g7]at e;cases e;have w:=a4.entry c;have i4:=a4.len;have h8:=a4.gM;lk;show ?P 1 b1 a0;lk;show ?P 2 b1 a8;lk;show(c3,n,rfl,?is d2,by lia,λp a1=>?_,λb5 a1 h3 c0 y j9 f2=>?_)
 .simp only[a1]at b;show(b.Kb rfl Ref.fa).mono k
 simp only[a1]at b;have h9:C6=48:=rfl;have g9:=y _ _ g8;have h1:=y _ _ h0;lk;show(_,_,_,rfl,a7,e5,g6,v1,v2,v3,b4,b3,c2,c,rfl,g9,h1,by lia,rfl,y _ _ (?is d1),λa0 a8=>?_,λf5=>?_)
 .rw[a0]at w;show(b.no (bz (?_,by lia)) Ref.fu).mono (k.trans y)
  cases t:a.entry c with
  |none=>rfl
  |some _=>rw[t]at w;cases w
 .have d3:¬((a.entry c).isNone=M/\C6<=a.entries.length):=λu=>by
   show f5 (?_,by lia)
   cases t:?fM b3 with
   |none=>rfl
   |some _=>
    rw[t]at w;cases l:a.entry c with
    |none=>rw[l]at w;cases w
    |some _=>rw[l]at u;cases u.1
  rw[bp d3]at b;have d7:∀d j,d9 e2 c0 d=Y j->d≠b4/\d∉E::x::C::b6:=λd j e=>by
   have d5:d∉E::x::C::b6:=by
    rcases xn d j e with u|⟨k2,u⟩
    .show v.new u
    .subst u;have:=(v.mono y).uO (wj d _ e);show this
   show(λu=>d5 (by rw[u];simp[h2]),d5)
  obtain⟨a5,e0,d6,m⟩:=fin (H':=D c0 b4 (.dT (b_ b3 (bk c) (.ref h3)))) (f:=λe9=>BY (c,n,b5) e9) (λd j X e=>bO X (y _ _ e)) bD (λa5 g2 f0=>a4.put g2 (e:=(c,n,b5)) (f2.mono λd j e=>f0 d j (bO (d7 d j e).1 (wj d j e)) (d7 d j e).2 (xn d j e)) (B,by have:=XN a1;change fk b5<=1025;lia,YW c6) (by
   by_cases t:a.entries.length<48
   .show .inr t
   .show .inl ?_;cases l:a.entry c with
    |none=>show bK (by rw[l];rfl,by lia) d3
    |some e8=>
     unfold RX at l;show(e8,Bv l,beq_iff_eq.mp (BK (p:=λe:jz=>e.key==c) l))))
  rw[w];cases t:(a.entry c).isSome with
  |true=>
   rw[t,bz rfl]at b;lk;show λa3 a6 P a9=>b.ok a5 a6 x C c4 e0 a3 (d6.mono P) ?_ a9;have m:=m.of_le k;show(λa j X e=>P _ _ (m.fr a j X e),m.gr,m.mo)
  |false=>
   rw[t,bp ?i]at b
   lk;show λa3 a6 P a9=>b.ok a5 a6 x C c4 e0 a3 (d6.mono P) ?_ a9;have m:=m.of_le k;show(λa j X e=>P _ _ (m.fr a j X e),m.gr,m.mo)
theorem Yh:∀(a:Nat) (l:?dK) (b:List j3),Ed a l=Y b->∀i∈b,EQ i
 |a,[],b,h=>by rw[NP]at h;cases h;simp
 |0,_::_,b,h=>by cases h
 |a+1,j::l,b,h=>by
  rcases c:Nw ((j::l).take 6)with _|i
  .rw[NO ?c c]at h;cases h
  rw[Nt ?c c]at h
  rcases d:Ed a ((j::l).drop 6)with _|n
  .grind
  rw[d]at h;cases h;intro m k;rcases bM.mp k with e|e
  .rw[e];let(q,r,t,s,o,p,_,f,0):=Ei c;show(f.1,f.2.2.2)
  show Yh a _ n d m e
def aiZ{l:?dK}(h:Nc l=Y b):R b<=32/\∀c∈b,EQ c:=by
 rw[Yg]at h;rcases a:Ed 32 l with _|d
 .rw[a]at h;cases h
 rw[a]at h;simp only at h;split at h
 .cases h;show(B4 _ _ _ a,Yh _ _ _ a)
 cases h
def rTL(c:?bD)(d:?jO)(b:qf):=c=[]/\bN λ(a:aP) (l:?dK)=>d=[bT a,l.map nV]/\R a<=20000/\R l<=1000/\b=.rules a l
example:fP US ah0 T.aig VO 6 "call_rules" ((mI rTL)) ["kit","numbers","rows"] ["terms","language"] (?cm (bx (?n 3 US.nd (?W ah5 hr)) (bx (?n 4 US.nd (?U T.rJ yB hr (?q (?b ?dr bP)))) (bx (fV (N 4) ?gH Z) (bw (dM (?aA tq (?q (?y (?q ?gH)))))))))):=by
 let(x,z,y,C,c6,a4,t,a,a,a,0,X,a,c,(0,u,l,0,a,b5,0),e):=h;let a:=fU;let(a,a,0,b,a,a):=c.get;let(d,c,n):=a 0 _ Z;let(j,k,o):=a 1 _ Z;let e:iY x H z (z::y::C::a4) t (if fh u=I then(t,ji (-1))else match Nc l with
  |none=>(t,ji (-1))
  |some r=>if(gt t.langs u).isNone=M then(t,ji (-3))else({t with langs:=we t.langs u λ(m:cq)=>{m with ways:={m.3 with rules:=r}}},ji (r.length:Nat))) _ _:=e
 lk;show ?P 0 b c;lk;show ?b4
 change ?du (fh u);unfold c9;cases a:fh u with
 |false=>
  rw[bz a]at e;show e.no Z Ref.na
 |true=>
 rw[?it]at e
 rw[?eZ];intro a7 B;let a:=B _ _ b;lk;show ?P 1 a k;lk;show(j,l,Z,B _ _ o,b5,?_);cases a:Nc l with
 |none=>
  rw[a]at e;show(e.no Z Ref.na).mono B
 |some r=>
 simp only[a]at e;let(d2,d3):=aiZ a;intro gX b3 j w a6 b6 c0 d4;let a2:=w;let w:=B.trans w;let p:=X.mono B;let a1:=X.mono w;let(a,k):=a1.hk;let o:=w _ _ b;lk;show ?P 0 o c;lk;show(z,a,y,_,_,d,u,Z,k,.inl a1.hd,Z,w _ _ n,λa=>?_,λc5 a=>?_)
 .rcases a1.la.find u with⟨q,_⟩|⟨i,k,m,_,_,b,a3,q,b2,_⟩
  .rw[bz (by rw[q];rfl)]at e
   show(e.no Z Ref.nl).mono w
  rw[b2]at a;cases a
 rcases p.la.find u with⟨_,q⟩|⟨i,k,m,_,_,b,a3,a8,c,_⟩
 .rw[q]at a;cases a
 rw[c]at a;cases a;rw[bp (by rw[a8];simp)]at e
 let(n,o,c,u,c2,d,c3,d,d,fin):=p.set b a3;let(E,a0,P,w,c1,b,q,b2,e1,e2,e3,b,b,b,b,c4,e0):=c;let b:=a2 _ _ q;lk;let a5:gX≠k:=λc=>by rw[c,q]at a6;cases a6
 let v:∀b d,b≠k->j b=Y d->D j k (?A E ?cx) b=Y d:=λb d b1 a=>bO b1 a;let b0:D j k (?A E ?cx) k=Y (?A E (iX (.ref a0) P (.ref w) (.ref gX) ?jN)):=bD;let a9:=v _ _ a5 b6;generalize D j k (?A E ?cx)=o at v b0 a9;lk;let d0:Le x o:=λb d a=>v b d (λc=>by rw[c,p.no k (by simp[u])]at a;cases a) (a1.le _ _ a)
 let a1:Le x ?jo:=xK λb j=>by
  rcases bM.mp j with j|j
  .rw[j];show p.le.no a6
  show p.no b j
 let d6:Rd o n (.dT c1):=by
  rcases c4 with c|⟨d,c⟩
  .show .inl (v _ _ (bI c3) (a2 _ _ c))
  show bK c (p.un n c2 _ _)
 let d7:jb (sx ?jo) b3 r:=HK c0 λc7 b4 d5 u=>by
  let(d1,u):=u;let a5:=d4 c7 d5;show(d1,xJ d0 (v _ _ (λc=>by rw[c,q]at a5;cases a5) u) (λc=>by
   rcases bM.mp c with j|j
   .rw[j,b6]at u;cases u
   show p.new a5 j) (.inl a5))
 let u:kE ?jo o k {m with ways:={m.3 with rules:=r}} n gX:=
  (E,a0,P,w,c1,b3,b0,a1 _ _ b2,e1.mono a1,a1 _ _ e2,e3,a9,d7,d2,d3,d6,e0.mono a1)
 let q:Rm.Kept (t.langs.set i {m with ways:={m.3 with rules:=r}}):=by
  rw[<-?fW];show Wt X.ke (λ_=>rfl) (λ_=>rfl)
 let t:∀b,(b=k\/b=n\/b=gX)->∀d b4,o b≠Y (.eI d b4):=by
  rintro b (c|c|c) d b4 a
  .rw[c,b0]at a;cases a
  .rcases c4 with j|⟨k,j⟩
   .rw[c,v _ _ (bI c3) (a2 _ _ j)]at a;cases a
   show p.un n c2 _ _ j
  rw[c,a9]at a;cases a
 let(k,p,j,c):=fin (H':=o) (gX:=gX) (λb d b5 _ _ a=>v b d b5 (a2 _ _ a)) (.inr a6) u Z q t;rw[<-?fW]at j;let b:R b3=R r:=c0.length;lk;rw[ft,b];show λc5 n b o=>e.ok k n y C c6 p c5 (j.mono b) ?_ o;let c:=c.of_le B;show(λm d b1 a=>?ga (c.fr m d b1 a),c.gr,c.mo)
inductive alM(j:V)(b:L)(h:VK)(k:XK):Prop
 |i (c dl e a f) (_:j=.ref dl) (_:Le c b) (_:b dl=Y (.dT (hG e a))) (_:c dl=U) (_:jU c b e a f) (_:dl∉f) (_:(a.map qD).Nodup) (_:a.length<=12) (_:∀d,Le b d->h (.bl (xx a)) d)
def ank:Sp:=ic (alM)
example:fP Eh akE T.akO XY 1 "ways_end" ((ank)) ["languages"] ["tag","steps","fallback"] (bx (IX (?fd (IW ?cJ) (?R 1 Eh.nd) (bx (?n 2 Eh.nd bP) (bx (?n 3 Eh.nd (?cR (?ak ?cJ ?a9))) (bw (wk lZ (?B (Ft hr.units) ?gH ?cH) (bx (Pj (i:=2) Eh.nd Z ?a bP Pe) (bx (?cQ (PW.pt (qR (uK (EE (lc hr) ?gH ?cJ)) (vC (?B jV ?dr (?cp HE T.7 (?q ?cJ)))))) (bw (dM AW))) (bw (?n 3 Eh.nd (?cR (?ak ?cJ ?gH)))))))))))) (bw (dM AW))):=by
 let(a0,b,k,a,h8,0,h7,d4,g1,e0,g2,g6,d0,b4):=h;let l3:=fU;let d2:=e0.length;let d3:=Ey d2;lk;show(b,_,d4,trivial,λq=>?_);let t:D H b ?ee b=Y ?ee:=bD;let b6:jU a0 (D H b ?ee) k a h8:=e0.mono .refl λy h5 n c=>bO (λm=>g2 (m▸h5)) c;let b5:Le a0 (D H b ?ee):=λy n c=>bO (λm=>by rw[m,g1]at c;cases c) (h7 _ _ c)
 let a5:∀o,Le (D H b ?ee) o->?eo (D o b (.dT (hG k a))):=by
  intro o f y n c;by_cases d:y=b
  .rw[d]at c ⊢;rw[d4]at c;rw[bD];show c
  .show bO d (f y n (bO d c))
 lk;show(b,q,Z,.inr (_,t,?_));generalize D H b ?ee=a1 at t b6 b5 a5;show HQ (λa2 B o=>Le a1 o/\(∀P j,P<a2->a[P]?=Y j->∃w,Rm.Way a j.tag w)/\gG λc3 z c4=>B=[?j5,c3,z,c4]) (.refl,λP j h=>bK h (Tf _),U,U,U,Z) (λa2 B o _ c=>c.1 _ _ t) ?_ ?_
 .intro a2 l4 n1 a3 B o g5 g8 ξ;let(X,b1,c3,z,c4,0):=ξ;let(i3,j,l0,b3,0,0):=YH d2 g5;let e2:=lW b3;let l2:a2<R a:=(ig.mp b3).1;let d6:=Hz g6 e2;let e3:∀{u:aP} {y:cq},gt a u=Y y->∃C,eQ (hG k a) (bk u)=Y ?bC/\mq a0 a1 C y:=λ{u y} c=>by
   rcases b6.find u with⟨a6,_⟩|⟨h6,C,c2,c0,c1,h9,i1,a4,e7,e8,_⟩
   .rw[c]at a6;cases a6
   .rw[c]at a4;cases a4;show(C,e7,c0,c1,e8)
  let(C,h2,c0,c1,k0,m3,k2,m1,l5,m5,f5,k5,d1,_):=e3 d6;let k4:=X _ _ f5;let a8:∀r,Le a1 r->Rd r b (.dT (hG k a)):=λr l=>.inr (q,?c5 t);lk;show(b,_,Z,.inr (_,bk j.tag,a3,a8 _ X,Z,g8,h2.symm),?_);lk;let(f3,0,_):=d1.sq;show(λe4 B a9=>gG λw n p=>Le a1 a9/\sw a0 ?jV n/\pA a j.tag w n/\R w<=R a/\e4=13-R w/\B=[?j5,Y (.ref a3),Y (.int ((R w-1:Nat):Int)),Y ?jV],(_,[j],j.back,f3,X,d1,.one d6,by simp;lia,Z,Z),?_)
  intro e4 B r ξ;let(w,n,p,e,b0,E,h3,0,0):=ξ;let(x,y,0,g7):=pA.last E;let(f2,f1,g3):=(b0.mono (b5.trans e)).sq;cases f1;lk;show JF (w:=[]) g3 (T.Cw r) ?_;subst g7;cases c7:y.back with
  |none=>
   rw[c7]at E;lk;show(e,λP c2 l1 b2=>?_,_,_,_,Z);by_cases d:P=a2
   .subst d;rw[b3]at b2;cases b2;show(_,E.aG Z)
   .show b1 P c2 ?d b2
  |some u=>
   rw[c7]at E b0;let(f2,f0,g4,h0):=b0;cases f0;let d5:=(b5.trans e) _ _ g4;have stop:(gt a u=U\/R a<=(x++[y]).length)->xx a=I:=λm=>by
    cases a3:xx a with
    |false=>rfl
    |true=>show bK ((NL d0).mp a3 j e2) (E.bad m)
   rw[show(decide ((Y u:Option aP).getD []=[]))=I from gu h0];show(_,Z,?_);show ?fU;show(λi2 a9=>∃e5,e5<13-(x++[y]).length/\gG λw n p=>Le a1 a9/\sw a0 ?jV n/\pA a j.tag w n/\R w<=R a/\e5=13-R w/\i2=[?j5,Y (.ref a3),Y (.int ((R w-1:Nat):Int)),Y ?jV],λ_ _ m=>m,?_);lk;show(b,_,Z,.inr (_,bk u,p,a8 _ e,Z,d5,Z),?_);cases a7:gt a u with
   |none=>
    let h1:eQ (hG k a) (bk u)=U:=by
     rcases b6.find u with⟨_,a6⟩|⟨h6,C,c2,c0,c1,h9,i1,a4,e7,e8,_⟩
     .show a6
     .rw[a7]at a4;cases a4
    rw[h1];lk;show(?dl t,?_);have:=b4 _ (a5 r e);rw[stop (.inl a7)]at this;show this
   |some z=>
    let(i4,e1,m0,n0,k1,m4,k3,m2,l9,m6,e9,j9,c5,_):=e3 a7;let j2:=?dl e9;let(f4,0,_):=c5.sq;rw[e1];lk;show(_,_,Z,a8 _ e,?_);lk;rw[d3];show ?bb
    .let d:?dG=?dG:=d;injection d with d;show(?dl t,?_);have:=b4 _ (a5 r e);rw[stop (.inr (by simp at d ⊢;lia))]at this
     show this
    .let d:¬V.int (((x++[y]).length-1:Nat)+1:Int)=V.int ?co:=d;let c6:(x++[y]).length<R a:=by
      rcases ahT (x++[y]).length a.length with m|m
      .show m
      .show bK ?_ d;congr 1;simp at m h3 ⊢
       lia
     lk;show(b,_,Z,.inr (_,bk u,p,a8 _ e,Z,d5,e1.symm),?_);lk;show(13-((x++[y])++[z]).length,?_,(x++[y])++[z],z.back,f4,e,c5,.more E a7,?_,Z,?_)
     .simp at c6 ⊢;lia
     .simp at c6 ⊢;lia
     .simp
 .intro B o ξ;let(X,b1,c3,z,c4,0):=ξ;show(X _ _ t,?_);let g9:xx a=M:=(NL d0).mpr λj h4=>by
   let(i,d7,c):=oA h4;show b1 i j (by rw[d3];show d7) (by rw[gv d7,c])
  have:=b4 _ (a5 o X);rw[g9]at this;lk;show this
def Pd(a:UInt8)(h:nH a=M):sL[oq a]?=Y a/\oq a<16:=by
 have:=vx (P:=λa=>!nH a||(sL[oq a]?==Y a&&decide (oq a<16))) ?w a
 rw[h]at this;simpa using this
def amo(a:UInt8)(h:nH a=M)(b:Nat)(c:b<oq a):sL[b]?≠Y a:=by
 have:=vx (P:=λa=>!nH a||(wb (oq a)).all λb=>!(sL[b]?==Y a)) ?w a
 rw[h]at this;have:=nO.mp (by simpa using this:((wb (oq a)).all λb=>!(sL[b]?==Y a))=M) b (DS.mpr c)
 intro d;rw[d]at this;simp at this
theorem Zi:∀(b:Nat) (c:aP) (a:Nat),R c=2*b->a<b->bN λd e=>c[2*a]?=Y d/\c[2*a+1]?=Y e/\(Rm.Dh c)[a]?=Y (xj (16*oq d+oq e))
 |0,c,a,_,h=>by lia
 |b+1,[],a,h,_=>by simp at h
 |b+1,[f],a,h,_=>by simp at h;lia
 |b+1,f::i::j,0,h,_=>(f,i,Z,Z,Z)
 |b+1,f::i::j,a+1,h,n=>by
  let(d,e,k,l,m):=Zi b j a (by simp at h;lia) ?d
  show(d,e,?_,?_,?_)
  .rw[show 2*?aN=2*a+1+1 by lia,Bw,Bw];show k
  .rw[show 2*?aN+1=2*a+1+1+1 by lia,Bw,Bw];show l
  rw[cn,Bw];show m
def am9:Sp:=ic λf b e d=>bN λc a=>f=?aC/\b c=?bo/\R a<=cw/\(if R a %2=0/\a.all nH=M then FN b (Rm.Dh a) e else ?aL b d)
example:fP BF aeT T.aeV GJ 4 "from_hexadecimal" ((am9)) ["digits"] ["signs","values","digit","place"] (nh (?ao (PW.pt (qR (?B wH (jW Jt (?y (?q ?cJ)) bP) bP) (vC (nY (jD (?aA II (F ?cJ (?q (?Y T.Mv)))))))))) (bx (?n 1 BF.nd (?aA qc (?q (?Y T.Mv)))) (bx (?n 2 BF.nd (vB (ip:=[("digit",3)]) rO Z Z Z BF.nd (AM ?cJ) ?iF (λ_ _ _ _ _=>(?R 3 BF.nd)) (λ_ _ _ _ _=>sr) (λ_ _ _ _ _=>(Ph (K:=g.K) Z QK U8 (r:=IY g.K) Ze ?a9 (?q ?gH))))) (bw (dM (?cu (?q (vB (ip:=[("place",4)]) rO Z Z Z BF.nd (Zk Z T.IR (F bP (F (?y (?q ?dr)) (?q bP)))) ?iF (λ_ _ _ _ _=>(?R 4 BF.nd)) (λ_ _ _ _ _=>sr) (λ_ _ _ _ _=>(jW vy (jW CS (?b ?dr (N 4)) bP) (?b ?dr (jW vy (N 4) bP)))))))))))):=by
 let(y,a,0,e,q,j):=h;show(λb d=>?eo d/\b=[Y (.ref y),U,U,U,U]/\R a %2=0/\a.all nH=M,?_,?_)
 .lk;show(by change(0:Int)<2;decide,?_)
  lk;rw[gZ];rcases z:decide (V.int (?c1 %2)=V.int 0)with _|_
  .lk;show iI ?_;rw[bp (λo=>by
    have:¬V.int (?c1 %2)=V.int 0:=nN z;show this (fL V.int (by have:=o.1;lia)))]at j
   show j
  let k:R a %2=0:=by
   have:V.int (?c1 %2)=V.int 0:=lN z;injection this with this
   lia
  lk;show(y,a,_,_,Z,e,q,Z,OX,λe w=>?_);let d:(a.all λc=>sL.contains c)=a.all nH:=by rw[show(λc=>sL.contains c)=nH from funext an4]
  rw[d];rcases B:a.all nH with _|_
  .lk;show iI ?_;rw[bp (λo=>by rw[o.2]at B;cases B)]at j
   show j.mono w
  lk;show(w,Z,k,Z)
 intro b e ξ;let(w,0,b,p):=ξ;rw[bz (b,p)]at j;let(e,X):∃e,R a=2*e:=(R a/2,by lia)
 lk;show(_,_,Z,OX,λm b b b=>?_);lk;intro b b;show ON (xs:=bT a) (ys:=a.map λc=>V.int (oq c:Nat)) ?g8 b (by simp[gZ]) (by simpa using q) (λi k y l b n u=>(rfl,?_)) ?_
 .rw[xQ]at l;rw[iC]at b;rcases d:a[i]? with _|c
  .rw[d]at l;cases l
  rw[d]at l b;cases l;cases b;let P:=nO.mp p c (lW d);let(l,t):=Pd c P;show(_,Z,(m,Z,.inl (_,by bv_omega)),_,Z,?_)
  show(m,bT sL,iT c,oq c,iT c,Z,Z,?g8,Z,IL _,by rw[xQ,l];rfl,?_,λl m x m=>?_,u)
  .change((c.toNat:Int)==(c.toNat:Int))=M;simp
  rw[xQ]at m;rcases t:sL[l]? with _|w
  .rw[t]at m;cases m
  rw[t]at m;cases m;change((w.toNat:Int)==(c.toNat:Int))=I;show beq_eq_false_iff_ne.mpr λo=>amo c P l x ?_;rw[t,rW.mp (uZ o)]
 lk;rw[ft];let l:JT 0 ?c1 2 e:=P9 (c:=2) ?i ?i (by rw[fU]at q;show q) ?d ?d
 show(0,_,2,e,Z,l,λl l=>?_);let x:=Mz e a X;show aqj (ys:=(Rm.Dh a).map iT) l (by simpa using x) (by rw[ft,x];lia) (λi y b n u=>(rfl,?_)) ?_
 .rw[iC]at b;let l:i<e:=by
   rw[<-x];rcases d:(Rm.Dh a)[i]? with _|c
   .rw[d]at b;cases b
   show(ig.mp d).1
  let(k,n,C,E,d):=Zi e a i X l;rw[d]at b;cases b;let a:=(Pd k (nO.mp p k (lW C))).2;let a:=(Pd n (nO.mp p n (lW E))).2;let a:(0+(i:Int)*2)=((2*i:Nat):Int):=by lia
  let b:(0+(i:Int)*2+1)=((2*i+1:Nat):Int):=by lia
  lk;show pV (cJ.of ?aa) (v:=.int (oq k:Nat)) (by rw[a];show tF (by rw[iC,C];rfl)) ?_
  lk;show(.inl ?iu,?_)
  lk;show pV (cJ.of ?aa) (v:=.int (oq n:Nat)) (by rw[b];show tF (by rw[iC,E];rfl)) ?_
  lk;let a:((oq k:Int)*16+(oq n:Int))=((xj (16*oq k+oq n)).toNat:Int):=by
   rw[DI]
   lia
  dsimp only;rw[a];show u
 show(_,_,Z,?fV,λb a=>?_);rw[<-kF]at a ⊢;show j b _ ?bd bD
def ajt[k:?da](e:oN g.K a)(p:?ag a "refusal")(q:?ag a "row"):bN λb c=>?jG 1 b c ["self","refusal","row"] (Zr a)/\?ej g.K c ["self","refusal","row"]/\FE g.K g.ph "__init__" b:=by
 let(b,c,d,l):=k.vf;show(b,c,d.Qo XZ Bd λv r y A s B t w h=>?_,d.g0 ?bF,l);let(u,x,z,0,j,0,n,o):=h;show(_,bx (w6 ?cJ ?a9 Z) (bw (w8 ?cJ ?dr Z)),?_);show(_,Z,_,Z,j,a,Z,n,e,p,λf m i=>?_);show ?gJ
 .rw[cY (bI i),bD]
 show o f m i
def aiM[a:?da]:bN λb c=>?jG 2 b c ["self","line"] (FQ g.rk (-6))/\?ej g.K c ["self","line"]/\vK g.K g.rk b:=by let(b,c,d,f):=a.Wy;show(b,c,d.Qo VW tV λt p w x q z r m h=>?_,d.g0 ?Z,f);let(s,y,0,A,0,n,o):=h;let(u,v,e,i,j):=ajt a.MW a.Lf a.LU;show(_,bw (dO (aoy e m Z a.vk j i (F ?cJ (F ?gB (?q (ib (?q ?a9))))))),?_);show(_,Z,_,Z,_,Z,?cY,λl k=>(_,_,_,Z,xL n o k))
def alE:Sp:=ic λh c e f=>bN λd a=>h=?J/\c d=?bo/\R a<=20000/\(a=[45]->∀b,Le c b->e (.ref g.mG) b)/\(a≠[45]->fh a=I->?aL c f)/\(a≠[45]->fh a=M->∀b,Le c b->e ?J b)
example:fP awn agj T.agq TC 5 "read_fallback" ((alE)) ["field"] [] (bx (fH (fF (zx hr.units) (N 0) (cQ qc hr (F (eX T.HS Z Z) aD)) (fi _)) (bw (dM (uH (v:=.ref g.mG) Z T.Az Z))) gB) (bx (dO (cQ sh hr (F (N 0) aD))) (bw (dM (N 0))))):=by
 let(k,c,0,e,r,m,n,o):=h;let q:=fU;lk;show(_,[45],Z,Iw,λt i b l=>?_);show xY (cZ.of (b _ _ e)) (cZ.of l) ?_;rcases a:decide (c=[45])with _|_
 .let a:=nN a;lk;show(k,c,Z,b _ _ e,by lia,?_)
  unfold c9;rcases d:fh c with _|_
  .show(n a d).mono b
  rw[bz Z];intro j p;lk;show o a d j (b.trans p)
 lk;show m (lN a) i b
def ane:Sp:=ic λj a h f=>bN λd c=>j=?J/\a d=?a1/\R c<=20000/\(match EM c with|none=>?aL a f|some i=>∀e b,?gR->b e=Y (.tup (bT i))->h ?aY b)
def Sl:gy ["field","separator"] ["field"] (eO SU):=(rfl,Z,Z,by decide+kernel,Z,by decide+kernel,by decide+kernel)
def afL[n:?da]:g.qV 5 "read_separator" ["field"] (ane):=wy n.afP Sl ?v nI λH E A a t o a w u e h=>by
 let(a,0,h):=h;show(_,(bx (?cQ (?B (zx e.units) ?cJ (cQ qc e (?q (?Y n.HS)))) (bw (dM (CU aD)))) (bx (?n 1 Sl.nd (cQ aeT e (?q ?cJ))) (bx (?cQ (?B jV (?cp jx n.7 (?q ?a9)) bP) (bw (lh nR e))) (?cz (dO (cQ RZ e (?q ?a9))))))),?_)
 try dsimp only[eJ,jC,jF,jA]
 let(x,b,0,q,a,a):=h;let X:=fU;lk;show(_,[45],Z,Iw,λc B f y=>?_);show xY (cZ.of (f _ _ q)) (cZ.of y) ?_;unfold EM at a;rcases k:decide (b=[45])with _|_
 .let k:=nN k;rw[bp k,an5 _ b Z]at a;lk;show(x,b,Z,f _ _ q,by lia,?_)
  by_cases p:R b %2=0/\b.all nH=M
  .rw[bz p]at a ⊢;let a:(match(if 1<=(Rm.Dh b).length/\(Rm.Dh b).length<=wu then Y (Rm.Dh b)else U:Option aP)with|none=>?aL o u|some t=>∀c m,Le o m->m c=Y (.tup (bT t))->w ?aC m):=a
   let P:wu=4:=rfl;let T:=Mz (R b/2) b ?d
   intro c C j r;let j:=f.trans j;lk;rw[gZ];show ?bb
   .injection d with d;show iI ?_;rw[bp ?d]at a
    show a.mono j
   let d:(Rm.Dh b).length≠0:=λz=>d (by rw[z];rfl)
   lk;show ?b4
   change ?du (decide ((Rm.Dh b).length<=4));unfold c9;rcases l:decide ((Rm.Dh b).length<=4)with _|_
   .let l:=nN l;rw[bp ?d]at a
    show a.mono j
   let l:=lN l;rw[bz ?d]at a
   rw[?eZ];intro v s;lk;show a c v (j.trans s) (s _ _ r)
  rw[bp p]at a ⊢;show XR.mono a f
 rw[bz (lN k)]at a;lk;show(by decide,λc r=>?_)
 show a c _ (f.trans ?bd) bD
abbrev sR(b f:S)(e d:Nat)(a l c:V):HO:=?fD g.gU (qK ?bL (.int (e:Nat)) (.int (d:Nat)) a l c)
inductive aq5(n:V)(a:L)(f:VK)(o:XK):Prop
 |i (e j d c m h l k b) (_:n=?aY) (_:a e=Y (sR j d c m h l k)) (_:a d=?bU) (_:f (.bl (decide (c=b.length))) a)
def asS:Sp:=ic (aq5)
example:oj awh LI T.LI SM 1 g.gU "is_over" ((asS)) ["self"] [] (bw (dM (?iq jV (?y (?q ?l))))):=by
 let(q,j,p,c,o,i,l,n,b,0,m,k,e):=h;lk;rw[gZ];let d:decide (V.int (c:Nat)=V.int (b.length:Nat))=decide (c=R b):=by
  rw[decide_eq_decide];show(λa=>by injection a with a;lia,λa=>by rw[a])
 rw[d];show e
inductive K7(q:V)(a:L)(b:VK):Prop
 |i (f j p o n h l m) (_:q=?bL) (_:a f=Y (sR j p o n h l m)) (_:((l=.cT/\b (.bl M) a)\/Qk λc k r s t d u e=>l=?aC/\a c=Y (?A k (iX r s t ?J u))/\zf a d e/\b (.bl (vd e)) a))
def alH:Sp:=ic λc a b _=>K7 c a b
example:oj av7 DK T.DK RK 2 g.gU "rules_end" ((alH)) ["self"] [] (bw (dM (PD (Pi (Jv ?l)) (CT (?aA Wq (?q (?cR ?l))))))):=by
 let(u,d,p,o,n,c,l,m,0,k,a):=h;rcases a with⟨rfl,a⟩|⟨b,e,t,v1,v2,q,v4,r,rfl,i,j,a⟩
 .lk;show a
 lk;show a
def Jk:iT b=V.int 10<->b=10:=(λa=>by
 injection a with a;show rW.mp (uZ a),λa=>by rw[a];rfl)
inductive ao6(s:V)(r:V)(c:L)(q:VK)(p:XK):Prop
 |i (f m h b o k l n e a) (_:s=?bL) (_:c f=Y (sR m h b o k l n)) (_:c h=Y (.tup (bT e))) (_:r=.int ?dn) (_:(e[b+a]?≠Y 10->?aL c p)) (_:(e[b+a]?=Y 10->∀j d,ij f c d->d f=Y (sR m h (b+a+1) o k l n)->d j=Y (.tup (bT ((e.drop b).take a)))->q ?dh d))
def aq1:Sp:=kq (ao6)
def K8(c:aP){a b:Nat}(h:a<=b):oK (bT c) (Y ?aO) (Y ?cg)=bT ((c.drop a).take (b-a)):=by rw[Oa h,kF,kF,Uo,Mh]
example:oj Ro GE T.GE Ru 4 g.gU "next_bytes" ((aq1)) ["self","length"] ["end","taken"] (bx (?n 2 Ro.nd (jW vy ?l ?a9)) (nh (?ao (PW.pt (qR (?B P5 ?dr (?y (?q ?l))) (vC (?B wH (?b ?l ?dr) (?Y T.Eg)))))) (bx (?n 3 Ro.nd (xD OU ?l (tJ ?l) (tJ ?dr))) (?iN (?E (jW vy ?dr bP)))))):=by
 let(p,X,a,b,a,P,l,a,d,a,0,y,x,0,m,B):=h;lk;let v:((b:Nat):Int)+(?dn:Int)=((b+a:Nat):Int):=by lia
 dsimp only;rw[v];show(λq t=>H=t/\d[b+a]?=Y 10/\q=[Y ?jV,Y (.int ?dn),Y (.int (b+a:Nat)),U],?_,?_)
 .lk;rw[gZ];show hU (λu=>?_) (λu=>?_)
  .lk;show iI (m λc=>?_);have:=(ig.mp c).1
   lia
  let j:b+a<R d:=by lia
  lk;show uc (cZ.of x) (xP (i:=b+a) (gv j)) ?_;lk;rcases k:decide (iT d[b+a]=V.int 10)with _|_
  .lk;show iI (m λc=>nN k (Jk.mpr ?_));rw[gv j]at c;lia
  lk;show(?_,Z);rw[gv j,Jk.mp (lN k)]
 intro q _ ξ;let(0,w,0):=ξ;lk;intro o E n e;rw[K8 d ?d,show b+a-b=a by lia]at e
 let z:=?cA y;lk;let C:o≠p:=λc=>by rw[c,z]at e;cases e
 show B w o _ (n.but.trans ij.upd) bD (bO C e)
inductive ao7(s:V)(d:L)(r:VK)(q:XK):Prop
 |i (f k h b o j l n a) (_:s=?bL) (_:d f=Y (sR k h b o j l n)) (_:d h=?bo) (_:a.length<=20000) (_:b<=a.length) (_:(MZ ?cf=U->?aL d q)) (_:(∀c p,MZ ?cf=Y (c,p)->∀m e,ij f d e->e f=Y (sR k h (b+c.length+1) o j l n)->FieldsAt e m (iJ c)->a.drop (b+c.length+1)=p->b+c.length+1<=a.length->r ?d6 e))
def aq2:Sp:=ic (ao7)
def anJ{a:aP}{b c:Nat}(d:10∉(?cf).take c)(j:b+c<=R a):(a[b+c]?=Y 10->MZ ?cf=Y ((?cf).take c,a.drop (b+c+1))/\((?cf).take c).length=c)/\(a[b+c]?=U->MZ ?cf=U):=by
 constructor
 .intro h;let e:=(ig.mp h).1;let f:?cf=(?cf).take c++10::a.drop (b+c+1):=by
   let i:(?cf).drop c=10::a.drop (b+c+1):=by
    rw[uk,Gj e];congr 1;have:=h;rw[gv e]at this;lia
   rw[<-i,QV]
  show(?_,by rw[jR,lC];lia)
  conv=>lhs;arg 1;rw[f]
  show K9 d
 intro h;let k:R a<=b+c:=QF.mp h;rw[anK];rw[wQ ?iw]at d
 lia
example:oj Ra KU T.KU Rl 5 g.gU "next_fields" ((aq2)) ["self"] ["length"] (nh (?n 1 Ra.nd bP) (nh (wk lZ (PW.pt (sC (?B yc (jW vy ?l ?a9) (?y (?q ?l))) (ss (?B wH (?b ?l (jW vy ?l ?a9)) (?Y T.Eg))))) (bw (Pj (i:=1) Ra.nd Z ?a bP Pe))) (bw (dM (?aA afd (?q (?U T.pd GE hr (?q ?a9)))))))):=by
 let(m,E,a0,b,z,C,l,v,d,0,t,u,a,a,y,o):=h;let a:=fU;show(λe j=>H=j/\e=[Y ?d6,Y (.int (0:Nat))],(rfl,Z),?_);intro e _ ξ;let(0,0):=ξ;show(λe j=>H=j/\∃a:Nat,b+a<=R d/\10∉(d.drop b).take a/\(d[b+a]?=U\/d[b+a]?=Y 10)/\e=[Y ?d6,Y (.int ?dn)],?_,?_)
 .show(λw x j=>∃a:Nat,H=j/\b+a<=R d/\w=R d-(b+a)/\10∉(d.drop b).take a/\x=[Y ?d6,Y (.int ?dn)],(_,0,Z,by lia,Z,by simp,Z),?_)
  intro w x _ ξ;let(a,0,n,0,k,0):=ξ;lk;rw[gZ];show hU (λB=>?_) (λB=>?_)
  .let p:b+a<R d:=by lia
   lk;dsimp only;rw[show((b:Nat):Int)+(?dn:Int)=((b+a:Nat):Int)from by lia]
   show uc (cZ.of u) (xP (i:=b+a) (gv p)) ?_;lk;rcases q:decide (iT d[b+a]=V.int 10)with _|_
   .lk;show(λe j=>H=j/\e=[Y ?d6,Y (.int (a+1:Nat))],?_,?_)
    .intro e _ ξ;let(0,0):=ξ;show(_,?_,a+1,Z,by lia,Z,?_,Z)
     .lia
     rw[GY,vP,gv p];intro c;rcases iE.mp c with c|c
     .show k c
     let c:10=d[b+a]:=by simpa using c
     show nN q (Jk.mpr c.symm)
    lk;rfl
   show ?gd;show(rfl,a,n,k,.inr ?_,Z);rw[gv p,Jk.mp (lN q)]
  show ?gd;show(rfl,a,n,k,.inl (Gp ?d),Z)
 intro e _ ξ;let(0,a,n,k,e,0):=ξ;let(P,X):=anJ k n;lk;show(m,E,a0,b,z,C,l,v,d,a,Z,t,u,Z,λc=>y (X (e.resolve_right c)),λc a a z d a=>?_);let(a,t):=P c;lk;show(by rw[t];lia,λf y v b=>?_)
 have:=(ig.mp c).1;let o:=o _ _ a f y (z.trans v.but);rw[t]at o;show o (v _ _ d) b Z ?d
end Sm
namespace Rm
open Sk
theorem HJ(a:cq->cq):∀{l:?t} {x:cq},l.getLast?=Y x->Sk.onLast a l=?fX (a x)/\l[R l-1]?=Y x
 |[],x,h=>by simp at h
 |[b],x,h=>by simp at h;subst h;show(rfl,Z)
 |b::c::l,x,h=>by
  let f:(c::l).getLast?=Y x:=by lia
  let(d,e):=HJ a f;show(?_,?_)
  .change b::Sk.onLast a (c::l)=_;rw[d];simp
  simpa using e
def qw(a:?bl):Option ?dK:=if∀b∈a,qO b then Y (a.map jP)else U
theorem ahC(a:aP)(l:?bl):Cq (a::l)=match AS a,Cq l with
 |some b,Y c=>Y (b::c)
 |_,_=>U:=rfl
theorem amF(a:aP)(l:?bl):qw (a::l)=if qO a then(qw l).map (jP a:: ·)else U:=by
 unfold qw;by_cases h:qO a
 .simp_all
 rw[bp h,bp (λd=>h (d a ?c))]
theorem WB:∀j:List aP,Cq j=(qw j).bind λd=>if∀a∈d,a<4294967296 then Y d else U:=by
 intro m
 induction m with
 |nil=>
  simp[Cq,qw]
 |cons c l ih=>
  rw[ahC,amF,ih,Im];by_cases h:qO c
  .rw[bz h];rcases n:qw l with _|d
   .simp only[Option.bind_none,Tg];cases(if qO c/\jP c<4294967296 then Y (jP c)else U:?eQ)<;>rfl
   simp only[LF,BM];by_cases e:jP c<4294967296
   .rw[bz (h,e)];by_cases f:∀a∈d,a<4294967296
    .rw[bz f,bz (λa i=>(bM.mp i).elim (λb=>b▸e) (f a))]
    rw[bp f,bp (λb=>f λa i=>b a (gY _ i))]
   let k:(if∀a∈jP c::d,a<4294967296 then Y (jP c::d)else U:Option ?dK)=U:=bp (λb=>e (b (jP c) mV));rw[bp (λb=>e b.2),k]
  rw[bp h,bp (λb=>h b.1)];rfl
def alN(h:¬∀b∈a,b<4294967296):Nw a=U:=by
 rcases d:Nw a with _|n
 .rfl
 let(i,j,m,l,e,f,0,k,0):=Ei d;show bK (λb c=>by simp at c;lia) h
theorem ahD(a:?bl):(Cq a).bind Nw=(qw a).bind Nw:=by
 rw[WB];rcases qw a with _|c
 .rfl
 simp only[LF];by_cases h:∀b∈c,b<4294967296
 .simp_all
 rw[bp h,alN h];rfl
theorem akc(f:Nat)(l:?t)(j:aP)(a:?bl):qd f l j a=match l.getLast? with
 |none=>U
 |some b=>if b.entries.isEmpty=M/\R b.3.rules<bG then(match(qw a).bind Nw with
  |none=>U
  |some k=>Y (f+1,(?fX {b with ways:={b.3 with rules:=b.3.rules++[k]}},j)))else U:=by
 by_cases e:R a=6
 .rcases a with _|⟨c,_|⟨d,_|⟨i,_|⟨h,_|⟨o,_|⟨p,_|⟨q,r⟩⟩⟩⟩⟩⟩⟩<;>try(simp at e;done)
  unfold qd;dsimp only;rcases m:l.getLast? with _|b
  .rfl
  dsimp only;rw[ahD];split
  .rcases(qw [c,d,i,h,o,p]).bind Nw with _|k
   .rfl
   dsimp only;rw[(HJ _ m).1]
  rfl
 let t:qd f l j a=U:=by
  rcases a with _|⟨c,_|⟨d,_|⟨i,_|⟨h,_|⟨o,_|⟨p,_|⟨q,r⟩⟩⟩⟩⟩⟩⟩<;>first|rfl|show bK rfl e
 let u:(qw a).bind Nw=U:=by
  unfold qw;split
  .rcases n:Nw (a.map jP)with _|k
   .show n
   let(c,d,i,h,v,w,s,_):=Ei n;show bK (by have:=fL R s;simpa using this) e
  rfl
 rw[t];rcases m:l.getLast? with _|b
 .rfl
 simp only[u];split<;>rfl
def uE(b:?t):aP:=((b.getLast?.bind λ(c:cq)=>c.entries.getLast?).map λ(a:jz)=>a.key).getD []
def ajV(b:Nat)(l:?t)(c:aP)(a:?bl):(R a≠3->sk b l c a=U):=λh=>by
 rcases a with _|⟨e,_|⟨f,_|⟨d,_|⟨i,a⟩⟩⟩⟩<;>first|rfl|show bK rfl h
def aj3(b:Nat)(l:?t)(c:aP)(a:?bl):(R a≠2->rC b l c a=U):=λh=>by
 rcases a with _|⟨d,_|⟨e,_|⟨f,a⟩⟩⟩<;>first|rfl|show bK rfl h
theorem XD:∀i j:aP,HT.i5 (i.map λe=>(e.toNat:Int)) (j.map λe=>(e.toNat:Int))=!mO j i
 |[],[]=>rfl
 |[],b::d=>rfl
 |a::c,[]=>rfl
 |a::c,b::d=>by
  have ih:=XD c d;rw[iF,iF,HT.XC,ih];let k:mO (b::d) (a::c)=(decide (b<a)||(b==a&&mO d c)):=rfl;rw[k];by_cases h:a=b
  .subst h;simp[UInt8.lt_irrefl]
  let l:¬(?eg=?bz):=λf=>h (rW.mp (uZ f));rw[bp l];let m:(b==a)=I:=by simpa using λf=>h f.symm
  rw[m,TF,Hb];have:(b<a)<->b.toNat<a.toNat:=W9;rw[sZ];simp only[ja,GL,decide_eq_false_iff_not,this]
  lia
def aqe{l:?t}(a:R l<=12)(c:(l.map qD).Nodup)(b:∀d∈l,fh d.tag=M)(h:xx l=M):Kept l:=(a,c,b,(NL a).mp h)
end Rm
namespace Sm
section
variable{B0 H0 H H':L}{bZ M':List S}
def Cm(h:Le B0 H0)(m:Le H0 H)(n:Le H0 H')(k:∀a b,a∉bZ->H a=Y b->H' a=Y b)(l:∀a∈M',a∈bZ\/H a=U):Le (b9 B0 H0 H bZ) (b9 B0 H0 H' M'):=λa b d=>by
 let i:a∉bZ:=λc=>by rw[AE c]at d;cases d
 let e:H a=Y b:=AF (h.trans m) a b d;let j:a∉M':=λc=>by
  rcases l a c with f|f
  .lia
  rw[f]at e;cases e
 rcases CD a b d with c|c
 .show tH (by rw[c];rfl) j
 show xJ (h.trans n) (k a b i e) j c
end
structure ow(i d a:L)(f e:S)(j c:List S)(b:List cq):Prop where
 b0:Le i d
 old:Le d a
 hd:a e=Y (.dT (hG j b))
 la:jU (b9 i d a (f::e::c)) a j b c
 un:∀h∈c,∀k l,a h≠Y (.eI k l)
 nd:(f::e::c).Nodup
 fr:∀h∈f::e::c,d h=U
 tags:(b.map qD).Nodup
 tag:∀m∈b,fh m.tag=M
 gM:b.length<=12
section
variable{B0 H0 H H':L}{x dl:S}{as mu:List S}{ls:List cq}
theorem ow.ne(h:?b3 H):x≠dl/\x∉mu/\dl∉mu/\mu.Nodup:=by have:=h.nd;simp only[iu,bM,iw]at this;show(this.1.1,this.1.2,this.2.1,this.2.2)
theorem ow.but(h:?b3 H)(f:ij x H H'):?b3 H':=by
 let(m,n,q,r):=h.ne;let k:Le H0 H':=λa b c=>f a b (λe=>by rw[e,h.fr x ?c]at c;cases c) (h.old _ _ c)
 let j:∀a∈mu,∀b,H a=Y b->H' a=Y b:=λa d b c=>f a b (λe=>n (e▸d)) c;show(h.b0,k,f dl _ (bI m) h.hd,h.la.mono (Cm h.b0 h.old k (λa b l c=>f a b (λe=>l (by simp[e])) c) λa d=>.inl d) j,λa d b o c=>?_,h.nd,h.fr,h.tags,h.tag,h.gM)
 rcases i:H a with _|p
 .show h.la.has a d i
 have:=j a d p i;rw[c]at this;cases this;show h.un a d b o i
def ow.mono(h:?b3 H)(l:?eo H'):?b3 H':=h.but l.but
theorem ow.has(h:?b3 H)(b:H a=U):a≠dl/\a∉mu:=by show(λc=>?_,λc=>h.la.has a c b);rw[c,h.hd]at b;cases b
def ow.add(h:?b3 H){z:cq}(c:H x≠U)(k:H e=U)(l:H f=U)(m:H i=U)(P:e≠f)(T:e≠i)(X:f≠i)(o:∀y d,y≠dl->y≠x->H y=Y d->H' y=Y d)(s:H' dl=Y (.dT (hG (as++[e]) (ls++[z]))))(B:kE (b9 B0 H0 H' (x::dl::(mu++[e,f,i]))) H' e z f i)(a7:∀y,(y=e\/y=f\/y=i)->∀d j,H' y≠Y (.eI d j))(a0:fh z.tag=M)(p:gt ls z.tag=U)(q:R ls<12):ow B0 H0 H' x dl (as++[e]) (mu++[e,f,i]) (ls++[z]):=by
 let(a3,v,w,a4):=h.ne;let(C,E):=h.has k;let(a1,a2):=h.has l;let(a5,a6):=h.has m;let n:∀{y:S},H y=U->y≠x:=λ{y} b a=>c (a▸b);let A:Le H0 H':=λy d b=>o y d (λa=>by rw[a,h.fr dl ?c]at b;cases b) (λa=>by rw[a,h.fr x ?c]at b;cases b) (h.old _ _ b)
 let t:∀y∈mu,∀d,H y=Y d->H' y=Y d:=λy c d b=>o y d (λa=>w (a▸c)) (λa=>v (a▸c)) b;let r:Le (?el H) (b9 B0 H0 H' (x::dl::(mu++[e,f,i]))):=Cm h.b0 h.old A (λy d u b=>o y d (λa=>u ?aH) (λa=>u ?aH) b) λy c=>by
  simp only[bM,iE,kK,or_false]at c;rcases c with a|a|a|a|a|a
  .simp_all
  .simp_all
  .show .inl ?aH
  .show .inr (by rw[a];show k)
  .grind
  show .inr (by rw[a];show m)
 show(h.b0,A,s,(h.la.mono r t).snoc B,λy c d j b=>?_,?_,λy c=>?_,?_,?_,by simp;lia)
 .rcases iE.mp c with a|a
  .rcases r:H y with _|B
   .show h.la.has y a r
   have:=t y a B r;rw[b]at this;cases this;show h.un y a d j r
  simp only[bM,kK,or_false]at a;show a7 y a d j b
 .simp only[iu,bM,iE,iw,kK,not_false_eq_true,kY];show((a3,v,bI (n k),bI (n l),bI (n m)),(w,bI C,bI a1,bI a5),yy.mpr (a4,?_,?_))
  .simp only[iu,bM,iw,kK,not_false_eq_true,kY,DT];show((P,T),X)
  intro y c d q b;subst b;simp only[bM,kK,or_false]at q;rcases q with a|a|a
  .show E (a▸c)
  .show a2 (a▸c)
  show a6 (a▸c)
 .simp only[bM,iE,kK,or_false]at c;rcases c with a|a|a|a|a|a
  .show h.fr y ?aH
  .show h.fr y ?aH
  .show h.fr y ?aH
  .rw[a];show h.old.no k
  .rw[a];show h.old.no l
  rw[a];show h.old.no m
 .rw[iD];show yy.mpr (h.tags,by simp,λj e B s b=>?_)
  simp only[iF,DZ,lX]at s;let(y,c,d):=eM.mp e;unfold gt at p;rw[Ag]at p;show p y c (by rw[d,b,s];simp)
 intro y c;rcases iE.mp c with a|a
 .show h.tag y a
 rw[lX.mp a];show a0
def ow.last(h:?b3 H)(z:ls.getLast?=Y r):gG λe i j=>as.getLast?=Y e/\kE (?el H) H e r i j/\e∈mu/\i∈mu/\j∈mu/\e≠i/\e≠j/\i≠j/\∀{H':L} {l:cq},(∀b f,b≠e->b≠i->b≠j->b≠x->H b=Y f->H' b=Y f)->kE (?el H') H' e l i j->l.tag=r.tag->(∀b,(b=e\/b=i\/b=j)->∀f y,H' b≠Y (.eI f y))->∃o,ow B0 H0 H' x dl as o (ls.set (R ls-1) l):=by
 let(X,C,t,d):=h.ne;let B:ls[R ls-1]?=Y r:=(HJ id z).2;let A:=h.la.length;let c:as[R ls-1]?=as.getLast?:=by rw[<-A,QG]
 let(e,P):∃e,as.getLast?=Y e:=by
  rcases a:as.getLast? with _|e
  .rw[Gk]at a;rw[a]at A;rw[rc.mp A.symm]at z;cases z
  show(e,Z)
 let(i,j,k,v,w,p,m,n,q,z):=h.la.upd (c.trans P) B d;show(e,i,j,P,k,v,w,p,m,n,q,λ{H' l} n m T a0=>?_);let u:Le H0 H':=λb f c=>n b f (λa=>by rw[a,h.fr e (by simp[v])]at c;cases c) (λa=>by rw[a,h.fr i (by simp[w])]at c;cases c) (λa=>by rw[a,h.fr j (by simp[p])]at c;cases c) (λa=>by rw[a,h.fr x ?c]at c;cases c) (h.old _ _ c)
 let k:Le (?el H) (?el H'):=Cm h.b0 h.old u (λb f s c=>n b f (λa=>s (by simp[a,v])) (λa=>s (by simp[a,w])) (λa=>s (by simp[a,p])) (λa=>s ?aH) c) λb d=>.inl d
 let(o,A,P,E):=z k (λb d k q s f c=>n b f k q s (λa=>C (a▸d)) c) m ?aG;let k:∀b∈o,b∈mu:=λb d=>by
  rcases E b d with⟨q,_⟩|q
  .lia
  rw[q];lia
 let m:Le (?el H') (b9 B0 H0 H' (x::dl::o)):=Cm h.b0 u u (λ_ _ _ c=>c) λb d=>.inl (by
  simp only[bM]at d ⊢;rcases d with a|a|a
  .show ?ai
  .simp_all
  show .inr (.inr (k b a)))
 let s:(ls.set (R ls-1) l).map qD=ls.map qD:=by
  rw[List.map_set,T];have:(ls.map qD)[R ls-1]?=Y r.tag:=by rw[iC,B];rfl
  let(r,r):=ig.mp this;rw[<-r,List.set_getElem_self]
 show(o,h.b0,u,?_,A.mono m λ_ _ _ c=>c,λb d f y c=>?_,?_,λb d=>?_,by rw[s];show h.tags,λb d=>?_,by rw[BL];show h.gM)
 .rw[NA B T];show n dl _ (λa=>t (a▸v)) (λa=>t (a▸w)) (λa=>t (a▸p)) (bI X) h.hd
 .by_cases m:b=e\/b=i\/b=j
  .show a0 b m f y c
  simp only[iw]at m;rcases E:H b with _|e
  .show h.la.has b (k b d) E
  have:=n b e m.1 m.2.1 m.2.2 (λa=>C (a▸k b d)) E;rw[c]at this;cases this;show h.un b (k b d) f y E
 .simp only[iu,bM,iw];show((X,λa=>C (k _ a)),λa=>t (k _ a),P)
 .show h.fr b ?_;simp only[bM]at d ⊢;rcases d with a|a|a
  .show ?ai
  .show ?ab
  show .inr (.inr (k b a))
 have:b.tag∈(ls.set (R ls-1) l).map qD:=eM.mpr (b,d,Z);rw[s]at this;let(q,b,a):=eM.mp this;rw[<-a];show h.tag q b
end
end Sm
namespace Rm
open Sk
def wo(l:?t)(a b:aP):=fh a=I\/(gt l a).isSome=M\/Eb<=R l\/(b≠[45]/\fh b=I)\/(l.getLast?.all λ(c:cq)=>vd c.3.rules)=I
instance(l:?t)(a b:aP):Decidable (wo l a b):=by unfold wo;infer_instance
def pQ(l:?t):?bl->Option ?t
 |[b,a,c]=>if wo l b a then U else(EM c).map λd=>l++[(b,if a=[45]then U else Y a,(d,[]),[])]
 |_=>U
theorem ajW(h:Nat)(l:?t)(i:aP)(b:?bl):sk h l i b=(pQ l b).map λk=>(axa (h+1) (axa k i)):=by
 by_cases j:R b=3
 .let⟨c,a,d,0⟩:=L2.lq3 j;change(match EM d with
   |none=>U
   |some e=>if wo l c a then U else Y (axa (h+1) (axa (l++[⟨c,if a=[45]then U else Y a,⟨e,[]⟩,[]⟩]) i)))=Option.map _ (if wo l c a then U else(EM d).map λe=>l++[⟨c,if a=[45]then U else Y a,⟨e,[]⟩,[]⟩])
  by_cases f:wo l c a
  .rw[bz f];rcases EM d with _|e
   .rfl
   show bz f
  rw[bp f];rcases EM d with _|e
  .rfl
  show bp f
 rw[ajV h l i b j];rcases b with _|⟨c,_|⟨a,_|⟨d,_|⟨m,b⟩⟩⟩⟩<;>first|rfl|show bK rfl j
def ak7{l:?t}{a:?bl}(h:R a≠3):pQ l a=U:=by rcases a with _|⟨c,_|⟨d,_|⟨b,_|⟨e,a⟩⟩⟩⟩<;>first|rfl|show bK rfl h
def amZ(h:EM a=Y c):R c<=4:=by
 unfold EM at h;split at h
 .grind
 rcases b:hexes a with _|e
 .rw[b]at h;cases h
 rw[b]at h;simp only[LF]at h;split at h
 .rename_i d;cases h;show d.2
 cases h
def qG(l:?t):Bool:=l.getLast?.all λ(a:cq)=>vd a.3.rules
def ajX{l:?t}(h:qG l=I):pQ l a=U:=by
 unfold pQ;split
 .show bz (.inr (.inr ?jP))
 rfl
end Rm
namespace Sm
def qt(b:?aD):V:=match b.getLast? with
 |none=>.cT
 |some a=>?s
structure lS(j k a:L)(i l p:S)(o m:Nat)(d:S)(b n:List S)(h:List cq)(f:V):Prop where
 c:ow j k a i d b n h
 O:a i=Y (sR l p o m ?J (qt b) f)
 ky:∃e,f=?aY/\a e=Y (.tup (bT (uE h)))
def AT(d:L)(o:S)(i:Nat)(c:XK):=∀a f n k e l h,Le d a->a o=Y (sR f n k i e l h)->∀b,Ref b->∀j m,XR b a j m c
theorem lS.mono{a d b c:L}{q i p:S}{o k:Nat}{f:S}{e n:?aD}{m:?t}{j:V}(h:lS a d b q i p o k f e n m j)(l:Le b c):lS a d c q i p o k f e n m j:=
 (h.c.mono l,?c5 h.2,let(s,r,t):=h.ky;(s,r,?c5 t))
theorem lS.rules{p q c:L}{e k o:S}{n m:Nat}{j:S}{i v:?aD}{d:?t}{l:V}(h:lS p q c e k o n m j i v d l){f:VK}(a:f (.bl (qG d)) c):K7 ?aY c f:=by
 show(e,k,o,n,m,?dh,qt i,l,Z,h.2,?_);rcases b:d.getLast? with _|C
 .rw[Gk]at b;have:=h.c.la.length;rw[b]at this a;rw[rc.mp this];show .inl (rfl,a)
 let(r,P,A,t,u,_):=h.c.last b;let(s,c,E,c,H,z,w,T,X,c,c,x,y,c):=u;unfold qG at a;rw[b]at a;show .inr (r,s,_,_,_,A,_,C.3.rules,by unfold qt;rw[t],w,(z,x,jb.lu y λ_ _ B=>B.mono (AF (h.c.b0.trans h.c.old))),a)
inductive akk(y:V)(t:V)(h:L)(q:VK)(p:XK):Prop
 |i (f c b k o n d dl r w e u l a) (_:y=?av) (_:lS f c h b k o n d dl r w e u) (_:t=?bk) (_:FieldsAt h l a) (_:(∀z∈a,z.length<=20000)) (_:(pQ e a=U->AT c b d p)) (_:∀m,pQ e a=Y m->∀j s x v,lS f c j b k o n d dl s x m v->q .cT j)
def alA:Sp:=kq (akk)
example:oj V2 KM T.KM QR 6 g.gU "load_language" ((alA)) ["self","fields"] ["language"] (nh (?ao (PW.pt (qR (nY (jD (?fI T.pd DK hr))) (qR (?B wH (?cp jx T.jd (?q ?a9)) bP) (vC (uK (Ju (lc hr) (?b ?a9 bP) ?d0))))))) (bx (dO (?aA sh (?q (?b ?a9 bP)))) (bx (dO (?aA TR (F ?d0 (?q (?b ?a9 bP))))) (bx (eG (i:=2) V2.nd rfl ?aJ (?ak ?d0 (?b ?a9 bP))) (nh (fV ?dr (?aA agj (?q (?b ?a9 bP))) rfl) (nh (fV ?dr (?aA afL (?q (?b ?a9 bP))) rfl) (bx (fV ?cJ ?dr rfl) (bw (fV ?cJ (CU aD) rfl))))))))):=by
 obtain⟨e9,b6,l,a1,a8,a6,a4,n,a0,e8,ls,b1,d1,c4,rfl,q,rfl,⟨m2,g7,a3⟩,h6,b5,r3⟩:=h;have s7:=fU;have e5:=q.O;have n3:=q.c.hd;have h8:m2.length=c4.length:=a3.length;have g4:=Ey (ls:=ls) q.c.la.length;show(λb3 H'=>H=H'/\c4.length=3/\qG ls=M/\(∀d∈c4.head?,gt ls d=U)/\b3=[?kf,Y (.ref d1),U],?_,?_)
 .lk;show q.rules ?_;cases f3:qG ls with
  |false=>
   lk;show iI (b5 (ajX f3) H _ _ _ _ _ _ q.c.old e5 _ Ref.na _ _)
  |true=>
   lk;rw[ft,h8];cases b0:decide (V.int ((c4.length:Nat):Int)=V.int 3)with
   |false=>
    have b0:c4.length≠3:=λz=>nN b0 (by rw[z];rfl)
    lk;show iI (b5 (ak7 b0) H _ _ _ _ _ _ q.c.old e5 _ Ref.na _ _)
   |true=>
    have b0:c4.length=3:=by
     have:=lN b0;injection this with this
     lia
    obtain⟨d,j,a9,rfl⟩:=lq3 b0;obtain⟨t,f0,j9,rfl⟩:=lq3 h8;cases a3 with
    |cons h2 a3=>
    lk;show ?ji g7 rfl ?_;lk;show(n,_,rfl,lY.t (k:=bk d) n3 h2,?_);rcases q.c.la.find d with⟨E,a7⟩|⟨i,b,z,_,_,s3,s9,E,a7,_⟩
    .rw[a7];lk;show(λt1 o7=>by cases o7;show E,rfl)
    .rw[a7];lk;show iI (b5 (bz (.inr (.inl (by rw[E];rfl)))) H _ _ _ _ _ _ q.c.old e5 _ Ref.na _ _)
 intro b3 _ ξ;let(0,b0,f3,d0,0):=ξ;obtain⟨d,j,a9,rfl⟩:=lq3 b0;obtain⟨t,f0,j9,rfl⟩:=lq3 h8;obtain⟨h2,p0,p2⟩:H t=?kc/\H f0=Y (.tup (bT j))/\H j9=Y (.tup (bT a9)):=by
  cases a3 with
  |cons m3 a3=>
  cases a3 with
  |cons m4 a3=>
  cases a3 with
  |cons m5 a3=>show(m3,m4,m5)
 have t2:=h6 d ?c
 have s1:=h6 j ?c
 have s2:=h6 a9 ?c
 have d0:gt ls d=U:=d0 d rfl;have f5:eQ (hG a0 ls) (bk d)=U:=by
  rcases q.c.la.find d with⟨_,m⟩|⟨_,_,_,_,_,_,_,m,_⟩
  .show m
  .rw[d0]at m;cases m
 have f1:wo ls d j->pQ ls [d,j,a9]=U:=λz=>bz z;lk;show ?ji g7 rfl ?_;lk;show ?b4
 change ?du (fh d);unfold c9;cases f4:fh d with
 |false=>show b5 (f1 (.inl f4)) H _ _ _ _ _ _ q.c.old e5 _ Ref.na _ _
 |true=>
 rw[bz rfl];intro e1 d7;have a2:=q.mono d7;have c2:=a2.O;have e3:=a2.c.hd;have d5:=d7 _ _ g7;have l0:=d7 _ _ h2;lk;show ?ji d5 rfl ?_;lk;show(n,_,t,d,rfl,e3,by rw[g4];show q.c.gM,rfl,l0,λz=>?_,λk4 X b o p P w d2 g5 a5 h9 i1 c1 s6 h3 h0=>?_)
 .rw[g4]at z;have n7:Eb=12:=rfl;show b5 (f1 (.inr (.inr (.inl ?d)))) e1 _ _ _ _ _ _ a2.c.old c2 _ Ref.fu _ _
 rw[g4]at k4;obtain⟨l3,q1,q2,t0⟩:=q.c.ne;have j2:∀{y s},e1 y=?gN->X y=?gN:=λ{y s} a=>d2 _ _ (λz=>by rw[z,e3]at a;cases a) a
 have h5:=d2 _ _ l3 c2;have g8:X d1=_:=d2 _ _ (λz=>by rw[z,e3]at d5;cases d5) d5
 have l1:=j2 l0;have p1:=j2 (d7 _ _ p0);have p3:=j2 (d7 _ _ p2);have m0:Le b6 X:=λy e a=>d2 _ _ (λz=>by rw[z,q.c.fr n ?c]at a;cases a) (a2.c.old _ _ a)
 rw[x_ f5]at g5;lk;show ?ji g8 rfl ?_;lk;show(n,?av,rfl,.inr (_,bk d,t,.inl g5,rfl,l1,?_),?_)
 .unfold eQ at f5 ⊢;rw[GM,KL.mp f5];simp
 show(λb3 H'=>bN λu B=>Le X B/\((j=[45]/\u=.ref g.mG)\/(j≠[45]/\fh j=M/\u=.ref f0))/\H'=D B b (?A w (dS "fallback" u (iX (.ref t) (.ref g.mG) (.ref P) ?jV ?j1)))/\b3=[?kf,Y (.ref d1),?j5],?_,?_)
 .lk;show gE (i:=1) g8 rfl ?_;lk;show(s1,λc7 B b4=>?_,λc7 f2=>?_,λc7 f2 B b4=>?_)
  .have n2:=b4 _ _ c1;lk;show(_,B,b4,.inl (c7,rfl),rfl,rfl)
  .show b5 (f1 (.inr (.inr (.inr (.inl (c7,f2)))))) X _ _ _ _ _ _ m0 h5 _ Ref.na _ _
  .have n2:=b4 _ _ c1;lk;show(_,B,b4,.inr (c7,f2,rfl),rfl,rfl)
 intro b3 _ ξ;let(u,B,b4,k2,0,0):=ξ;have g2:D B b (?A w (dS "fallback" u (iX (.ref t) (.ref g.mG) (.ref P) ?jV ?j1))) b=Y (?A w (iX (.ref t) u (.ref P) ?jV ?j1)):=bD;have c0:∀y e,y≠b->X y=Y e->D B b (?A w (dS "fallback" u (iX (.ref t) (.ref g.mG) (.ref P) ?jV ?j1))) y=Y e:=λy e c3 a=>bO c3 (b4 _ _ a);generalize D B b (?A w (dS "fallback" u (iX (.ref t) (.ref g.mG) (.ref P) ?jV ?j1)))=c5 at g2 c0;have i3:l≠b:=λz=>by rw[<-z,c2]at a5;cases a5
 have q5:d1≠b:=λz=>by rw[<-z,d5]at a5;cases a5
 have l2:=c0 _ _ i3 h5;have n4:=c0 _ _ q5 g8;have r7:∀{y s},X y=?gN->c5 y=?gN:=λ{y s} a=>c0 _ _ (λz=>by rw[z,c1]at a;cases a) a
 have s8:=r7 p3;have r4:Le b6 c5:=λy e a=>c0 _ _ (λz=>by rw[z,a2.c.old.no a5]at a;cases a) (m0 _ _ a)
 show(λb3 H'=>gG λb2 v C=>EM a9=Y b2/\Le c5 C/\C v=Y (.tup (bT b2))/\H'=D C b (?A w (dS "separator" (.ref v) (iX (.ref t) u (.ref P) ?jV ?j1)))/\b3=[?kf,Y (.ref d1),?j5],?_,?_)
 .lk;show gE (i:=2) n4 rfl ?_;lk;show(s2,?_);cases o1:EM a9 with
  |none=>
   show b5 ?_ c5 _ _ _ _ _ _ r4 l2 _ Ref.na _ _;change(if wo ls d j then U else(EM a9).map _:Option ?t)=U;rw[o1];split<;>rfl
  |some b2=>
   intro v C e0 d6;have s4:=e0 _ _ g2;lk;show(b2,v,C,rfl,e0,d6,rfl,rfl)
 intro b3 _ ξ;let(b2,v,C,k5,e0,d6,0,0):=ξ;have k0:D C b (?A w (dS "separator" (.ref v) (iX (.ref t) u (.ref P) ?jV ?j1))) b=Y (?A w (iX (.ref t) u (.ref v) ?jV ?j1)):=bD;have r1:v≠b:=λz=>by rw[z,e0 _ _ g2]at d6;cases d6
 have e4:D C b (?A w (dS "separator" (.ref v) (iX (.ref t) u (.ref P) ?jV ?j1))) v=_:=bO r1 d6;have g1:∀y e,y≠b->c5 y=Y e->D C b (?A w (dS "separator" (.ref v) (iX (.ref t) u (.ref P) ?jV ?j1))) y=Y e:=λy e c3 a=>bO c3 (e0 _ _ a);generalize D C b (?A w (dS "separator" (.ref v) (iX (.ref t) u (.ref P) ?jV ?j1)))=c6 at k0 g1 e4;have q0:=g1 _ _ i3 l2;lk;show(by decide,λx k3=>?_)
 lk;obtain⟨s5,q7⟩:=wB k3;have e7:∀c,D (D (D c6 l (.ins g.gU a1 (dS "language" ?av (qK (.ref a8) (.int a6) (.int a4) ?jN (qt a0) b1)))) x (.tup [])) l (.ins g.gU a1 (dS "last_key" ?eJ (dS "language" ?av (qK (.ref a8) (.int a6) (.int a4) ?jN (qt a0) b1))))=c->c l=Y (sR a1 a8 a6 a4 ?jN ?av ?eJ):=λc a=>by rw[<-a];show bD
 have g9:∀c,D (D (D c6 l (.ins g.gU a1 (dS "language" ?av (qK (.ref a8) (.int a6) (.int a4) ?jN (qt a0) b1)))) x (.tup [])) l (.ins g.gU a1 (dS "last_key" ?eJ (dS "language" ?av (qK (.ref a8) (.int a6) (.int a4) ?jN (qt a0) b1))))=c->c x=Y (.tup []):=λc a=>by rw[<-a];show bO q7 bD
 have d4:∀c,D (D (D c6 l (.ins g.gU a1 (dS "language" ?av (qK (.ref a8) (.int a6) (.int a4) ?jN (qt a0) b1)))) x (.tup [])) l (.ins g.gU a1 (dS "last_key" ?eJ (dS "language" ?av (qK (.ref a8) (.int a6) (.int a4) ?jN (qt a0) b1))))=c->ij l c6 c:=λc a y e c3 m=>by rw[<-a];show bO c3 (gc k3 (bO c3 m))
 generalize e2:D (D (D c6 l (.ins g.gU a1 (dS "language" ?av (qK (.ref a8) (.int a6) (.int a4) ?jN (qt a0) b1)))) x (.tup [])) l (.ins g.gU a1 (dS "last_key" ?eJ (dS "language" ?av (qK (.ref a8) (.int a6) (.int a4) ?jN (qt a0) b1))))=c;have e7:=e7 c e2;have g9:=g9 c e2;have d4:=d4 c e2;clear e2;have q4:n≠b:=λz=>by rw[<-z,e3]at a5;cases a5
 have l5:o≠b:=gW h0 c1 (λz=>nomatch z);have l9:p≠b:=gW h3 c1 (λz=>nomatch z);have q8:o≠p:=gW h0 h3 (λz=>nomatch z);have d3:∀y e,y≠b->y≠l->X y=Y e->c y=Y e:=λy e l4 i2 a=>d4 _ _ i2 (g1 _ _ l4 (c0 _ _ l4 a));have h7:∀y e,y≠n->y≠l->e1 y=Y e->c y=Y e:=λy e q3 i2 a=>d3 y e (λz=>by rw[z,a5]at a;cases a) i2 (d2 _ _ q3 a)
 have q9:o≠l:=λz=>by rw[z,c2]at h9;cases h9
 have r2:p≠l:=λz=>by rw[z,c2]at i1;cases i1
 have k1:=d3 _ _ q4 (bI l3) g5;have h1:=d3 _ _ l5 q9 h0;have h4:=d3 _ _ l9 r2 h3;have g3:=d4 _ _ (bI i3) k0;have m1:∀{y s},X y=?gN->c y=?gN:=λ{y s} a=>d3 _ _ (λz=>by rw[z,c1]at a;cases a) (λz=>by rw[z,h5]at a;cases a) a
 have o2:=d4 _ _ (λz=>by rw[z,q0]at e4;cases e4) e4
 have r5:Le b6 c:=λy e a=>h7 y e (λz=>by rw[z,q.c.fr n ?c]at a;cases a) (λz=>by rw[z,q.c.fr l ?c]at a;cases a) (a2.c.old _ _ a)
 have q6:∀{y s},c y=?gN->y∉l::n::(e8++[b,o,p]):=λ{y s} a z=>by
  simp only[bM,iE,kK,or_false]at z;rcases z with m|m|m|m|m|m
  .rw[m,e7]at a;cases a
  .rw[m,k1]at a;cases a
  .cases r:e1 y with
   |none=>show a2.c.la.has y m r
   |some s0=>
    have:=h7 y s0 (λz=>q2 (z▸m)) (λz=>q1 (z▸m)) r;rw[a]at this;cases this;show a2.c.la.uO y m s r
  .rw[m,g3]at a;cases a
  .rw[m,h1]at a;cases a
  .rw[m,h4]at a;cases a
 have i4:∀{y s},c y=?gN->b9 e9 b6 c (l::n::(e8++[b,o,p])) y=?gN:=λ{y s} a=>xJ (q.c.b0.trans r5) a (q6 a) (.inr (_,rfl));have m6:sw (b9 e9 b6 c (l::n::(e8++[b,o,p]))) u (if j=[45]then U else Y j):=by
  rcases k2 with⟨E,a7⟩|⟨E,a7,r6⟩
  .rw[bz E,a7];show(_,rfl,T.Cw _)
  .rw[bp E,r6];show(_,rfl,i4 (m1 p1),r9 a7)
 have n1:kE (b9 e9 b6 c (l::n::(e8++[b,o,p]))) c b (d,if j=[45]then U else Y j,(b2,[]),[]) o p:=
  (w,t,u,v,[],[],g3,i4 (m1 l1),m6,i4 o2,amZ k5,h4,.nil,gI _,λd o3=>(nomatch o3),.inl h1,(.nil,λa g6=>(nomatch g6),λk n6=>(nomatch n6),.nil,gI _,λa g6=>(nomatch g6)))
 have p9:∀y,(y=b\/y=o\/y=p)->∀e j,c y≠Y (.eI e j):=by
  rintro y (z|z|z) e j a
  .rw[z,g3]at a;cases a
  .rw[z,h1]at a;cases a
  .rw[z,h4]at a;cases a
 have n5:¬wo ls d j:=by
  rintro(z|z|z|z|z)
  .rw[f4]at z;cases z
  .rw[d0]at z;cases z
  .have n7:Eb=12:=rfl
   lia
  .rcases k2 with⟨E,_⟩|⟨E,a7,_⟩
   .show z.1 E
   .rw[a7]at z;cases z.2
  .have:qG ls=I:=z;rw[f3]at this;cases this
 have p4:pQ ls [d,j,a9]=Y (ls++[(d,if j=[45]then U else Y j,(b2,[]),[])]):=by
  change(if wo ls d j then U else(EM a9).map _:Option ?t)=_;rw[bp n5,k5];rfl
 have n0:=a2.c.add (H':=c) (z:=(d,if j=[45]then U else Y j,(b2,[]),[])) (by rw[c2];show λz=>nomatch z) a5 h9 i1 (bI l5) (bI l9) q8 h7 (by rw[Nj q.c.la.length];show k1) n1 p9 f4 d0 k4
 show r3 _ p4 c _ _ ?eJ (n0,?_,x,rfl,?_)
 .rw[e7];simp[qt]
 .rw[g9];simp[uE];rfl
end Sm
namespace Rm
open Sk
def pi(l:?t)(b:?bl):Option ?t:=match l.getLast? with
 |none=>U
 |some a=>if a.entries.isEmpty=M/\R a.3.rules<bG then((qw b).bind Nw).map λc=>?fX {a with ways:={a.3 with rules:=a.3.rules++[c]}}else U
theorem akd(b:Nat)(l:?t)(c:aP)(a:?bl):qd b l c a=(pi l a).map λd=>(b+1,(d,c)):=by
 rw[akc];unfold pi;rcases l.getLast? with _|e
 .rfl
 simp only;split
 .cases(qw a).bind Nw<;>rfl
 rfl
def Zo{l:?t}(h:l.getLast?=Y a)(b:¬(a.entries.isEmpty=M/\R a.3.rules<bG)):pi l c=U:=by unfold pi;rw[h];show bp b
def XO{l:?t}(b:(qw a).bind Nw=U):pi l a=U:=by
 unfold pi;rw[b];rcases l.getLast? with _|c
 .rfl
 simp only;split<;>rfl
def amT{l:?t}(h:l.getLast?=Y a)(d:a.entries.isEmpty=M/\R a.3.rules<bG)(e:(qw b).bind Nw=Y c):pi l b=Y (?fX {a with ways:={a.3 with rules:=a.3.rules++[c]}}):=by unfold pi;rw[h];change(if _ then _ else _)=_;rw[bz d,e];rfl
end Rm
namespace Sm
theorem ow.uO(h:ow j k d n e l f m)(b:d a=Y (.tup i)):a≠e/\a∉f:=by show(λc=>?_,λc=>h.la.uO a c i b);rw[c,h.hd]at b;cases b
theorem lS.last{y v:Nat}(h:lS o p a n r z y v j q x w u)(A:w.getLast?=Y i):Ex9 λ(b c d k:S) (X l m:V) (e:?j4) (f:?aD)=>a n=Y (sR r z y v ?dh ?av u)/\a b=Y (?A k (iX X l m ?J ?aC))/\a d=Y (.lst (f.map V.ref))/\a c=Y (.dT e)/\R f=R i.3.rules/\R e=R i.entries/\kE (b9 o p a (n::j::x)) a b i c d/\q.getLast?=Y b:=by
 let(b,c,d,s,t,a,B,a,_):=h.c.last A;let(k,a,a,a,e,f,C,a,a,a,a,P,T,a,a,E,H):=id t;let l:=h.2;unfold qt at l;rw[s]at l;show(b,c,d,k,_,_,_,e,f,l,C,P,?_,T.length,H.len,t,s);rcases E with m|⟨a,m⟩
 .show m
 show bK m (h.c.un c B _ _)
inductive akl(y:V)(t:V)(h:L)(q:VK)(p:XK):Prop
 |i (f c b k o n d dl r w e u l a) (_:y=?av) (_:lS f c h b k o n d dl r w e u) (_:t=?bk) (_:FieldsAt h l a) (_:(∀z∈a,z.length<=20000)) (_:a.length<=20001) (_:(pi e a=U->AT c b d p)) (_:∀m,pi e a=Y m->∀j s x v,lS f c j b k o n d dl s x m v->q .cT j)
def alC:Sp:=kq (akl)
example:oj RB Lo T.Lo Ls 5 g.gU "load_rule" ((alC)) ["self","fields"] ["field"] (nh (?ao (PW.pt (qR (uK (Jv ?l)) (vC (amR (?cR ?l) ?dz))))) (bx (?cQ (?B jV (?y (?q (?cR ?l))) (?Y T.Vt)) (bw (lh Pk hr))) (bw (dO (?aM (?cR ?l) (?q (?aA Wp (?q (vB (ip:=[("field",2)]) rO Z Z Z RB.nd (tI ?a9) (rq (aM:=["self","fields","field"]) (sc:=eO Ls) ?w) (λ_ _ _ _ _=>(?R 2 RB.nd)) (λ_ _ _ _ _=>sr) (λ_ _ _ _ _=>(?aA TV (?q ?dr) (O:=JI)))))))))))):=by
 let(a5,P,r,f3,m2,k3,j2,x,d1,a2,B,e1,g3,p,0,e,0,(c3,g7,d6),h9,n6,a4,k2):=h;let n5:=fU;let i4:R c3=R p:=d6.length;cases m:B.getLast? with
 |none=>
  let O:=e.2;have:d1=[]:=by
   have:=e.c.la.length;rw[Gk.mp m]at this;show rc.mp this
  rw[this]at O;let O:H r=Y (sR f3 m2 k3 j2 ?eJ .cT e1):=O;show(λ_ _=>False,?_,λ_ _ k=>k.elim);lk;show iI (a4 (by unfold pi;rw[m]) H _ _ _ _ _ _ e.c.old O _ Ref.na _ _)
 |some k=>
 let(d0,b3,o,n0,p2,v1,v2,e2,E,O,c4,h3,d7,i3,b0,g9,f5):=e.last m;show(λe9 H'=>H=H'/\k.entries.isEmpty=M/\e9=[?jW,Y (.ref g3),U],?_,?_)
 .lk;show(b3,e2,Z,.inl d7,?_);cases a7:e2.isEmpty with
  |false=>
   show kQ (iI (a4 (Zo m λc=>?_) H _ _ _ _ _ _ e.c.old O _ Ref.na _ _));let b4:=GO.mp c.1;rw[b4]at b0;rw[rc.mp b0]at a7;cases a7
  |true=>
   show jY (rfl,?_,Z);rw[GO.mp a7]at b0;rw[rc.mp b0.symm];rfl
 intro e9 _ ξ;let(0,c0,0):=ξ;lk;rw[ft,i3];let n3:Sk.TERMS=32:=rfl;show hU (λX=>?_) (λX=>?_)
 .injection X with X;show iI (a4 (Zo m λc=>?_) H _ _ _ _ _ _ e.c.old O _ Ref.fu _ _);have:=c.2
  lia
 let X:R k.3.rules≠32:=λb=>X (by rw[b];rfl)
 let f2:R k.3.rules<Sk.TERMS:=by
  let(_,_,_,_,_,_,_,_,_,_,_,_,_,l5,_):=g9
  lia
 lk;intro b6 d4;show Fh (xs:=c3.map V.ref) (λi H'=>?eo H'/\H' b6=Y (.lst ((p.take i).map λb=>V.int (Rm.jP b:Nat)))/\∀b∈p.take i,qO b) (Le.new d4,bD,by simp) (λi H' _ c=>cJ.of (c.1 _ _ g7)) ?_ ?_
 .intro i d a6 v ξ;let(n,y,dk):=ξ;rw[iC]at v;cases c1:c3[i]? with
  |none=>rw[c1]at v;cases v
  |some f1=>
  rw[c1]at v;cases v;let(b5,a0,g6):=pK d6 c1;let o1:i<R p:=(ig.mp a0).1;show(rfl,?_);unfold vI;dsimp only;rw[?eZ];lk;let n7:=h9 b5 (lW a0);show(f1,b5,Z,?cA g6,by lia,?_)
  by_cases a8:qO b5
  .rw[bz a8];intro w b1;show(_,b1 _ _ y,?_,(n.trans b1).put d4,?_,?_)
   .rw[ft,jR];lia
   .rw[bD,take_snoc a0,iD];rfl
   .rw[take_snoc a0];intro b h6;rcases iE.mp h6 with c|c
    .show dk b c
    .rw[lX.mp c];show a8
  .rw[bp a8];show a4 (XO ?_) a6 _ _ _ _ _ _ (e.c.old.trans n) (?cA O) _ Ref.na _ _;unfold Rm.qw;rw[bp λc=>a8 (c b5 (lW a0))];rfl
 intro a6 ξ;let(n,y,dk):=ξ;rw[ft,i4,nP]at y dk;let d3:Rm.qw p=Y (p.map Rm.jP):=bz dk;let y:a6 b6=Y (.lst ((p.map Rm.jP).map nV)):=by rw[y,mN];rfl
 show(_,Z,b6,p.map Rm.jP,Z,.inl (cJ.of y),?_);cases c2:Nw (p.map Rm.jP)with
 |none=>show a4 (XO (by rw[d3];show c2)) a6 _ _ _ _ _ _ (e.c.old.trans n) (?cA O) _ Ref.na _ _
 |some c7=>
 intro t w b1 h7 h4;let z:=n.trans b1;let e0:=z _ _ h3;lk
 .rw[ft];lia
 let u:=e.mono z;let(f0,o7,p1,d2,h0,o3,j9,b2,p0,e3,e4,fin):=u.c.last m;let(n1,m3,n2,m0,i2,m4,b4,l0,l1,l2,l3,C,l4,l5,l9,k4,k5):=h0;rw[f5]at d2;cases d2;rw[z _ _ c4]at b4;cases b4;rw[e0]at C;injection C with C;injection C with C;let g2:E=m4:=(aeG (λ_ _ a=>V.ref.inj a)).mp C;subst g2;let l:∀d j,d≠o->w d=Y j->D w o ?iW d=Y j:=λd j a3 a=>bO a3 a;let c6:D w o ?iW o=Y (.lst ((E++[t]).map V.ref)):=by rw[bD,iD];rfl
 generalize D w o ?iW=q at l c6;let(p3,m5,p4,p9):=u.c.ne;let k1:r≠o:=λa=>m5 (a▸b2);let a9:H t=U:=n.no h7;let e8:t∉r::x::a2:=by
  have:=e.c.has a9;simp only[bM,iw];show((λa=>by rw[a,O]at a9;cases a9),this.1,this.2)
 let e5:Le P q:=λd j a=>l d j (λc=>by rw[c,e.c.fr o (by simp[b2])]at a;cases a) (u.c.old _ _ a)
 let a1:Le (b9 a5 P w (r::x::a2)) (b9 a5 P q (r::x::a2)):=Cm e.c.b0 u.c.old e5 (λd j a3 a=>l d j (λc=>a3 (by simp[c,b2])) a) λd v=>.inl v
 let h8:sx (b9 a5 P q (r::x::a2)) t c7:=by
  let(f4,a):=h4;show(f4,xJ (e.c.b0.trans e5) (?c5 (λc=>e8 (by simp[c,b2])) a) e8 (.inl (e.c.old.no a9)))
 let g5:kE (b9 a5 P q (r::x::a2)) q d0 {k with ways:={k.3 with rules:=k.3.rules++[c7]}} b3 o:=
  (_,m3,_,m0,i2,E++[t],?c5 e3 (z _ _ c4),a1 _ _ l0,l1.mono a1,a1 _ _ l2,l3,c6,vZ (jb.lu l4 λ_ _ b=>b.mono a1) h8,by simp;lia,λm1 h2=>by
   rcases iE.mp h2 with b|b
   .show l9 m1 b
   .rw[lX.mp b];let(a7,a,j,o2,f0,m6,_,d5,0):=Ei c2;show(d5.1,d5.2.2.2),by
   rcases k4 with b|⟨j,b⟩
   .show .inl (?c5 e4 b)
   .show bK b (u.c.un b3 j9 _ _),k5.mono a1)
 let h5:∀d,(d=d0\/d=b3\/d=o)->∀j e7,q d≠Y (.eI j e7):=by
  rintro d (b|b|b) j e7 a
  .rw[b,?c5 e3 (z _ _ c4)]at a;cases a
  .rw[b,?c5 e4 (z _ _ d7)]at a;cases a
  .rw[b,c6]at a;cases a
 let(k0,g4):=fin (H':=q) (λd j _ _ a3 _ a=>l d j a3 a) g5 Z h5;let(i1,g1,c5):=u.ky;let g8:uE B=[]:=by
  unfold uE;rw[m];change((k.entries.getLast?).map _).getD []=[];rw[GO.mp c0];rfl
 show k2 _ (amT m (c0,f2) (by rw[d3];show c2)) q d1 k0 e1 (g4,?c5 k1 u.2,i1,g1,?_)
 have:uE (B.set (R B-1) {k with ways:={k.3 with rules:=k.3.rules++[c7]}})=[]:=by
  unfold uE;let h1:B≠[]:=λc=>by rw[c]at m;cases m
  let n4:0<R B:=BD.mpr h1;rw[QG,BL,DC ?d]
  change((k.entries.getLast?).map _).getD []=[];rw[GO.mp c0];rfl
 rw[this,<-g8];show ?c5 (λc=>by rw[c,e0]at c5;cases c5) c5
end Sm
namespace Rm
open Sk
def pT(l:?t)(c:aP):?bl->Option (?t×Nat)
 |[d,e]=>match l.getLast? with
  |none=>U
  |some b=>if lE d=M/\R b.entries<C6/\vd b.3.rules=M/\(b.entries.getLast?.all λ(f:jz)=>mO f.key d)=M then(match AS e with
   |none=>U
   |some a=>if C7<a\/R c<a+1\/(c.drop a).head?≠Y 10 then U else match Na ?fN with
    |.error _=>U
    |.ok g=>Y (?fX {b with entries:=b.entries++[(d,?fN,g)]},a))else U
 |_=>U
def oy(a:aP):Nat:=(a.filter λ(b:UInt8)=>b==10).length
theorem ald(e:Nat)(l:?t)(b:aP)(a:?bl):rC e l b a=(pT l b a).map λc=>(e+1+oy (b.take c.2)+1,(c.1,b.drop (c.2+1))):=by
 by_cases d:R a=2
 .let(k,f,0):=L2.lq2 d;unfold rC pT oy;dsimp only;rcases h:l.getLast? with _|o
  .rfl
  dsimp only;split
  .rcases AS f with _|i
   .rfl
   simp only;split
   .rfl
   rcases Na (b.take i)with j|g
   .rfl
   simp only[BM];rw[(HJ _ h).1]
  rfl
 rw[aj3 e l b a d];rcases a with _|⟨m,_|⟨n,_|⟨c,a⟩⟩⟩<;>first|rfl|show bK rfl d
structure Da(l:List cq)(d:aP)(h:List aP)(c e:aP)(b:cq)(a:Nat)(g:jc):Prop where
 fs:h=[c,e]
 la:l.getLast?=Y b
 nm:lE c=M
 gM:b.entries.length<48
 ends:vd b.ways.rules=M
 Dr:(b.entries.getLast?.all λ(f:jz)=>mO f.key c)=M
 num:AS e=Y a
 R4:a<=1024
 len:a+1<=d.length
 lf:(d.drop a).head?=Y 10
 rd:Na (d.take a)=.ok g
def Og{l:?t}{a:Nat}{g:jc}(h:Da l c e f i d a g):pT l c e=Y (?fX {d with entries:=d.entries++[(f,?fN,g)]},a):=by
 let j:C6=48:=rfl;let k:C7=1024:=rfl;have:=h.8;have:=h.len;have:=h.gM;rw[h.fs];unfold pT;simp only[h.la];rw[bz (h.nm,h.gM,h.ends,h.6)];simp only[h.num];rw[bp (by rintro(b|b|b)<;>first|lia|show b h.lf)]
 simp only[h.rd]
def Nq{l:?t}(h:pT l j i=Y o):mv λd b e c g=>Da l j i d b e c g:=by
 let q:C7=1024:=rfl;unfold pT at h;split at h
 .rename_i d b;split at h
  .lia
  rename_i e n;split at h
  .rename_i a;split at h
   .lia
   rename_i c m;split at h
   .cases h
   rename_i f;simp only[iw]at f;split at h
   .cases h
   rename_i g k;show(d,b,e,c,g,Z,n,a.1,a.2.1,a.2.2.1,a.2.2.2,m,by lia,by lia,Gi f.2.2,k)
  cases h
 cases h
def aor{l:?t}(h:∀d a f c g,Da l e b d a f c g->False):pT l e b=U:=by
 rcases i:pT l e b with _|k
 .rfl
 let(d,a,f,c,g,j):=Nq i;show(h d a f c g j).elim
end Rm
namespace Sm
inductive alB(A:V)(v:V)(m:L)(s:VK)(r:XK):Prop
 |i (l c e o k b f dl t y h w p d a) (_:A=?aY) (_:lS l c m e o k b f dl t y h w) (_:v=?jV) (_:FieldsAt m p d) (_:(∀B∈d,B.length<=20000)) (_:c k=?bo) (_:a.length<=20000) (_:b<=a.length) (_:(pT h ?cf d=U->AT c e f r)) (_:∀q j,pT h (a.drop b) d=Y (q,j)->b+j+1<=a.length->∀n u z x,lS l c n e o k (b+j+1) f dl u z q x->s .cT n)
def ana:Sp:=kq (alB)
theorem D4(a:aP):bT a=(a.map λb=>((b.toNat:Nat):Int)).map V.int:=by rw[kF,mN];rfl
def ato{e:VK}(i:cZ b a c (bT f))(j:cZ b a d (bT h))(k:e (.bl (!mO h f)) a):S1 b ?aC ?J a e:=
 (c,d,_,_,Z,Z,by rw[<-D4];show i,by rw[<-D4];show j,by rw[XD];show k)
def QT:gy ["self","fields","text"] ["self","fields"] (eO QW):=(rfl,Z,Z,by decide+kernel,Z,by decide+kernel,by decide+kernel)
theorem KP[d2:?da]:g.pC 12 g.gU "load_message" ["self","fields"] (ana):=uJ d2.KP QT ?Z tV λs9 s7 s3 w0 s P y0 s4 h2 X h=>by
 obtain⟨x0,w7,rfl,h⟩:=h;show(_,(nh (?cQ (PW.pt (qR (uK (Jv ?d0)) (qR (nY (jD (?fI d2.pd DK X))) (qR (?B wH (?cp jx d2.jd (?q ?a9)) bP) (vC (?B (ass (apv X)) (?b ?a9 bP) ?d0)))))) (bw (lh nR X))) (bx (dO (cQ Wn X (?q (?b ?a9 bP)))) (bx (eG (i:=2) QT.nd rfl ?aJ (?U d2.pd GE X (?q (cQ TV X (?q (?b ?a9 bP)))))) (bx (dO (cQ Mb X (?q ?dr))) (bx (dO (cQ Ux X (F ?d0 (F (?b ?a9 bP) (?q (cQ Mc X (?q ?dr))))))) (bw (fV ?cJ (?b ?a9 bP) rfl))))))),?_)
 try dsimp only[eJ,jC,jF,jA]
 obtain⟨c0,a1,l,a4,a5,k,H,w,e3,b5,u,q0,e9,b6,q,rfl,p,rfl,⟨l9,b2,a6⟩,i3,p1,v0,o2,q5,q7⟩:=h;have t6:=fU;have g5:l9.length=b6.length:=a6.length;have v:(∀c j f d g,Da u (q.drop k) b6 c j f d g->False)->AT a1 l H h2:=λh=>q5 (aor h);cases C:u.getLast? with
 |none=>
  have t:=p.O;have:e3=[]:=by
   have:=p.c.la.length;rw[Gk.mp C]at this;show rc.mp this
  rw[this]at t;have t:P l=Y (sR a4 a5 k H (.ref w) .cT q0):=t;show(λ_ _=>False,?_,λ_ _ f=>f.elim);lk;show iI (v (λc j f d g b=>by have:=b.la;rw[C]at this;cases this) P _ _ _ _ _ _ p.c.old t _ Ref.na _ _)
 |some f=>
 obtain⟨a3,v5,w2,s8,w3,w4,w5,v1,w1,t,t1,u1,t4,v2,v3,t3,e8⟩:=p.last C;obtain⟨b4,rfl,d7⟩:=p.ky;show(λl1 H'=>P=H'/\bN λc j=>b6=[c,j]/\qG u=M/\mO (uE u) c=M/\l1=[?kf,Y (.ref e9),U],?_,?_)
 .lk;show p.rules ?_;cases A:qG u with
  |false=>
   lk;show iI (v (λc j d0 d g b=>?_) P _ _ _ _ _ _ p.c.old t _ Ref.na _ _);unfold qG at A;rw[b.la]at A;have:=b.ends;have A:vd d0.ways.rules=I:=A;rw[this]at A;cases A
  |true=>
   lk;rw[ft,g5];cases a9:decide (V.int ((b6.length:Nat):Int)=V.int 2)with
   |false=>
    have a9:b6.length≠2:=λf=>nN a9 (by rw[f];rfl)
    lk;show iI (v (λc j f d g b=>a9 (by rw[b.fs];rfl)) P _ _ _ _ _ _ p.c.old t _ Ref.na _ _)
   |true=>
    have a9:b6.length=2:=by
     have:=lN a9;injection this with this
     lia
    obtain⟨c,j,rfl⟩:=lq2 a9;obtain⟨z,e2,rfl⟩:=lq2 g5;cases a6 with
    |cons g1 a6=>
    lk;show ?ji b2 rfl ?_;lk;show ato (cZ.of g1) (cZ.of d7) ?_;cases m:mO (uE u) c with
    |false=>
     lk;show iI (v (λg8 e5 d0 d g b=>?_) P _ _ _ _ _ _ p.c.old t _ Ref.na _ _);obtain⟨rfl,rfl⟩:c=g8/\j=e5:=by have:=b.fs;simpa using this
     have c6:=b.Dr;unfold uE at m;rw[b.la]at m;have m:mO (((d0.entries.getLast?).map λ(e:jz)=>e.key).getD []) c=I:=m;cases a:d0.entries.getLast? with
     |none=>
      rw[a]at m;cases c with
      |nil=>have:=b.nm;cases this
      |cons _ _=>cases m
     |some e=>
      rw[a]at m c6;have c6:mO e.key c=M:=c6;have m:mO e.key c=I:=m;rw[c6]at m;cases m
    |true=>
     lk;show(m,rfl)
 intro l1 _ ξ;let(0,c,j,0,A,m,0):=ξ;obtain⟨z,e2,rfl⟩:=lq2 g5;obtain⟨g1,o7⟩:P z=?a1/\P e2=Y (.tup (bT j)):=by
  cases a6 with
  |cons m1 a6=>
  cases a6 with
  |cons f0 a6=>show(m1,f0)
 have y3:=i3 c ?c
 have y4:=i3 j ?c
 have v:(∀f d g,Da u (q.drop k) [c,j] c j f d g->False)->AT a1 l H h2:=λh=>v λg8 e5 f d g b=>by
  obtain⟨rfl,rfl⟩:c=g8/\j=e5:=by have:=b.fs;simpa using this
  show h f d g b
 lk;show ?ji b2 rfl ?_;lk;show ?b4
 change ?du (lE c);unfold c9;cases e7:lE c with
 |false=>show v (λf d g b=>by have:=b.nm;rw[e7]at this;cases this) P _ _ _ _ _ _ p.c.old t _ Ref.na _ _
 |true=>
 rw[bz rfl];intro l2 c2;have n1:=p.mono c2;have p4:=c2 _ _ t;have n2:=c2 _ _ b2;lk;show gE (i:=1) n2 rfl ?_;lk;show(e2,j,rfl,c2 _ _ o7,by lia,?_)
 by_cases d4:qO j;rotate_left 1
 .rw[bp d4];show v (λf d g b=>?_) l2 _ _ _ _ _ _ n1.c.old p4 _ Ref.na _ _;have:=b.num;rw[Im,bp λa=>d4 a.1]at this;cases this
 rw[bz d4];intro h3 a7;have a7:=c2.trans a7;have f1:=p.mono a7;have g2:=a7 _ _ t;have p2:=f1.c.old _ _ p1;generalize i1:Rm.jP j=d;show(_,_,rfl,l,a4,a5,k,H,_,_,_,q,d,rfl,g2,p2,rfl,λn6=>?_,λh8 s6 d1 d3 g3 p0=>?_)
 .show v (λf g7 g b=>n6 ?_) h3 _ _ _ _ _ _ f1.c.old g2 _ Ref.na _ _;have:=b.num;rw[Im]at this;split at this
  .cases this;have a:=b.lf;rw[uk,Tc]at a;rw[<-i1];show a
  .cases this
 have t5:k+d<q.length:=(ig.mp h8).1;have f5:Sk.natOf j=Y d:=by
  rw[Im,bz (d4,by lia),i1]
 have h7:lS c0 a1 d1 l a4 a5 (k+d+1) H w e3 b5 u (.ref b4):=by
  show(f1.c.but d3,?_,b4,rfl,d3 _ _ (λa=>?_) (a7 _ _ d7))
  .rw[g3];unfold qt;rw[e8]
  .rw[a,t]at d7;cases d7
 have s2:∀{y s},h3 y=?gN->d1 y=?gN:=λ{y s} e=>d3 _ _ (λa=>by rw[a,g2]at e;cases e) e
 have n3:d1 e9=_:=d3 _ _ (λa=>by rw[a,t]at b2;cases b2) (a7 _ _ b2)
 have g6:((q.drop k).take d).length=d:=by rw[jR,lC];lia
 lk;show(by rw[g6];lia,?_)
 change ?du (decide (((q.drop k).take d).length<=1024));rw[g6];unfold c9;cases b0:decide (d<=1024)with
 |false=>
  have b0:=nN b0;show v (λf g7 g b=>?_) d1 _ _ _ _ _ _ h7.c.old g3 _ Ref.na _ _;have:=b.num;rw[f5]at this;cases this;show b0 b.R4
 |true=>
 have b0:=lN b0;rw[bz rfl];intro l3 c3;have d6:=h7.mono c3;have g4:=c3 _ _ g3;have h9:=c3 _ _ n3;have o3:=c3 _ _ (s2 (a7 _ _ g1));have u2:=c3 _ _ p0;lk;show ?ji h9 rfl ?_;lk;show(by rw[g6];lia,λe b1=>?_,λa8 b1 a0 x e1 u8 m6=>?_)
 .show v (λf g7 g b=>?_) l3 _ _ _ _ _ _ d6.c.old g4 _ Ref.fa _ _;have:=b.num;rw[f5]at this;cases this;have:=b.rd;rw[b1]at this;cases this
 have T:=d6.mono e1;have e0:=e1 _ _ g4;have b3:=e1 _ _ o3;have f2:=e1 _ _ h9;obtain⟨s5,o,k5,h5,n5,i4,c4,j2,j9,v7,k0,fin⟩:=T.c.last C;obtain⟨h4,s0,m0,r7,E,s1,h0,q9,r1,r2,r3,k4,r4,r5,r6,q8,c5⟩:=id n5;rw[e8]at h5;cases h5;have f3:x o=Y (.dT E):=by
  rcases q8 with b|⟨n,b⟩
  .show b
  .show bK b (T.c.un o c4 _ _)
 have v4:=c5.len;have e4:(f.entries.getLast?.all λ(e:jz)=>mO e.key c)=M:=by
  unfold uE at m;rw[C]at m;have m:mO (((f.entries.getLast?).map λ(e:jz)=>e.key).getD []) c=M:=m;cases a:f.entries.getLast? with
  |none=>rfl
  |some e=>rw[a]at m;show m
 have h1:=Xc (e:=(c,(q.drop k).take d,a8)) c5.kr e4;have q3:?fM E=U:=by
  rw[c5.EU];intro b;obtain⟨e,b1,l4⟩:=eM.mp b;unfold qi pO at h1;rw[iD,KQ]at h1;have:=h1.2.2 e.key (eM.mpr (e,b1,rfl)) c ?c
  rw[l4,xq]at this;cases this
 have t0:=c5.gM;lk;show(_,_,_,rfl,a3,h4,_,_,_,_,o,E,z,c,rfl,h0,f3,by lia,rfl,b3,λ_ t2=>?_,λo1=>?_)
 .show v (λd0 g7 g b=>?_) x _ _ _ _ _ _ T.c.old e0 _ Ref.fu _ _;have:=b.la;rw[C]at this;cases this;have:=b.gM
  lia
 have h6:f.entries.length<48:=by
  by_cases a:f.entries.length=48
  .show bK (q3,by lia) o1
  .lia
 obtain⟨c6,c7,y1,y2⟩:=T.c.ne;have k2:l≠o:=λa=>c7 (a▸c4);have u3:D x o (.dT (b_ E (bk c) (.ref a0))) l=_:=bO k2 e0;have n4:D x o (.dT (b_ E (bk c) (.ref a0))) e9=_:=bO (λa=>by rw[a,f3]at f2;cases f2) f2
 lk;show ?ji n4 rfl ?_;lk;have f4:D (D x o (.dT (b_ E (bk c) (.ref a0)))) l (.ins g.gU a4 (dS "last_key" (.ref z) (qK (.ref a5) (.int (k+d+1:Nat)) (.int H) (.ref w) (.ref a3) (.ref b4)))) o=Y (.dT (b_ E (bk c) (.ref a0))):=bO (bI k2) bD;have i2:D (D x o (.dT (b_ E (bk c) (.ref a0)))) l (.ins g.gU a4 (dS "last_key" (.ref z) (qK (.ref a5) (.int (k+d+1:Nat)) (.int H) (.ref w) (.ref a3) (.ref b4)))) l=Y (sR a4 a5 (k+d+1) H (.ref w) (.ref a3) (.ref z)):=bD;have B:∀y n,y≠o->y≠l->x y=Y n->D (D x o (.dT (b_ E (bk c) (.ref a0)))) l (.ins g.gU a4 (dS "last_key" (.ref z) (qK (.ref a5) (.int (k+d+1:Nat)) (.int H) (.ref w) (.ref a3) (.ref b4)))) y=Y n:=λy n f0 m2 e=>bO m2 (bO f0 e);generalize D (D x o (.dT (b_ E (bk c) (.ref a0)))) l (.ins g.gU a4 (dS "last_key" (.ref z) (qK (.ref a5) (.int (k+d+1:Nat)) (.int H) (.ref w) (.ref a3) (.ref b4))))=a2 at f4 i2 B;have k3:Le a1 a2:=λy n e=>B y n (λa=>by rw[a,T.c.fr o (by simp[c4])]at e;cases e) (λa=>by rw[a,T.c.fr l ?c]at e;cases e) (T.c.old _ _ e)
 have c1:Le (b9 c0 a1 x (l::w::b5)) (b9 c0 a1 a2 (l::w::b5)):=Cm p.c.b0 T.c.old k3 (λy n k1 e=>B y n (λa=>k1 (by simp[a,c4])) (λa=>k1 ?aH) e) λy p9=>.inl p9
 have n0:rH (b9 c0 a1 a2 (l::w::b5)) a0 ((q.drop k).take d) a8:=m6.mono λy n e=>by
  have d5:=wj y n e;have g9:y∉l::w::b5:=by
   simp only[bM,iw];rcases xn y n e with a|⟨s,a⟩
   .have:=d6.c.has a;show((λr=>by rw[r,g4]at a;cases a),this.1,this.2)
   .subst a;have:=T.c.uO d5;show((λr=>by rw[r,e0]at d5;cases d5),this.1,this.2)
  show xJ (p.c.b0.trans k3) (B y n (λa=>g9 (by simp[a,c4])) (λa=>g9 ?aH) d5) g9 ?_
  rcases xn y n e with a|a
  .show .inl (d6.c.old.no a)
  .show ?gO
 have t7:=XN b1;have m4:=c5.snoc c1 (ma:=a0) (e:=(c,(q.drop k).take d,a8)) n0 (by change((q.drop k).take d).length<=1024;lia,by change fk a8<=1025;lia,YW e7) h6 e4
 have m5:kE (b9 c0 a1 a2 (l::w::b5)) a2 a3 {f with entries:=f.entries++[(c,(q.drop k).take d,a8)]} o k5:=
  (h4,s0,m0,r7,_,s1,B _ _ j9 (λa=>c7 (a▸i4)) h0,c1 _ _ q9,r1.mono c1,c1 _ _ r2,r3,B _ _ (bI k0) (λa=>c7 (a▸j2)) k4,jb.lu r4 λ_ _ b=>b.mono c1,r5,r6,.inl f4,m4)
 have p3:∀y,(y=a3\/y=o\/y=k5)->∀n l0,a2 y≠Y (.eI n l0):=by
  rintro y (b|b|b) n l0 e
  .rw[b,B _ _ j9 (λa=>c7 (a▸i4)) h0]at e;cases e
  .rw[b,f4]at e;cases e
  .rw[b,B _ _ (bI k0) (λa=>c7 (a▸j2)) k4]at e;cases e
 obtain⟨q2,m3⟩:=fin (H':=a2) (λy n _ q4 _ q6 e=>B y n q4 q6 e) m5 rfl p3;have l5:vd f.ways.rules=M:=by
  unfold qG at A;rw[C]at A;show A
 have q1:Da u (q.drop k) [c,j] c j f d a8:=(rfl,C,e7,h6,l5,e4,f5,b0,by rw[lC];lia,by rw[uk,Tc];show h8,b1)
 show q7 _ d (Og q1) ?d a2 e3 q2 (.ref z) (m3,?_,z,rfl,?_)
 .rw[i2];unfold qt;rw[e8]
 .have:uE (u.set (u.length-1) {f with entries:=f.entries++[(c,(q.drop k).take d,a8)]})=c:=by
   unfold uE;have n7:u≠[]:=λa=>by rw[a]at C;cases C
   have o2:0<u.length:=BD.mpr n7;rw[QG,BL,DC ?d]
   simp
  rw[this];show B _ _ (λa=>by rw[a,f3]at b3;cases b3) (λa=>by rw[a,e0]at b3;cases b3) b3
end Sm
namespace Rm
open Sk
def ZA:∀{w v:aP},iJ w=[v]->w=v:=by
 intro e
 induction e with
 |nil=>
  intro v h;let h:[([]:aP)]=[v]:=h;cases h;rfl
 |cons f b ih=>
  intro v h;unfold iJ at h;split at h
  .injection h with _ h;show bK h (rY b)
  rcases a:iJ b with _|⟨i,l⟩
  .show bK a (rY b)
  rw[a]at h;injection h with c d;subst d;rw[ih a,<-c]
def anx:iJ ?e3=[?e3]:=rfl
def oH(e:Nat)(l:?t)(f:aP):Option (?t×Nat):=match MZ f with
 |none=>U
 |some (a,i)=>if e=0 then(if iJ a=[?e3]then Y (l,R a+1)else U)else match iJ a with
  |[]=>U
  |h::b=>if h=?a5 then(pQ l b).map λc=>(c,R a+1)else if h=?dw then(pi l b).map λc=>(c,R a+1)else if h=?bp then(pT l i b).map λd=>(d.1,R a+1+(d.2+1))else U
theorem IQ(a b:aP):oy (a++b)=oy a+oy b:=by unfold oy;rw[aeE,iA]
def M4(h:10∉a):oy a=0:=by unfold oy;rw[rc,List.filter_eq_nil_iff];intro d b c;show h (by rw[<-beq_iff_eq.mp c];show b)
def akQ{j:Nat}(w:j≠0)(l:?t)(a:aP):xC j l a=(oH j l a).map λe=>(j+oy (a.take e.2),(e.1,a.drop e.2)):=by
 unfold xC oH;rcases v:MZ a with _|e
 .rfl
 let(c,d):=e;let(o,y):=Jm v;simp only;rw[bp w];let z:a.take (R c+1)=c++[10]:=by rw[o,afv,wQ ?d];simp
 let f:a.drop (R c+1)=d:=by rw[o,So];simp
 let k:oy (a.take (R c+1))=1:=by rw[z,IQ,M4 y];rfl
 rcases iJ c with _|⟨h,m⟩
 .rfl
 simp only;split
 .rw[ajW];rcases pQ l m with _|q
  .rfl
  simp only[BM,k,f]
 split
 .rw[akd];rcases pi l m with _|q
  .rfl
  simp only[BM,k,f]
 split
 .rw[ald];rcases r:pT l d m with _|e
  .rfl
  let(q,b):=e;let(H,C,P,x,g,n):=Nq r;let i:=Og n;rw[r]at i;let u:b=x:=by injection i with i;injection i
  subst u;let p:=n.lf;simp only[BM];let t:a.drop (R c+1+?a4)=d.drop ?a4:=by rw[<-f,uk]
  let A:a.take (R c+1+?a4)=a.take (R c+1)++d.take ?a4:=by rw[List.take_add,f]
  let B:d.take ?a4=d.take b++[10]:=by
   rw[GY];rw[Tc]at p;rw[p];rfl
  let s:oy (a.take (R c+1+?a4))=1+(oy (d.take b)+1):=by rw[A,IQ,k,B,IQ];rfl
  rw[t,s];congr 2
  lia
 rfl
end Rm
namespace Sm
def Nk(h:nz a b c):xT d a ?fl (c.map dB):=by
 induction h with
 |nil=>show .nil
 |cons h e ih=>show .cons (AU (cZ.of h)) ih
def Uy:∀a:List aP,yz (a.map dB)=M:=by
 intro d
 induction d with
 |nil=>
  simp[yz]
 |cons e a ih=>
  let b:=Ef e;let c:=ih;simp[yz,Ai,dB,b,c]at*
def Vo:∀a:List aP,BN (a.map dB)<=3:=by
 intro b
 induction b with
 |nil=>
  simp[BN]
 |cons c a ih=>
  let d:=HG c;let e:=ih;simp only[iF,BN,dB,An]
  lia
def UV(a:?bl):xh (.list (a.map dB))=M:=by let b:=Uy a;let c:=Vo a;unfold xh;simp only[Ai,An,b,Ak,ja];show im ?d
theorem UA:∀a b:List aP,wY (a.map dB) (b.map dB)=?gr
 |[],[]=>rfl
 |[],_::_=>rfl
 |_::_,[]=>rfl
 |c::a,d::b=>by
  have ih:=UA a b;rw[iF,iF];unfold wY;rw[ih,Jp];simp[af1]
def att{us ws:?bl}{b:VK}(k:FieldsAt a c us)(l:FieldsAt a d ws)(m:b (.bl (!decide (us=ws))) a):Qg e ?aC ?J a b:=by
 let(n,f,h):=k;let(o,i,j):=l;show(_,_,.lst (cJ.of f) (Nk h),.lst (cJ.of i) (Nk j),UV us,UV ws,?_);have:wc (.list (us.map dB)) (.list (ws.map dB))=decide (us=ws):=by
  show UA us ws
 rw[this];show m
theorem lS.but{k m l b:L}{a e j:S}{v q i:Nat}{d:S}{c p:?aD}{o:?t}{f:V}(h:lS k m l a e j v i d c p o f)(n:ij a l b)(t:b a=Y (sR e j q i ?J (qt c) f)):lS k m b a e j q i d c p o f:=by let(u,s,r):=h.ky;show(h.c.but n,t,u,s,?cA (λw=>?_) r);have:=h.2;rw[<-w,r]at this;cases this
inductive aoZ(x:V)(p:L)(q:VK)(o:XK):Prop
 |i (k d f m j b c dl r v h t a) (_:x=?bL) (_:lS k d p f m j b c dl r v h t) (_:d j=?bo) (_:a.length<=20000) (_:b<=a.length) (_:(oH c h ?cf=U->AT d f c o)) (_:∀n e,oH c h (a.drop b)=Y (n,e)->b+e<=a.length->0<e->∀l s w u,lS k d l f m j (b+e) c dl s w n u->q .cT l)
def aqT:Sp:=ic (aoZ)
def Rn:?cd ["self","fields"] (eO Rt):=(rfl,Z,Z,by decide+kernel,Z,by decide+kernel,by decide+kernel)
theorem Lc[s:?da]:g.pC 13 g.gU "load_entry" ["self"] (aqT):=uJ s.Lc Rn ?v nI λp a a a a n a b0 x k h=>by
 let⟨a,0,h⟩:=h;show⟨_,(bx (?n 1 Rn.nd (?fI s.pd KU k)) (bw (fH (?B jV ?l bP) (bw (?cQ (?B (Ft k.units) ?a9 (ib (?q (cQ qc k (?q (?Y s.L6)))))) (bw (lh nR k)))) (bw (fH (?B (zx k.units) (?b ?a9 bP) (cQ qc k (?q (?Y s.Xy)))) (bw (dO (?U s.pd KM k (?q (?iP ?a9))))) (bw (fH (?B (zx k.units) (?b ?a9 bP) (cQ qc k (?q (?Y s.L7)))) (bw (dO (?U s.pd Lo k (?q (?iP ?a9))))) (bw (fH (?B (zx k.units) (?b ?a9 bP) (cQ qc k (?q (?Y s.YS)))) (bw (dO (?U s.pd KP k (?q (?iP ?a9))))) (bw (lh nR k))))))))))),?_⟩
 try dsimp only[eJ,jC,jF,jA]
 let⟨a2,X,j,s,a1,T,q,a5,a3,a8,m,a7,a4,0,b,b2,b3,a,c,f⟩:=h;let d:=fU;let e:=b.2;let d:=b.c.old _ _ b2;lk;show⟨j,s,a1,T,q,_,_,_,a4,Z,e,d,b3,a,λd=>?_,λa r d p B k p t b1 b5=>?_⟩
 .show c (by unfold oH;rw[d]) n _ _ _ _ _ _ b.c.old e _ Ref.na _ _
 let a6:=b.but k p;let P:=NT a;let b:R a<=20000:=by lia
 let k:oH q m (a4.drop T)=(if q=0 then(if iJ a=[?e3]then Y (axa m (R a+1))else U)else match iJ a with
  |[]=>U
  |h::e=>if h=?a5 then(pQ m e).map λb=>(axa b (R a+1))else if h=?dw then(pi m e).map λb=>(axa b (R a+1))else if h=?bp then(pT m r e).map λj=>(axa (j.1) (R a+1+(j.2+1)))else U):=by
  unfold oH;rw[d]
 rw[k]at c f;clear k;let⟨v,E,H⟩:=t;let w:R v=(iJ a).length:=H.length;lk;show hU (λu=>?_) (λu=>?_)
 .let u:q=0:=by injection u with u;lia
  rw[bz u]at c f;lk;show⟨_,?e3,Z,K2,λA b4 n a9=>?_⟩;show⟨by change 1<=cw;decide,λl k=>?_⟩
  let y:=?cA E;let b6:=?cA p;show att (us:=iJ a) (ws:=[?e3]) ⟨v,gc k y,jb.lu H λ_ _ d=>gc k (?cA d)⟩ ⟨[A],bD,?c2 (gc k a9)⟩ ?_;let C:=(a6.mono n).mono (Le.new (o:=.lst [.ref A]) k);rcases k:decide (iJ a=[?e3])with _|_
  .rw[bp (nN k)]at c;lk;show iI (c Z _ _ _ _ _ _ _ C.c.old C.2 _ Ref.na _ _)
  rw[bz (lN k)]at f;lk;show f _ _ Z ?d ?d _ a3 a8 a7 C
 let u:q≠0:=λp=>u (by rw[p];rfl)
 rw[bp u]at c f;cases p:iJ a with
 |nil=>show bK p (rY a)
 |cons h e=>
 rw[p]at c f H P w;let⟨t,p,0⟩:bN λt p=>v=t::p:=by
  rcases v with _|⟨t,p⟩
  .cases w
  show⟨t,p,Z⟩
 let⟨a0,v⟩:B t=Y (.tup (bT h))/\nz B p e:=by
  cases H with
  |cons a0 H=>show⟨a0,H⟩
 let c:(if h=?a5 then(pQ m e).map λb=>(axa b (R a+1))else if h=?dw then(pi m e).map λb=>(axa b (R a+1))else if h=?bp then(pT m r e).map λj=>(axa (j.1) (R a+1+(j.2+1)))else U)=U->AT X j q x:=c;let f:∀(b:?t) (u:Nat),(if h=?a5 then(pQ m e).map λb=>(axa b (R a+1))else if h=?dw then(pi m e).map λb=>(axa b (R a+1))else if h=?bp then(pT m r e).map λj=>(axa (j.1) (R a+1+(j.2+1)))else U)=Y (axa b u)->T+u<=R a4->0<u->∀H' w z x,lS a2 X H' j s a1 (T+u) q a5 w z b x->b0 .cT H':=f;let b0:∀u∈e,R u<=20000:=λu H=>by have:=P.2 u (gY _ H);lia
 let c0:R e<=20001:=by have:=P.1;simp at this;lia
 let H:∀{H':L} {A:S},Le B H'->H' A=U->FieldsAt (D H' A ?dm) A e:=λ{H' A} u a9=>by
  show⟨p,?_,jb.lu v λ_ _ d=>gc a9 (u _ _ d)⟩;rw[bD,show ?em=((1:Nat):Int)from rfl,NF];rfl
 lk;show ?P 0 E Z;lk;show⟨_,?a5,Z,Wb,λu b4 n u=>?_⟩;show xY (cZ.of (?cA a0)) (cZ.of u) ?_;cases k:decide (h=?a5)with
 |true=>
  rw[bz (lN k)]at c f;let C:=a6.mono n;let y:=?cA E;let b6:=C.2;lk;intro u v;let A:=C.mono (Le.new (o:=?dm) v);show⟨_,_,Z,a2,X,j,s,a1,_,q,a5,a3,a8,m,a7,u,e,Z,A,Z,H n v,b0,λd=>c ?gk,λb d H' w z x B=>?_⟩
  show ?gh x B
 |false=>
 rw[bp (nN k)]at c f;let y:=?cA E;lk;show ?P 0 y Z;lk;show⟨_,?dw,Z,B7,λk k y k=>?_⟩;let y:=n.trans y;let C:=y _ _ E;let A:=a6.mono y;let n:=A.2;show xY (cZ.of (y _ _ a0)) (cZ.of k) ?_;cases n:decide (h=?dw)with
 |true=>
  rw[bz (lN n)]at c f;lk;intro u v;let k:=A.mono (Le.new (o:=?dm) v);show⟨_,_,Z,a2,X,j,s,a1,_,q,a5,a3,a8,m,a7,u,e,Z,k,Z,H y v,b0,c0,λd=>c ?gk,λb d H' w z x B=>?_⟩
  show ?gh x B
 |false=>
 rw[bp (nN n)]at c f;lk;show ?P 0 C Z;lk;show⟨_,?bp,Z,Xg,λn n P n=>?_⟩;let P:=y.trans P;let y:=P _ _ E;let k:=a6.mono P;let A:=k.2;show xY (cZ.of (P _ _ a0)) (cZ.of n) ?_;cases n:decide (h=?bp)with
 |true=>
  rw[bz (lN n)]at c f;lk;intro u v;let y:=k.mono (Le.new (o:=?dm) v);show⟨_,_,Z,a2,X,j,s,a1,_,q,a5,a3,a8,m,a7,u,e,a4,Z,y,Z,H P v,b0,b2,b3,b5,λd=>c (by rw[b1]at d;rw[d];rfl),λb e d j H' w z x B=>?_⟩
  rw[b1]at d;let j:T+R a+1+e+1=T+(R a+1+(e+1)):=by lia
  rw[j]at B;show ?gh x B
 |false=>
 rw[bp (nN n)]at c;lk;show iI (c Z _ _ _ _ _ _ _ k.c.old A _ Ref.na _ _)
end Sm
namespace L2
section
variable{P:eP}{w:dZ}{K:cp}{mg:Str->Option J}{cu:dg}{aM:List Str}{bX:Str}{aX:jE}{fn:S}{cd:J}{A:eV}{outer:List Env}{s0:aO}{H0:L}{E:XK}{k kW j:Nat}{C CL aN:S}{ps Bk:List Str}{wL uU:Sp}{x xW sn m:Str}{o e:dz}{gQ gF zN np p wI Dm tT pos:Pos}{ta:TE}{t:TA}
def aqE(y:∀(h:?H) (l:J->aO->Prop),PE ((?e aX fn cd A outer s0 H0 E).sH h l) o ta)(q:jO K CL)(b:pC P w K mg cu k CL m ps wL)(a2:ii j ?eK)(z:?aQ x)(X:mg x=Y (.ref aN))(B:?aQ xW)(a0:mg xW=Y ?bC)(i:bN λa c=>sE P w K mg cu kW a c Bk uU/\?ej K c Bk/\vK K C a)(s:∀r,PA ((?e aX fn cd A outer s0 H0 E).pP r) [e] t)(H:?ade (k<=j))(T:?ade (kW+1<=j))(a3:?arf (vi (?D [] gF) U zN.line ?k=pure I))(a5:dU (?D [] gF) ?k=(do
 let d<-dU o (fG bX aX s0.1.1.size fn cd)
 ?eP
 let(a,first)<-tG [d] (vg d m f)
 vn gF a first (iS gF (dP [] ?k)) (sj gF (sf [] ?k))):=by rfl)(u:?dW=I:=by decide)(v:(xW==?F)=I:=by decide)(a4:dP [e] ?k=(I,dU e ?k)::dP [] ?k:=by rfl)(a1:(iS wI (dP [] ?k)).any (·.1)=I:=by rfl):?aq (?e aX fn cd A outer s0 H0 E) (PM K aN C CL m wL uU ta t E):=by
 let(_,_,b,f,l):=b;let(_,_,G,h,n):=i;show aqF y q l b a2 f z X B a0 n G h s H T a3 a5 u v a4 a1
end
end L2
namespace Sm
theorem Ref.ex[a:?da](h:Ref b):?bY ?av=Y M:=by
 rcases h with rfl|rfl|rfl|rfl|rfl|rfl|rfl|rfl
 .show a.o6
 .show a.o5
 .show a.o8
 .show a.o4
 .show a.q_
 .show a.o9
 .show a.r8
 show a.L5
inductive aq3(x:V)(p:L)(q:VK)(m:XK):Prop
 |i (l f k n j b d dl r v h t a) (_:x=?gM) (_:lS l f p k n j b d dl r v h t) (_:f j=?bo) (_:a.length<=20000) (_:b<=a.length) (_:(oH d h ?cf=U->XR g.rk f (-6) [.int (d:Nat)] m/\∀e,m .none U e)) (_:∀o c,oH d h (a.drop b)=Y (o,c)->b+c<=a.length->0<c->∀e s w u,lS l f e k n j (b+c) (d+oy ((a.drop b).take c)) dl s w o u->q .cT e)
def asR:Sp:=ic (aq3)
def RA:?cd ["self","start"] (eO RJ):=(rfl,Z,Z,by decide+kernel,Z,by decide+kernel,by decide+kernel)
theorem GH[f:?da]:g.pC 14 g.gU "load_next" ["self"] (asR):=uJ f.GH RA ?v nI λa a a a a n a a E a h=>by
 let(b,0,h):=h;show(_,(bx (?n 1 RA.nd ?l) (bx (aqE (λ_ _=>?cJ) f.pd Lc a Z f.vk Z f.Wx aiM (λ_=>?q (OP (K:=g.K) Z ?cJ Z))) (bw (EF ?cJ (Ph (K:=g.K) Z U7 PySem.F.type_tuple_count (r:=G3 g.K) amC (xD OU ?l (tJ ?a9) (tJ ?l)) (?q (?Y f.Eg))) Jq)))),?_)
 try dsimp only[eJ,jC,jF,jA]
 let(T,a,s,y,P,b,j,x,d,o,m,k,c,0,z,A,f,e,p,a4):=h;let q:=fU;let q:=z.2;lk;show(T,a,s,y,P,b,j,x,d,o,m,k,c,Z,z,A,f,e,λd=>?_,λa1 a T a0 z e u a3 C m=>?_)
 .let(H,B):=p d;intro d d d d w l d a2 k X f d d o d e e p p;let v:=?dl k;show(X,d,Z,Z,f.ex,?_);lk;show(by change 1<=cw;decide,λd q=>(_,_,Z,d,Z,bD,?_))
  show EV (E:=λk w n=>E k w n/\E .none U n) (λt p w d f n=>(H t p w (a2.trans (e.trans d)) f n,B t)) q
 let B:=m.2;let d:=m.c.old _ _ A;lk;intro H o e q;rw[K8 c ?d,show b+a-b=a by lia]at q
 let v:=?dl B;show((H,Z,.inl (_,q)),?_);show(H,_,_,Z,Z,cZ.of q,Z,IL _,?_);let f:((?bj).countP λd=>qW d (.int 10))=?gD:=by
  rw[kF,List.countP_map,List.countP_eq_length_filter];unfold oy;congr 1;show RR λk _=>?_;change((k.toNat:Int)==10)=(k==10);rw[sZ,jT,jT];show(λd=>rW.mp (uZ d),λd=>by rw[d];rfl)
 rw[f];lk;let f:((j:Nat):Int)+((?gD:Nat):Int)=((j+?gD:Nat):Int):=by lia
 dsimp only;rw[f];let(k,f,p):=m.ky;let v:ij s o (D o s (.ins g.gU y (dS "line" (.int (j+?gD:Nat)) (qK (.ref P) (.int (b+a:Nat)) (.int j) ?eJ (qt u) C)))):=ij.upd;let b:=m.mono e;show a4 a1 a T a0 z _ u a3 C (b.c.but v,bD,k,f,v _ _ (λd=>?_) (?dl p));rw[d,B]at p;cases p
end Sm
namespace Rm
open Sk
def rD(l:?t):=∀a∈l.dropLast,vd a.3.rules=M
theorem Vr{l:?t}:(?fX a).dropLast=l.dropLast:=by
 rcases W3 l with rfl|⟨b,c,rfl⟩
 .rfl
 simp
def Nh{l:?t}:(rD l/\qG l=M)<->(l.all λ(a:cq)=>vd a.3.rules)=M:=by
 rcases W3 l with rfl|⟨b,a,rfl⟩
 .simp[rD,qG]
 simp[rD,qG]
def ajY{l c:?t}(h:pQ l i=Y c)(d:rD l):rD c:=by
 unfold pQ at h;split at h
 .split at h
  .cases h
  rename_i f;let j:qG l=M:=by
   rcases a:qG l with _|_
   .show bK (.inr ?aT) f
   rfl
  let e:=Nh.mp (d,j);rcases a:EM _ with _|sep
  .rw[a]at h;cases h
  rw[a]at h;cases h;intro k b;rw[Gu]at b;show nO.mp e k b
 cases h
def ake{l c:?t}(h:pi l a=Y c)(e:rD l):rD c:=by
 unfold pi at h;split at h
 .lia
 split at h
 .rcases d:(qw a).bind Nw with _|i
  .rw[d]at h;cases h
  rw[d]at h;cases h;intro f b;rw[Vr]at b;show e f b
 cases h
def ale{l b:?t}{f:Nat}(h:pT l j e=Y (b,f))(d:rD l):rD b:=by let(n,k,c,m,g,i):=Nq h;rw[Og i]at h;cases h;intro c a;rw[Vr]at a;show d c a
def ais{f:Nat}{l c:?t}{e:Nat}(h:oH f l i=Y (c,e))(b:rD l):rD c:=by
 unfold oH at h;split at h
 .lia
 split at h
 .lia
 split at h
 .cases h
 rename_i o n _ _ _ _ _;split at h
 .rename_i k _ _;rcases a:pQ l _ with _|d
  .rw[a]at h;cases h
  rw[a]at h;cases h;show ajY a b
 split at h
 .rcases a:pi l _ with _|d
  .rw[a]at h;cases h
  rw[a]at h;cases h;show ake a b
 split at h
 .rcases a:pT l _ _ with _|j
  .rw[a]at h;cases h
  rw[a]at h;let(d,m):=j;cases h;show ale a b
 cases h
def Xv(a:aP):(oH 0 [] a=U/\Co a=.error 0)\/∃c,oH 0 [] a=Y ([],c)/\oy (a.take c)=1/\Co a=g_ 1 [] (a.drop c):=by
 unfold oH;rw[aoj];rcases f:MZ a with _|i
 .show .inl (rfl,Z)
 let(e,k):=i;let(d,h):=Jm f;simp only[if_true];by_cases b:e=?e3
 .show .inr (R e+1,?_,?_,?_)
  .rw[bz (by rw[b];show anx)]
  .rw[d,afv,wQ ?d]
   simp only[Nat.add_sub_cancel_left];rw[IQ,M4 h];rfl
  rw[bz b];congr 1;rw[d,So];simp
 show .inl (bp λj=>b (ZA j),bp b)
def o_{a:Nat}(f:a≠0)(l:?t)(h:b≠[]):(oH a l b=U/\g_ a l b=?gy)\/bN λd c=>oH a l b=Y (d,c)/\g_ a l b=g_ (a+oy (b.take c)) d (b.drop c):=by
 rw[ak9 a l h,akQ f];rcases oH a l b with _|e
 .simp_all
 show .inr (e.1,e.2,Z,Z)
end Rm
namespace Sm
def ako:Sp:=ic λn a k f=>gG λe j c=>n=?dh/\a j=?a1/\R c<=20000/\Le e a/\(∀i,Co c=.error i->XR g.rk a (-6) [.int (i:Nat)] f/\∀b,f .none U b)/\(∀d,Co c=.ok d->∀o h l m b,ow e a b o h l m d->Rm.Kept d->k ?dM b)
def Sj:gy ["text","loader"] ["text"] (eO SS):=(rfl,Z,Z,by decide+kernel,Z,by decide+kernel,by decide+kernel)
theorem afK[E:?da]:g.qV 15 "read_languages" ["text"] (ako):=wy E.afO Sj ?v nI λh5 h4 h0 k0 k1 t k3 h1 c4 y h=>by
 obtain⟨k2,rfl,h⟩:=h;show(_,(bx (eG (i:=1) Sj.nd rfl ?aJ (oM aof y (?q ?cJ))) (nh (dO (lH ?a9 E.pd GH y)) (nh (wk lZ (nY (jD (lH ?a9 E.pd LI y))) (bw (dO (lH ?a9 E.pd GH y)))) (bx (?cQ (PW.pt (qR (nY (jD (lH ?a9 E.pd DK y))) (vC (nY (jD (cQ akE y (?q (bL ?a9 rfl)))))))) (bw (Dl akb y (?q (bL ?a9 rfl))))) (bw (dM (bL ?a9 rfl))))))),?_)
 try dsimp only[eJ,jC,jF,jA]
 obtain⟨u,o,b,rfl,a6,B,b4,a9,g7⟩:=h;have h7:=fU;lk;show amA λl s c1 c5 f5 e9 a7 c7 d2 d3 h2 h3 d4 j2=>?_;obtain⟨v,a7⟩:=a7;have e7:lS u t c5 l v o 0 0 s [] [] [] (.ref c1):=by
  show((b4,f5,d3,(rfl,rfl),λa0 w=>(nomatch w),?_,?_,.nil,λn B=>(nomatch B),gI _),a7,c1,rfl,d4)
  .simp only[iu,bM,kK,or_false,not_false_eq_true,DT,kY];show bI d2
  .intro a0 w;simp only[bM,kK,or_false]at w;rcases w with c|c
   .rw[c];show e9
   .rw[c];show c7
 show(λp x=>vJ λj d m k a r=>lS u t x l v o j d s m k a r/\j<=b.length/\d≠0/\rD a/\Co b=g_ d a (b.drop j)/\p=[Y ?j1,?kf],?_,?_)
 .lk;show(u,t,l,v,o,0,0,s,[],[],[],_,b,rfl,e7,a6,B,gI _,λe=>?_,λa8 C e a5 d7 c6 H X T b3=>?_)
  .rcases Xv b with⟨_,c⟩|⟨C,c,_⟩
   .show a9 0 c
   .have e:oH 0 [] b=U:=e;rw[c]at e;cases e
  .rcases Xv b with⟨c,_⟩|⟨h9,c,b0,g9⟩
   .have e:oH 0 [] b=_:=e;rw[c]at e;cases e
   .have e:oH 0 [] b=_:=e;rw[c]at e;cases(e);have d5:0+oy ((b.drop 0).take C)=1:=by rw[LW,b0]
    rw[d5]at b3;show(0+C,1,H,X,[],T,b3,a5,by decide,λn B=>(nomatch B),by rw[Hj];show g9,rfl)
 intro p c6 ξ;let(g8,g3,d1,g5,nJ,f4,e5,f1,e8,d0,d6,0):=ξ;show(λp x=>mv λd m k a r=>lS u t x l v o b.length d s m k a r/\rD a/\Co b=g_ d a []/\p=[Y ?j1,?kf],?_,?_)
 .show(λc2 p x=>vJ λj d m k a r=>lS u t x l v o j d s m k a r/\j<=b.length/\d≠0/\rD a/\Co b=g_ d a (b.drop j)/\c2=b.length-j/\p=[Y ?j1,?kf],(_,g8,g3,d1,g5,nJ,f4,e5,f1,e8,d0,d6,rfl,rfl),?_);intro c2 p b1 ξ;let(j,d,m,k,a,r,f,f0,b5,a1,q,0,0):=ξ;have c0:=f.O;have f3:=f.c.old _ _ a6;lk;show(l,v,o,j,d,_,_,_,b,rfl,c0,f3,?_);cases A:decide (j=b.length)with
  |true=>
   have A:=lN A;lk;rw[A]at f;rw[A,GN]at q;show(d,m,k,a,r,f,a1,q,rfl)
  |false=>
   have A:=nN A;have b6:b.drop j≠[]:=λn=>by
    have:=fL R n;rw[lC]at this;simp at this
    lia
   lk;show(λp x=>vJ λz d m k a r=>lS u t x l v o z d s m k a r/\j<z/\z<=b.length/\d≠0/\rD a/\Co b=g_ d a (b.drop z)/\p=[Y ?j1,?kf],?_,?_)
   .intro p a2 ξ;let(z,g2,H,X,g4,T,e0,h6,e1,e2,e3,e4,0):=ξ;show(b.length-z,by lia,z,g2,H,X,g4,T,e0,e1,e2,e3,e4,rfl,rfl)
   lk;show(u,t,l,v,o,j,d,s,m,k,a,_,b,rfl,f,a6,B,f0,λe=>?_,λa8 C e a5 d7 a2 H X T P=>?_)
   .rcases o_ b5 a b6 with⟨_,c⟩|⟨a8,C,c,_⟩
    .show a9 d (q.trans c)
    .rw[c]at e;cases e
   .rcases o_ b5 a b6 with⟨c,_⟩|⟨i2,i1,c,b0⟩
    .rw[c]at e;cases e
    .rw[c]at e;cases(e);show(j+C,_,H,X,a8,T,P,by lia,a5,by lia,ais c a1,by rw[q,b0,uk],rfl)
 intro p b1 ξ;let(d,m,k,a,r,f,a1,q,0):=ξ;have c0:=f.O;rw[amy]at q;have c3:?bK=I->XR g.rk t (-6) [.int (d:Nat)] c4:=λc=>by
  rw[c]at q;show(a9 d q).1
 obtain⟨i3,i4,g6,j9⟩:=f.c.ne;lk;show f.rules ?_;cases b2:qG a with
 |false=>
  have a4:?bK=I:=by
   cases c:?bK with
   |false=>rfl
   |true=>
    have:=(Nh.mpr (Rb.mp c).2).2;rw[b2]at this;cases this
  lk;show(by change 1<=cw;decide,λa0 w=>(_,_,rfl,a0,rfl,bD,EV ((c3 a4).mono f.c.old) w))
 |true=>
  lk;show(b9 u t b1 (l::s::k),s,m,a,k,rfl,AF (b4.trans f.c.old),f.c.hd,AE ?c,f.c.la,g6,f.c.tags,f.c.gM,λa2 g1=>?_)
  have P:=f.mono g1;have h8:=P.O;cases a3:xx a with
  |false=>
   have a4:?bK=I:=by rw[a3];rfl
   lk;show(by change 1<=cw;decide,λa0 w=>(_,_,rfl,a0,rfl,bD,EV ((c3 a4).mono P.c.old) w))
  |true=>
   have f2:?bK=M:=by rw[a3,Nh.mp (a1,b2)];rfl
   rw[bz f2]at q;lk;show g7 a q l s m k a2 P.c (aqe f.c.gM f.c.tags f.c.tag a3)
def iG.load(h:iG i j f u k d a b)(c:ow i j m n e C l z)(a1:Rm.Kept z)(T:j f=Y (?iJ v (qu (.ref u) ?gM)))(p:ij f m s)(a0:s f=Y (?iJ v (qu ?aY ?gM))):∃B,iG B s f e k C l {b with langs:=z}/\tS i j (f::u::k::a) B s (f::e::k::l):=by
 let a:=h.nd;simp only[iu,bM,iw]at a;let((b,s,b),(b,b),b,b):=a;let(a,a,a2,a3):=c.ne;let(C,w,u,z):=h.ar;let X:∀y∈n::e::l,y≠f/\y≠k:=λy b=>by
  have:=c.fr y b;show((λa=>by rw[a,T]at this;cases this),(λa=>by rw[a,w]at this;cases this))
 let H:Le ?gT m:=AF (c.b0.trans c.old);let P:∀{y o},j y=Y o->i y=U->(∀r,o≠.tup r)->?gT y=U:=λ{y o} d t x=>by
  rcases q:?gT y with _|A
  .rfl
  have:=H y A q;rw[c.old _ _ d]at this;cases this;rcases CD y _ q with a|a|⟨r,a⟩
  .rw[t]at a;cases a
  .rw[d]at a;cases a
  show bK a (x r)
 let E:=P T (?dU f) (λr a=>by cases a)
 let B:=P w (?dU k) (λr a=>by cases a)
 let r:Le i ?gT:=xK λy b=>h.le.no (c.fr y b);let x:=X e ?c
 let t:∀y∈l,y≠f/\y≠k:=λy b=>X y ?iY
 show(?gT,(?_,(v,a0),?il x.1 c.hd,c.la.mono .refl λy b o d=>p y o (t y b).1 d,?_,a1,(C,?il (bI s) (c.old _ _ w),u.mono r,z),h.al,?_,?_),(?_,CD,?_))
 .intro y o d;show p y o (λa=>by rw[a,E]at d;cases d) (H y o d)
 .intro y b o A d;rcases q:m y with _|e
  .show c.la.has y b q
  have:=p y e (t y b).1 q;rw[d]at this;cases this;show c.un y b o A q
 .simp only[iu,bM,iw];show((bI x.1,s,λa=>(t f a).1 Z),(x.2,a2),λa=>(t k a).2 Z,a3)
 .intro y b;simp only[bM]at b;rcases b with a|a|a|a
  .rw[a];show E
  .rw[a];show AE ?c
  .rw[a];show B
  show AE ?aH
 .intro y o b d;simp only[bM,iw]at b;show p y o b.1 (c.old _ _ d)
 intro y b;simp only[bM]at b;rcases b with a|a|a|a
 .show .inl ?aH
 .show .inr (c.fr y ?aH)
 .show .inl ?aH
 show .inr (c.fr y ?aH)
example:fP awG ajj T.ajx WN 16 "call_load" ((mI (rT .load))) ["kit","numbers","rows"] [] (bx (?E (?W afK hr)) (bw (dM (?aA tq (?q (?cp HE T.7 (?q ?l))))))):=by
 let(t,b,k,c,a,q,p,a,a,a,0,n,a,d,(0,C,0,a,0),a):=h;let e:=fU;let(e,e,0,o,e,m):=d.get;let(d,e,j):=m 0 _ Z;let a:iY t H b (b::k::c::q) p (match Co C with
  |.error y=>(p,Cp (-6) [y])
  |.ok l=>({p with langs:=l},ji (l.length:Nat))) _ _:=a
 let(m,w):=n.hk;lk;show ?P 0 o e;lk;show(t,d,C,Z,j,by lia,n.le,λy e=>?_,λd e E d p y j o t=>?_)
 .rw[e]at a;show(a.Kb Z Ref.wl,a.nn)
 rw[e]at a;let q:=o.old _ _ w;lk;let x:D j b ?dJ b=Y (?iJ m (qu ?J ?aC)):=bD;let u:ij b j (D j b ?dJ):=ij.upd;generalize D j b ?dJ=b at x u;let(P,z,q):=n.load o t w u x;show(d,_,Z,.inl z.hd,?_);show(_,Z,_,Z,λb X B v=>a.ok P X d c p y b (z.mono B) (λE b a e=>B _ _ (q.fr E b a e),q.gr,q.mo) ?_);rw[Ey o.la.length]at v;show v
end Sm
namespace L2
section
variable{X:Cx}
def asX(c:eP)(i:dZ)(a:cp)(r:Str->?bH)(q:dg)(k:eV)(l:XK)(t:TE)(s:TA):TE:=λj m p=>t j m λv n=>mv λ(b:S) (d:oG) (f:?d4) (h:Sp) (e:Nat)=>v=?av/\j5 a ?av=M/\lR c i a r q (fz c i) e b d f h/\ii e k/\?ej a d f/\s j n λu o=>h u o p l
def aox{P:eP}{w:dZ}{K:cp}{mg:Str->?bH}{A:eV}(v:X.1=P)(f:X.w=w)(u:X.K=K)(E:X.mg=mg)(d:X.base=cu)(t:X.A=A){pos:Pos}(B:?am c l)(x:PA X (b::a) k)(a0:?d2 X e)(z:?arf (?V (?as c (b::a) pos)=(do vn pos (<-?V c) [] (?g4 (?G (b::a))) (?bG pos))))(y:?arf (?G (b::a)=(I,?V b)::?G a))(H:?arf ((?g4 (?G a)).any (·.1)=I)):?am (?as c (b::a) pos) (asX P w K mg cu A e l k):=by subst v f u E d t;intro j a m o b f h;show AN (df (B j a m o _ f h) λi e b=>?_) z;let(a,p,q,c,s,a,a,a,a,r,C,n,T,d,a):=b;subst r;obtain rfl:i=dR s:=c;show ?gu f.ok.mod.1 C (df (x pos j e m p _ q a) λa a a=>?_) y H;let(b,b,i,c,b):=a;show(i.iH,?_);show Fx (je:=[]) (ds:=[]) n T d .nil a0 i c (by rw[mD];show b)
def v8{K:cp}{pos:Pos}(d:X.K=K)(f:?am a c)(e:yF a b X.env (?V a)=?V a):?am (.Attribute a b pos) (Q4 K c b):=by rw[<-d];show aqz f e
def atv{n m:Nat}{T pos:Pos}(f:bN λk l=>sE i r b h j n k l o p/\?ej b l o/\Mk b e k/\h d=Y ?aY)(v:X.1=i)(P:X.w=r)(u:X.K=b)(C:X.mg=h)(x:X.base=j)(H:nZ m X.A)(w:PA X (c::a) q)(B:?ade (n+1<=m))(A:?arf (?jr d))(y:?ade ((d==?F)=I))(z:?arf (?G (c::a)=(I,?V c)::?G a))(E:?arf ((?g4 (?G a)).any (·.1)=I)):?am (?as (.Name d T) (c::a) pos) (Di e p [] E0 q):=by subst v P u C x;let(_,_,f,s,t,G):=f;show aoB t f (H.mono B) A G s w y z E
end
end L2
namespace Sm
theorem Ref.cl[a:?da](h:Ref b):oN g.K b/\?ag b "refusal"/\?ag b "row":=by
 rcases h with rfl|rfl|rfl|rfl|rfl|rfl|rfl|rfl
 .show(a.Wh,a.Rk,a.SJ)
 .show(a.Wg,a.Rj,a.SH)
 .show(a.Xi,a.Rs,a.Tl)
 .show(a.Wf,a.Ri,a.SE)
 .show(a.B_,a.SG,a.VA)
 .show(a.MW,a.Lf,a.LU)
 .show(a.C3,a.SK,a.VB)
 show(a.O1,a.TY,a.XG)
def Fy(h:cJ d a e k)(f:ij j a c)(i:a j=Y (.ins l m n)):cJ d c e k:=by
 rcases h with(h|⟨o,h⟩)|h
 .show .inl (.inl (f _ _ (λb=>by rw[b,i]at h;cases h) h))
 .show .inl (.inr (o,f _ _ (λb=>by rw[b,i]at h;cases h) h))
 show .inr h
abbrev wJ(b a:S)(c:Nat):HO:=?fD g.pz (Po ?s (.int (c:Nat)))
inductive aqZ(h:V)(a:L)(e:VK)(j:XK):Prop
 |i (d f b:S) (c:Nat) (l:?bD) (_:h=?J) (_:a d=Y (wJ f b c)) (_:?jH a b) (_:e (.bl (decide (c<l.length))) a)
def asO:Sp:=ic (aqZ)
example:oj awo Me T.Me Ua 1 g.pz "is_left" ((asO)) ["self"] [] (bw (dM (?iq yc (?y (?q ?l))))):=by
 let(k,i,e,a,l,0,j,c,d):=h;lk;show(_,_,Z,?js,?_);lk;rw[ft];let b:decide ((?dn:Int)<((l.length:Nat):Int))=decide (a<R l):=by
  rw[decide_eq_decide]
  lia
 dsimp only;rw[b];show d
inductive apd(m:V)(b:L)(k:VK)(n:XK):Prop
 |i (a h d:S) (e:Nat) (l:?bD) (j:Int) (_:m=?s) (_:b a=Y (wJ h d e)) (_:?jH b d) (_:l[e]?=Y j) (_:∀c,ij a b c->c a=Y (wJ h d (e+1))->(∀f,f≠a->c f=b f)->k (.int j) c)
def arb:Sp:=ic (apd)
example:oj aez DJ T.DJ RG 1 g.pz "take_number" ((arb)) ["self"] ["number"] (bx (?n 1 aez.nd (?b ?l ?l)) (?cz (EF ?cJ bP Jq))):=by
 let(o,j,e,n,l,m,0,k,b,a,d):=h;lk;show pV b (tF (by rw[iC,a];rfl)) ?_
 lk;show d _ ij.upd bD (λp c=>cY c)
inductive ape(m:V)(e:L)(k:VK)(n:XK):Prop
 |i (d j f:S) (a:Nat) (l:?bD) (c:Nat) (_:m=?J) (_:e d=Y (wJ j f a)) (_:?jH e f) (_:l[a]?=Y ((c:Nat):Int)) (_:a+1+c<=l.length) (_:∀h b,ij d e b->b d=Y (wJ j f (a+1+c))->b h=Y (.tup (((l.drop (a+1)).take c).map V.int))->k (.ref h) b)
def arc:Sp:=ic (ape)
example:oj SW LS T.LS To 2 g.pz "take_row" ((arc)) ["self"] ["length","row"] (bx (?n 1 SW.nd (?fI T.AK DJ hr)) (bx (?n 2 SW.nd (?cu (?q (xD CH ?l (tJ ?l) (tJ (jW vy ?l ?a9)))))) (?jn (EF ?cJ ?a9 Jq)))):=by
 let(c,x,w,a,l,b,0,q,o,d,P,z):=h;lk;show(c,x,w,a,l,_,Z,q,o,d,λk m t e=>?_);let E:=Fy o m q;lk;intro v e;dsimp only at e ⊢;let n:((a+1:Nat):Int)+((b:Nat):Int)=((a+1+b:Nat):Int):=by lia
 rw[n,Oa ?d,show a+1+b-?aN=b by lia,<-Mh,<-Uo]
 let y:D k v (.lst (((l.drop ?aN).take b).map V.int)) c=_:=gc e t;show(_,_,Z,?fV,λr j=>?_);let(p,o):=wB j;let X:D (D k v (.lst (((l.drop ?aN).take b).map V.int))) r (.tup (((l.drop ?aN).take b).map V.int)) c=_:=gc j y;lk;dsimp only;rw[n];let B:r≠c:=λC=>by rw[C,t]at p;cases p
 show z r _ (λa a u d=>bO u (gc j (gc e (m _ _ u d)))) bD (bO B bD)
def amt[j:?da]:bN λm n=>?jG 1 m n ["self","number","row","text"] (NM)/\?ej g.K n ["self","number","row","text"]/\Mk g.K g.Answer m/\g.mg "Answer"=Y (.ref g.Answer):=by
 let(m,n,p,q):=j.ZY;show(m,n,p.Qo Uj Dk λC z H P f T A E h=>?_,p.g0 ?cj,q,j.ZQ);let(B,d,i,o,0,a,c,0,v,h):=h;show ?aS
 let r:∀b e,b≠a->f b=Y e->f b=Y e:=λ_ _ _ l=>l;show(_,Z,_,Z,a,_,_,_,Z,v,j.Cr,j.Tk,(by change 0<1000;decide),?_)
 let w:D f a (?aB c [?fr]) a=Y (?aB c [?fr]):=bD;let s:∀b e,b≠a->f b=Y e->D f a (?aB c [?fr]) b=Y e:=λb e k l=>(cY k).trans (r b e k l);show(_,Z,_,Z,a,_,_,_,Z,w,j.Cr,j.Vz,(by change 1<1000;decide),?_)
 let x:?aF a=Y (?aB c [?fr,("row",i)]):=bD;let t:∀b e,b≠a->f b=Y e->?aF b=Y e:=λb e k l=>(cY k).trans (s b e k l);show(_,Z,_,Z,a,_,_,_,Z,x,j.Cr,j.UB,(by change 2<1000;decide),?_)
 let y:?jj a=Y (?aB c [?fr,("row",i),("text",o)]):=bD;let u:∀b e,b≠a->f b=Y e->?jj b=Y e:=λb e k l=>(cY k).trans (t b e k l);show h ?jj u y
theorem bu{d c:Int}{l e:Nat}:iV ((d,c,l,e)::b) (a::f)=(decide (l<=R a)&&decide (R a<=e)&&a.all (BO d c)&&iV b f):=rfl
theorem bv:iV [] []=M:=rfl
theorem bn{c b d:Int}:iW ((c,b)::a) (d::e)=(BO c b d&&iW a e):=rfl
theorem bq:iW [] []=M:=rfl
def lF{a:?bD}(h:a.all (BO 0 255)=M):a.map V.int=bT (ki a):=by
 rw[kF];unfold ki;rw[mN];show yr λb c=>?_;have:=nO.mp h b c;unfold BO at this;simp only[ik,ja]at this;congr 1;rw[DI]
 lia
def aoO{a:?bD}(h:a.all (BO 0 4294967295)=M):a.map V.int=(DQ a).map nV:=by
 unfold DQ;rw[mN];show yr λb c=>?_;have:=nO.mp h b c;unfold BO at this;simp only[ik,ja]at this;change V.int b=V.int ((b.toNat:Nat):Int);congr 1
 lia
theorem ao(a:?bD):(ki a).length=R a:=by unfold ki;rw[ft]
theorem aot(a:?bD):(DQ a).length=R a:=by unfold DQ;rw[ft]
inductive mH(d:Int)(k f:Nat):Prop
 |i (h:?jY) (n c:S) (e:oG) (m:?bD->?jO->qf->Prop) (j:Nat) (_:Ql g.P g.w g.K g.IE h) (_:eQ h (gJ d)=Y ?jN) (_:(∀p,cZ g.K p n [?aC,.int (k:Nat),.int (f:Nat)])) (_:j<=16) (_:?c0 j c e ["kit","numbers","rows"] (mI m)) (_:?ej g.K e ["kit","numbers","rows"]) (_:j5 g.K ?aC=M) (_:∀b a,b.length=k->a.length=f->Hd GZ ((d::b)::a)=M->∃o,RW (wC ((d::b)::a))=Y o/\m b (a.map λl=>l.map V.int) o)
def lsN{e:Nat}{c:List f->Prop}(h:∀a l,R l=e->c (a::l)):∀l:List f,R l=e+1->c l:=by
 intro b d;rcases b with _|⟨a,b⟩
 .cases d
 show h a b (ahV d)
theorem nJ{a:List c->Prop}(h:a []):∀l:List c,R l=0->a l:=by
 intro b d;rcases b with _|⟨e,b⟩
 .show h
 cases d
def qy{b:List c->Prop}(h:∀a,b [a]):∀l:List c,R l=1->b l:=lsN λa=>nJ (h a)
def zY{b:List c->Prop}(h:∀a d,b [a,d]):∀l:List c,R l=2->b l:=lsN λa=>qy (h a)
def ls3{b:List c->Prop}(h:∀a d e,b [a,d,e]):∀l:List c,R l=3->b l:=lsN λa=>zY (h a)
def mT{C:Int->Nat->Nat->Prop}{c e:Int}{f i b a:Nat}(k:C e f i)(l:j=Y (axa b a)->C c b a)(h:(if c=e then Y (axa f i)else j)=Y (axa b a)):C c b a:=by
 by_cases d:c=e
 .lia
 rw[bp d]at h;show l h
def mY[p:?da]{d:Int}{i e f:Nat}(A:Nat)(r:ZI[A]?=Y (d,c,(i:Int),(e:Int)))(q:?jF f c (mI j))(y:f<=16)(z:∀b:?bD,R b=i->∀a:List ?bD,R a=e->Hd GZ ((d::b)::a)=M->∃c,RW (wC ((d::b)::a))=Y c/\j b (a.map λl=>l.map V.int) c):mH d i e:=by let(B,x,h):=p.aqb;let(C,u,E,H,P):=h.get r;let(T,v,n,m,k,o):=q;rw[P]at k;cases k;show(B,C,u,v,j,f,x,E,H,y,n,m,o,λb a s t w=>z b s a t w)
def Fs{a b:Int}(h:BO 0 b a=M):[a]=[((a.toNat:Nat):Int)]:=by unfold BO at h;simp only[ik,ja]at h;rw[Int.toNat_of_nonneg h.1]
def ap9{a b c:Int}(h:BO 0 c a=M):[a,b]=[((a.toNat:Nat):Int),b]:=by have:=Fs h;injection this with this;rw[<-this]
def lG{b:?bD}{a:Nat}(h:R b<=a):(ki b).length<=a:=by rw[ao];show h
def aqp{b:?bD}{a:Nat}(h:R b<=a):(DQ b).length<=a:=by rw[aot];lia
def ajd[h:?da]:mH 1 0 3:=?dv 0 agf (nJ (ls3 λr0 b c=>λa=>by
 let a:(iW [] []&&iV [?al,?al,?al] [r0,b,c])=M:=a;simp only[bn,bq,bu,bv,ik,ja,mE,kY,gI,mj]at a;let((i,d),(j,e),(k,f)):=a;show ?cZ))
def anE[e:?da]:mH 2 0 2:=?dv 1 ah0 (nJ (zY λr0 b=>λa=>by
 let a:(iW [] []&&iV [?al,(0,4294967295,0,300)] [r0,b])=M:=a;simp only[bn,bq,bu,bv,ik,ja,mE,kY,gI,mj]at a;let((f,c),(h,d)):=a;show(_,Z,Z,ki r0,DQ b,by change[r0.map V.int,b.map V.int]=_;rw[lF c,aoO d],lG ?d,aqp ?d,Z)))
def arG[h:?da]:mH 3 0 3:=?dv 2 akC (nJ (ls3 λr0 b c=>λa=>by
 let a:(iW [] []&&iV [?al,?al,(0,255,0,1100)] [r0,b,c])=M:=a;simp only[bn,bq,bu,bv,ik,ja,mE,kY,gI,mj]at a;let((i,d),(j,e),(k,f)):=a;show ?cZ))
def apF[e:?da]:mH 4 0 2:=?dv 3 ajg (nJ (zY λr0 b=>λa=>by
 let a:?cL=M:=a;simp only[bn,bq,bu,bv,ik,ja,mE,kY,gI,mj]at a;let((f,c),(h,d)):=a;show ?T))
def anC[c:?da]:mH 5 0 1:=?dv 4 ahY (nJ (qy λr0=>λa=>by
 let a:(iW [] []&&iV [(0,255,0,1100)] [r0])=M:=a;simp only[bn,bq,bu,bv,ik,ja,mE,kY,gI,mj]at a;let(d,b):=a;show ?aj))
def al0[d:?da]:mH 6 2 0:=?dv 5 ahj (zY λb x1=>(nJ λa=>by
 let a:(iW [(0,9223372036854775807),(-36893488147419103232,36893488147419103231)] [b,x1]&&iV [] [])=M:=a;simp only[bn,bq,bu,bv,ik,ja,mE,kY,gI,mj]at a;let(c,e):=a;show(_,Z,b.toNat,x1,ap9 c,Z,Z)))
def apN[e:?da]:mH 7 1 1:=?dv 6 ajo (qy λb=>(qy λr0=>λa=>by
 let a:?bX=M:=a;simp only[bn,bq,bu,bv,ik,ja,mE,kY,gI,mj]at a;let(c,f,d):=a;show ?aV))
def anB[b:?da]:mH 8 0 0:=?dv 7 ahX (nJ (nJ λa=>by
 show(_,Z,Z,Z,Z)))
def apL[e:?da]:mH 9 0 2:=?dv 8 ajm (nJ (zY λr0 b=>λa=>by
 let a:?cL=M:=a;simp only[bn,bq,bu,bv,ik,ja,mE,kY,gI,mj]at a;let((f,c),(h,d)):=a;show ?T))
def anG[e:?da]:mH 10 0 2:=?dv 9 ah2 (nJ (zY λr0 b=>λa=>by
 let a:?cL=M:=a;simp only[bn,bq,bu,bv,ik,ja,mE,kY,gI,mj]at a;let((f,c),(h,d)):=a;show ?T))
def anF[e:?da]:mH 11 0 2:=?dv 10 ah1 (nJ (zY λr0 b=>λa=>by
 let a:?cL=M:=a;simp only[bn,bq,bu,bv,ik,ja,mE,kY,gI,mj]at a;let((f,c),(h,d)):=a;show ?T))
def apM[e:?da]:mH 12 0 2:=?dv 11 ajn (nJ (zY λr0 b=>λa=>by
 let a:?cL=M:=a;simp only[bn,bq,bu,bv,ik,ja,mE,kY,gI,mj]at a;let((f,c),(h,d)):=a;show ?T))
def ajc[d:?da]:mH 13 1 1:=?dv 12 age (qy λb=>(qy λr0=>λa=>by
 let a:(iW [(-36893488147419103232,36893488147419103231)] [b]&&iV [?al] [r0])=M:=a;simp only[bn,bq,bu,bv,ik,ja,mE,kY,gI,mj]at a;let(f,e,c):=a;show(_,Z,b,ki r0,Z,by change[r0.map V.int]=_;rw[lF c],lG ?d,Z)))
def apG[c:?da]:mH 14 0 1:=?dv 13 ajh (nJ (qy λr0=>λa=>by
 let a:?fs=M:=a;simp only[bn,bq,bu,bv,ik,ja,mE,kY,gI,mj]at a;let(d,b):=a;show ?aj))
def arD[e:?da]:mH 15 1 1:=?dv 14 akA (qy λb=>(qy λr0=>λa=>by
 let a:?bX=M:=a;simp only[bn,bq,bu,bv,ik,ja,mE,kY,gI,mj]at a;let(c,f,d):=a;show ?aV))
def anD[c:?da]:mH 16 0 1:=?dv 15 ahZ (nJ (qy λr0=>λa=>by
 let a:?fs=M:=a;simp only[bn,bq,bu,bv,ik,ja,mE,kY,gI,mj]at a;let(d,b):=a;show ?aj))
def apH[e:?da]:mH 17 1 1:=?dv 16 aji (qy λb=>(qy λr0=>λa=>by
 let a:?bX=M:=a;simp only[bn,bq,bu,bv,ik,ja,mE,kY,gI,mj]at a;let(c,f,d):=a;show ?aV))
def apJ[c:?da]:mH 18 0 1:=?dv 17 ajk (nJ (qy λr0=>λa=>by
 let a:?fs=M:=a;simp only[bn,bq,bu,bv,ik,ja,mE,kY,gI,mj]at a;let(d,b):=a;show ?aj))
def arF[e:?da]:mH 19 1 1:=?dv 18 akB (qy λb=>(qy λr0=>λa=>by
 let a:?bX=M:=a;simp only[bn,bq,bu,bv,ik,ja,mE,kY,gI,mj]at a;let(c,f,d):=a;show ?aV))
def anA[c:?da]:mH 20 0 1:=?dv 19 ahW (nJ (qy λr0=>λa=>by
 let a:?fs=M:=a;simp only[bn,bq,bu,bv,ik,ja,mE,kY,gI,mj]at a;let(d,b):=a;show ?aj))
def apK[b:?da]:mH 21 0 0:=?dv 20 ajl (nJ (nJ λa=>by
 show(_,Z,Z,Z,Z)))
def apI[c:?da]:mH 22 0 1:=?dv 21 ajj (nJ (qy λr0=>λa=>by
 let a:(iW [] []&&iV [(0,255,0,14000)] [r0])=M:=a;simp only[bn,bq,bu,bv,ik,ja,mE,kY,gI,mj]at a;let(d,b):=a;show ?aj))
def apP[d:?da]{c:Int}{b a:Nat}(h:FC c=Y (b,a)):mH c b a:=by revert h;show mT ajd<|mT anE<|mT arG<|mT apF<|mT anC<|mT al0<|mT apN<|mT anB<|mT apL<|mT anG<|mT anF<|mT apM<|mT ajc<|mT apG<|mT arD<|mT anD<|mT apH<|mT apJ<|mT arF<|mT anA<|mT apK<|mT apI<|(λh=>by cases h)
end Sm
namespace Rm
def posAt(b:Nat)(d:List ?bD)(a:Nat):Nat:=b+((d.take a).map λc=>R c+1).sum
def alk{c:Nat}{a:Nat}(h:b[a]?=Y d):posAt c b ?aN=posAt c b a+1+R d:=by
 unfold posAt;rw[GY,h,iD,List.sum_append];simp
 lia
def G7{l:?bD}:∀{k a:Nat} {d:List ?bD} {n:?bD},Hu k (l.drop a)=Y (d,n)->a<=R l->R d=k/\posAt a d k<=R l/\n=l.drop (posAt a d k)/\∀e c,d[e]?=Y c->l[posAt a d e]?=Y (c.length:Int)/\posAt a d e+1+R c<=R l/\(l.drop (posAt a d e+1)).take (R c)=c:=by
 intro T
 induction T with
 |zero=>
  intro a d n h w;cases h;show(rfl,?_,?_,λe c f=>?_)
  .unfold posAt;simpa using w
  .unfold posAt;simp
  simp at f
 |succ k ih=>
  intro a d n h w;unfold Hu at h;rcases b:akw (l.drop a)with _|d
  .rw[b]at h;cases h
  let(i,s):=d;rw[b]at h;simp only at h;rcases f:l.drop a with _|⟨m,c⟩
  .rw[f]at b;cases b
  rw[f]at b;unfold akw at b;simp only at b;split at b
  .rename_i d;let d:a<R l:=by
    have:=fL R f;rw[lC]at this;simp at this
    lia
   let z:l[a]?=Y m:=by
    have:=fL (·[0]?) f;simpa using this
   let p:c=l.drop ?aN:=by
    have:=fL (List.drop 1) f;rw[uk]at this;simpa using this.symm
   let x:i=c.take m.toNat:=by injection b with b;injection b with u v;show u.symm
   let B:s=c.drop m.toNat:=by injection b with b;injection b with u v;show v.symm
   let y:R i=m.toNat:=by rw[x,jR];lia
   let d:R c=R l-?aN:=by rw[p,lC]
   let A:s=l.drop (a+1+R i):=by rw[B,p,uk,y]
   rcases j:Hu k s with _|c
   .rw[j]at h;cases h
   let(t,d):=c;rw[j]at h;simp only[BG,Hc]at h;let(0,0):=h;rw[A]at j;let(C,E,H,P):=ih j ?d
   let r:∀q,posAt a (i::t) (q+1)=posAt (a+1+R i) t q:=λq=>by
    unfold posAt;simp
    lia
   show(by simp[C],by rw[r];show E,by rw[r];show H,λe c o=>?_)
   rcases e with _|e
   .simp at o;subst o;let X:posAt a (i::t) 0=a:=by unfold posAt;simp
    rw[X];show(?_,by lia,by rw[<-p,x,jR];congr 1;lia)
    rw[z,y];congr 1
    lia
   rw[r];show P e c (by simpa using o)
  cases b
def akh{c:Int}{b a:Nat}(h:FC c=Y (b,a)):b<=2/\a<=3:=by
 revert h
 repeat refine mT (C:=λ_ b a=>b<=2/\a<=3) ?i ?_
 lia
def akF{l:?bD}{a:Nat}(h:BX FC (l.drop a)=Y (n,p))(t:a<=R l):mr λ(c:Int) (b d:Nat) (i:List ?bD)=>l[a]?=Y c/\FC c=Y (b,d)/\a+1+b<=R l/\n=(c::(l.drop ?aN).take b)::i/\Hu d (l.drop (a+1+b))=Y (i,p):=by
 rcases e:l.drop a with _|⟨c,m⟩
 .rw[e]at h;cases h
 rw[e]at h;let o:l[a]?=Y c:=by
  have:=fL (·[0]?) e;simpa using this
 let j:m=l.drop ?aN:=by
  have:=fL (List.drop 1) e;simpa using this.symm
 let u:=(ig.mp o).1;let v:R m=R l-?aN:=by rw[j,lC]
 unfold BX at h;simp only at h;rcases k:FC c with _|q
 .rw[k]at h;cases h
 let(b,d):=q;rw[k]at h;simp only at h;split at h
 .cases h
 rcases f:Hu d (m.drop b)with _|r
 .rw[f]at h;cases h
 let(i,w):=r;rw[f]at h;let(0,0):=h;show(c,b,d,i,o,k,by lia,by rw[j],?_)
 rw[j,uk]at f;show f
end Rm
namespace Sm
theorem iG.but{j f k:L}{o m l n:S}{r i:?aD}{u:nW}(h:iG j f o m l r i u)(d:ij n f k)(s:n∉o::m::l::i)(C:j n=U):iG j k o m l r i u:=by
 simp only[bM,iw]at s;let(y,z,A,B):=s;let t:∀a∈i,∀b,f a=Y b->k a=Y b:=λa e b c=>d a b (λq=>B (q▸e)) c;let(v,E):=h.hk;let(H,w,x):=h.ar;show(λa b c=>d a b (λq=>by rw[q,C]at c;cases c) (h.le _ _ c),(v,d _ _ (bI y) E),d _ _ (bI z) h.hd,h.la.mono .refl t,λa e b P c=>?_,h.ke,(H,d _ _ (bI A) w,x),h.al,h.nd,h.no)
 rcases p:f a with _|T
 .show h.la.has a e p
 have:=t a e T p;rw[c]at this;cases this;show h.un a e b P p
structure O7(d:S)(h c:L)(f:List S)(e i:L)(j:List S):Prop where
 fr:∀a b,a≠d->a∉f->c a=Y b->i a=Y b
 gr:∀a b,a≠d->e a=Y b->h a=Y b\/c a=U\/∃k,b=.tup k
 mo:∀a∈j,a∈f\/c a=U
 bf:e d=U
inductive alv(A:V)(z:V)(d:L)(w:VK)(B:XK):Prop
 |i (h:L) (b dl m:S) (x n:?aD) (st:nW) (a s k:S) (e:Nat) (l:?bD) (j:List ?bD) (u:?bD) (_:A=?av) (_:iG h d b dl m x n st) (_:z=?s) (_:d a=Y (wJ s k e)) (_:?jH d k) (_:a∉b::dl::m::n) (_:h a=U) (_:e<=l.length) (_:BX FC (l.drop e)=Y (j,u)) (_:Hd GZ j=M) (_:∀o,RW (wC j)=Y o->∀f p c r q y t v,l.drop f=u->f<=l.length->e<f->iG p c b r q y t (rA st o).1->O7 a h d (b::dl::m::n) p c (b::r::q::t)->c a=Y (wJ s k f)->CW c v (rA st o).2->w v c)
def am3:Sp:=kq (alv)
def Aj:gy ["kit","feed","call","numbers","count","rows","refused"] ["kit","feed"] (eO DX):=(rfl,Z,Z,by decide+kernel,Z,by decide+kernel,by decide+kernel)
def ahi[m:?da]:g.qV 17 "answer_next" ["kit","feed"] (am3):=wy m.ahm Aj ?Z tV λc b A a d b2 a a a z h=>by
 let(e,e,0,h):=h;show(_,(bx (?n 2 Aj.nd (F7 (uH (v:=.ref g.IE) Z m.apZ Z) (lH ?a9 m.AK DJ z) (λ_ _=>rfl))) (bx (HV (i:=3) (ip:=[("count",4)]) rO Z Z Z Aj.nd Z Z (Jd Z Z Z Z) (Zj Z m.IR (?q (?b ?dr bP))) ?e4 (λ_ _ _ _ _=>(?R 4 Aj.nd)) (λ_ _ _ _ _=>sr) (λ_ _ _ _ _=>(lH ?a9 m.AK DJ z (O:=JI)))) (bx (HV (i:=5) (ip:=[("count",4)]) rO Z Z Z Aj.nd Z Z (Jd Z Z Z Z) (Zj Z m.IR (?q (?b ?dr bP))) ?e4 (λ_ _ _ _ _=>(?R 4 Aj.nd)) (λ_ _ _ _ _=>sr) (λ_ _ _ _ _=>(lH ?a9 m.AK LS z (O:=JI)))) (bw (asv (i:=6) Z (λe e a O=>bw (dM (aox (P:=g.P) (w:=g.w) (K:=g.K) (mg:=g.mg) (cu:=g.base) (A:=A.deeper (fG "answer_next" (eO DX) d.1.1.size c b)) Z Z Z Z Z Z (?b ?dr bP) (F ?cJ (F ?gH (?q (N 5)))) O))) (λb=>bw (dM (atv amt Z Z Z Z Z (z.toH _) (F (v8 (K:=g.K) Z (N 6) Z) (F (v8 (K:=g.K) Z (N 6) Z) (?q ?fc)))))) Z m.vk Aj.nd Z Z))))),?_)
 try dsimp only[eJ,jC,jF,jA]
 let(a0,a8,a2,a1,b3,a3,e1,c,E,C,e,l,a,e2,0,d3,0,k,j,b0,c1,n,f,o,c3):=h;let a:=fU;let(m,u,c0,p,d,a,q,0,q):=akF f n;let(c4,c5,c6,e0):=G7 q ?d
 let(t,n,b5,d2,f,d7,q,s,a7,d6,d0,c7,d1,f):=apP a;let(b1,b6,d4):=f _ p (by rw[jR,lC];lia) c4 o
 lk;show(c,E,C,e,l,m,Z,k,j,d,λf b4 d o=>?_);show(_,t,gJ m,?jN,Z,Z,q,s,?_);let y:=Fy j b4 k;lk;let(j,j):=akh a;show uc (a7 f) (v:=.int (u:Nat)) Z ?_;show(_,Z,by lia,by lia,λX H=>?_)
 rw[uh];let a9:X≠c:=λa=>by rw[a,d]at H;cases H
 show t8 (λi H'=>ij c f H'/\H' c=Y (wJ E C (e+1+i))/\H' X=Y (.lst (((l.drop (e+1)).take i).map V.int))) (λj o _ b=>gc H b,gc H d,bD) ?_ ?_
 .intro i t a4 ξ;let(B,m,a5):=ξ;let x:=Fy y B d;show(rfl,?_);unfold vI;dsimp only;rw[?eZ];lk;let q:e+1+i<R l:=by lia
  show(c,E,C,e+1+i,l,l[e+1+i],Z,m,x,gv q,λs n k f=>?_);show(_,?cA a9 a5,?_,?_,?_,?_)
  .rw[ft,jR];lia
  .show λj o f b=>bO (λa=>by rw[a,H]at b;cases b) (?cA f (B _ _ f b))
  .show bO (bI a9) k
  rw[bD,GY,vP,gv q,iD];rfl
 intro t ξ;let(B,m,a5):=ξ;let x:=Fy y B d;let a6:?jI 0=e+1+u:=by unfold Rm.posAt;simp
 lk;show uc (a7 t) (v:=.int (c0:Nat)) Z ?_;show(_,Z,by lia,by lia,λH T=>?_)
 rw[uh];let c2:H≠c:=λa=>by rw[a,m]at T;cases T
 show t8 (λi H'=>ij c t H'/\H' c=Y (wJ E C (?jI i))/\∃y:List S,H' H=Y (.lst (y.map V.ref))/\jb (λd (r:?au)=>H' d=Y (.tup r)) y ((p.take i).map λr=>r.map V.int)) (λj o _ b=>gc T b,by rw[a6];show gc T m,[],bD,.nil) ?_ ?_
 .intro i s a4 ξ;let(n,k,y,a6,t):=ξ;let d5:=Fy x n m;show(rfl,?_);unfold vI;dsimp only;rw[?eZ];lk;let q:i<R p:=by lia
  let a4:=gv q;let(m,q,e3):=e0 i _ a4;show(c,E,C,?jI i,l,p[i].length,Z,k,d5,m,q,λd m x C q=>?_);rw[e3]at q;let E:=x _ _ c2 a6;let d5:=t.length;rw[ft,jR]at d5;show(_,E,?_,?_,?_,y++[d],?_,?_)
  .rw[ft];lia
  .show λj o f b=>bO (λa=>by rw[a,T]at b;cases b) (x _ _ f (?cA f b))
  .rw[alk a4];show bO (bI c2) C
  .rw[bD,iD];rfl
  rw[GY,a4,iD];show vZ (jb.lu t λj r b=>?_) ?_
  .let C:m j=Y (.tup r):=x _ _ (λa=>by rw[a,k]at b;cases b) b
   show bO (λa=>by rw[a,E]at C;cases C) C
  show bO (λa=>by rw[a,E]at q;cases q) q
 intro s ξ;let(n,k,y,a6,t):=ξ;rw[<-c4,nP]at t;let x:ij c b2 s:=b4.trans (B.trans n);let B:=d3.but x b0 c1;let C:=?cA a9 a5;let rest:∀{q H':L} {n:?aD},Le q H'->tS a0 s (a8::a2::a1::a3) q H' n->O7 c a0 b2 (a8::a2::a1::a3) q H' n:=λ{q H' n} E w=>by
  show(λj o f n b=>w.fr j o n (x _ _ f b),λj o f b=>?_,λj f=>?_,?_)
  .rcases w.gr j o b with a|a|a
   .show ?ai
   .show .inr (.inl (x.no a f))
   show .inr ?gO
  .rcases w.mo j f with a|a
   .show ?ai
   show .inr (x.no a λx=>by rw[x,k]at a;cases a)
  rcases x:q c with _|o
  .rfl
  let b:=E _ _ x;rw[w.fr c _ b0 k]at b;cases b;rcases w.gr c _ x with a|a|⟨e2,a⟩
  .rw[c1]at a;cases a
  .rw[k]at a;cases a
  cases a
 let f:e<?jI c0:=by
  unfold Rm.posAt
  lia
 lk;show uc (a7 s) (v:=.ref b5) Z ?_;show(b5,d2,_,_,d7,Z,d1,d0,z.mono d6,c7,?_);lk;show(_,_,_,Z,a0,a8,a2,a1,b3,a3,e1,_,_,b1,Z,B,(X,Z,C),(H,y,Z,a6,t),d4,λq H' p o n t v a j X=>?_,λb u z e=>?_,λH'=>?aG)
 .show c3 b1 b6 _ q H' p o n t v c6.symm c5 f a (rest a.le j) (j.fr c _ b0 k) X
 intro m t y p j o;show .inr (z,t,Z,Z,e.ex,λd q n X=>?_);let(a,C,E):=e.cl;let c:D m d (xc d z t) t=_:=gc X j;let e:(q.set 6 (Y (V.ref d)))[6]?=Y (Y (V.ref d)):=DC (by rw[n];decide)
 let q:Le s (D m d (xc d z t)):=p.trans (Le.new X);show(?J,e,d,z,t,_,_,Z,bD,c,a,C,Z,?_);show(?J,e,d,z,t,_,_,Z,bD,c,a,E,Z,?_);show(by decide,λx j=>?_)
 show xu λm e d a c=>?_;let(n,c):=c;let a:Le s e:=q.trans ((Le.new j).trans d);show c3 b1 b6 _ a0 e a2 a1 b3 a3 ?d6 c6.symm c5 f (by rw[b];show B.mono a) (rest (B.mono a).le (.le a)) (?eM k) (m,n,y,x,Z,c,d _ _ (gc j (gc X o)),?_)
 rw[u];show .inl (d _ _ bD)
theorem J0(a:yN):(re a).map V.int=([.int a.ret,?C]++a.nums.map nV++[.int (a.bytes.length:Nat)])++bT a.bytes:=by unfold re;simp[kF,mN];rfl
theorem On(a:yN):(re a).length=R a.nums+R a.bytes+3:=by
 unfold re;simp
 lia
def asM:Sp:=ic λf b e _=>∃a,CW b f a/\(re a).length<=10000001/\∀d c,Le b c->b d=U->c d=Y (.lst ((((re a).length:Int)::re a).map V.int))->e ?J c
example:fP akg akD T.akL XV 1 "laid_out" ((asM)) ["answer"] ["told"] (bx (?n 1 akg.nd (ib (F ?l (?q (?y (?q ?l)))))) (bx (dO (?eb yP ?a9 (?q ?l))) (bx (dO (?aM ?a9 (?q (?y (?q ?l))))) (bx (dO (?eb (P2 yP En) ?a9 (?q ?l))) (bw (dM (jW Pg (ib (?q (?y (?q ?a9)))) ?a9))))))):=by
 let(a,(o,b,a5,j,0,d,e,m),b,a6):=h;let c:=fU;rw[On]at b;lk;show(by change 2<=cw;decide,λb c=>?_)
 rw[ft];let X:?jX o=_:=gc c d;let P:?jX a5=_:=gc c e;let a0:b≠o:=λk=>by rw[k,d]at c;cases c
 rcases m with m|m
 .let E:b≠j:=λk=>by rw[k,m]at c;cases c
  let u:?jX j=_:=gc c m;let p:?jX b=_:=bD;let z:?eo ?jX:=Le.new c;generalize ?jX=d at X P u p z;lk;show(b,a5,_,_,Z,Z,p,P,?_,?_)
  .simp;lia
  let x:?j9 o=_:=bO (bI a0) X;let v:?j9 j=_:=bO (bI E) u;let a1:?j9 b=_:=bD;let B:?eo ?j9:=z.put c;generalize ?j9=e at x v a1 B;lk
  .simp;lia
  rw[gZ];let a2:?j o=_:=bO (bI a0) x;let w:?j j=_:=bO (bI E) v;let q:?j b=_:=bD;let C:?eo ?j:=B.put c;generalize ?j=l at a2 w q C;lk;show .inl (b,j,_,_,Z,Z,q,w,?_,?_)
  .rw[gZ];simp;lia
  rw[<-J0];let r:D l b ?dc b=_:=bD;let n:?eo (D l b ?dc):=C.put c;generalize D l b ?dc=a7 at r n;lk;show(by change 1<=cw;decide,λa4 t=>?_)
  rw[ft];show(_,Z,a4,b,_,_,Z,Z,bD,gc t r,?_,λk y=>?_)
  .rw[ft,On];simp;lia
  let(a3,a8):=wB y;show ?g1
 let E:b≠j:=λk=>by rw[k,m]at c;cases c
 let u:?jX j=_:=gc c m;let p:?jX b=_:=bD;let z:?eo ?jX:=Le.new c;generalize ?jX=d at X P u p z;lk;show(b,a5,_,_,Z,Z,p,P,?_,?_)
 .simp;lia
 let x:?j9 o=_:=bO (bI a0) X;let v:?j9 j=_:=bO (bI E) u;let a1:?j9 b=_:=bD;let B:?eo ?j9:=z.put c;generalize ?j9=e at x v a1 B;lk
 .simp;lia
 rw[gZ];let a2:?j o=_:=bO (bI a0) x;let w:?j j=_:=bO (bI E) v;let q:?j b=_:=bD;let C:?eo ?j:=B.put c;generalize ?j=l at a2 w q C;lk;show .inr (b,j,_,_,Z,Z,q,cZ.of w,?_,?_)
 .rw[gZ];simp;lia
 rw[<-J0];let r:D l b ?dc b=_:=bD;let n:?eo (D l b ?dc):=C.put c;generalize D l b ?dc=a7 at r n;lk;show(by change 1<=cw;decide,λa4 t=>?_)
 rw[ft];show(_,Z,a4,b,_,_,Z,Z,bD,gc t r,?_,λk y=>?_)
 .rw[ft,On];simp;lia
 let(a3,a8):=wB y;show ?g1
end Sm
namespace Rm
def uS(c:Vf)(b:Nat)(l:?bD):Option ?bD:=(vW FC b l).map λa=>PyFlat.told (PyFlat.played DR c (a.map wC))
theorem apX(b:Vf)(a:Nat):uS b a []=Y []:=by unfold uS vW;rfl
def anQ{d:Nat}{e:Int}(h:uS c (d+1) (e::i)=Y j):gG λa b k=>BX FC (e::i)=Y (a,b)/\uS (DR c (wC a)).1 d b=Y k/\j=((DR c (wC a)).2.length:Int)::(DR c (wC a)).2++k:=by
 unfold uS at h;rw[vW]at h;rcases l:BX FC (e::i)with _|m
 .rw[l]at h;cases h
 let(a,b):=m;rw[l]at h;simp only at h;rcases f:vW FC d b with _|n
 .rw[f]at h;cases h
 rw[f]at h;show(a,b,_,Z,by unfold uS;rw[f];rfl,?_)
 simp only[BM,BG]at h;rw[<-h];rfl
def Wm{l a:?bD}(h:uS Sw l.length l=Y a):Sv l=a:=by
 unfold uS at h;unfold Sv PyWrsayk.calls;rcases b:vW FC l.length l with _|c
 .rw[b]at h;cases h
 rw[b]at h;simp only[BM,BG]at h;show h
def alZ{l:?bD}(h:By l=M):∃b,uS Sw l.length l=Y b:=by
 unfold By at h;rcases a:vW FC l.length l with _|c
 .rw[a]at h;cases h
 show(_,by unfold uS;rw[a];rfl)
def FK(c:Nat)(l:?bD):=∃b,vW FC c l=Y b/\∀a∈b,Hd GZ a=M/\ae9 (wC a)=M
def akz{l:?bD}(h:By l=M):FK l.length l:=by
 unfold By at h;rcases b:vW FC l.length l with _|e
 .rw[b]at h;cases h
 rw[b]at h;simp only[ik]at h;let(((_,f),a),_):=h;show(e,b,λc d=>(nO.mp f c d,?_));unfold SayNeutral.asked at a;simp only[ik]at a;show nO.mp a.1 _ (eM.mpr (c,d,Z))
def FK.cons{d:Nat}{e:Int}{i:?bD}(h:FK (d+1) (e::i)):bN λb c=>BX FC (e::i)=Y (b,c)/\FK d c/\Hd GZ b=M/\ae9 (wC b)=M:=by
 let(p,a,j):=h;rw[vW]at a;rcases k:BX FC (e::i)with _|o
 .rw[k]at a;cases a
 let(b,c):=o;rw[k]at a;simp only at a;rcases f:vW FC d c with _|m
 .rw[f]at a;cases a
 rw[f]at a;simp only[BG]at a;subst a;show(b,c,Z,(m,f,λl n=>j l (gY _ n)),j b ?c)
def ajb{l a:?bD}(h:By l=M)(d:uS Sw l.length l=Y a):R a<=10000000:=by
 let c:=Wm d;unfold By at h;rcases b:vW FC l.length l with _|e
 .rw[b]at h;cases h
 rw[b]at h;simp only[ik]at h;have:=h.2;unfold PyFlat.short at this;rw[c]at this;simpa using this
end Rm
namespace Sm
inductive Pa(h:L)(m d r e q:S)(l t:List Int)(s:Nat)(b:L):Prop
 |i (c:L) (dl j:S) (p n:?aD) (st:nW) (a k:Nat) (done o:?bD) (_:iG c b m dl j p n st) (_:b d=Y (wJ r q a)) (_:b e=Y (.lst (done.map V.int))) (_:a<=l.length) (_:uS st k (l.drop a)=Y o) (_:FK k (l.drop a)) (_:done++o=t) (_:Le h b) (_:(∀f∈m::dl::j::n,h f=U/\f≠d/\f≠e)) (_:c d=U) (_:c e=U) (_:s=l.length-a)
def HL:gy ["calls","kit","feed","told"] ["calls"] (eO NJ):=(rfl,Z,Z,by decide+kernel,Z,by decide+kernel,by decide+kernel)
def awU[T:?da]:g.Aim:=λv a a=>Df a HL (λ_ _ _ _ h=>by let(_,j,_):=h;rw[j];rfl)<|Fe λv a a a c1 f a x h=>by
 let(a,0,h):=h;show(_,(bx (?n 1 HL.nd (P7 atn x)) (bx (?n 2 HL.nd (oM ar8 x (?q ?cJ))) (bx (?n 3 HL.nd ?fc) (?iN (wk lZ (jD (lH ?dr T.AK Me x)) (bw (dO (?eb yP ?gH (?q (cQ akD x (?q (cQ ahi x (?fE ?a9))))))))))))),?_)
 try dsimp only[eJ,jC,jF,jA]
 let(p,l,0,b0,a,b3):=h;let b:=fU;let(s,n):=alZ a;let a9:=akz a;let b:=ajb a n;let a8:=Wm n;lk;show asn λe E H X c a b a2 a4 q a3 a6 t b4=>?_;let(a7,w):=b;lk;show aql λd o r B b=>?_;let(u,m):=b;lk;show(by decide,λb k=>?_)
 let b1:f d=U:=c.no B;let a5:f b=U:=c.no (r.no k);let b2:f e=U:=a;let a0:b≠d:=λa=>by rw[a,m]at k;cases k
 let P:Le f (D o b ?M):=(c.trans r).trans (Le.new k);let x:D o b ?M e=_:=gc k (r _ _ w);let c:D o b ?M d=_:=gc k m;let z:D o b ?M E=_:=gc k (r _ _ q);let A:D o b ?M H=_:=gc k (r _ _ t);let C:D o b ?M b=_:=bD;generalize D o b ?M=a1 at P x c z A C;let o:∀{y:S},X y≠U->y≠d/\y≠b:=λ{y} m=>(λa=>m (by rw[a];show B),λa=>m (by rw[a];show r.no k))
 let r:Pa f e d u b p l s l.length a1:=by
  show(λ_=>U,E,H,[],[],ZD,0,l.length,[],s,((λ_ _ j=>(nomatch j)),(a7,x),z,(rfl,Z),(λy m=>(nomatch m)),aoh,([],A,λi=>?_,.nil,(λ_ h=>(nomatch h))),Z,?_,λ_ _=>rfl),c,C,gI _,?_,?_,Z,P,?_,Z,Z,Z)
  .have:kL ZD.args i=.none:=by
    unfold kL ZD;simp[List.getD];rcases c:(vU Sk.SLOTS ai6)[i]? with _|c3
    .rfl
    let(k,k):=ig.mp c;rw[<-k];simp
   rw[this];rfl
  .simp only[iu,bM,kK,or_false,iw,not_false_eq_true,DT,kY];show((bI a4,bI a6),bI b4)
  .rw[LW];show n
  .rw[LW];show a9
  intro y m;simp only[bM,kK,or_false]at m;rcases m with c|c|c
  .show(by rw[c];show b2,by rw[c];show o (by rw[w];show λa=>nomatch a))
  .show(by rw[c];show a2,by rw[c];show o (by rw[q];show λa=>nomatch a))
  show(by rw[c];show a3,by rw[c];show o (by rw[t];show λa=>nomatch a))
 lk;show(λk n A=>Pa f e d u b p l s k A/\n=[Y ?jV,Y ?aY,Y ?J,?j5],(_,r,Z),?_);intro k n k ξ;let((a6,r,o,a7,z,n,q,v,done,t,a9,x,P,b2,w,a3,C,X,H,b4,b5,0),0):=ξ;let a2:=cJ.mono b0 X;lk;show(d,u,p,q,l,Z,x,a2,?_);rcases B:decide (q<R l)with _|_
 .let B:=nN B;let E:l.drop q=[]:=Bx ?d
  rw[E,apX]at w;cases w;rw[mD]at C;lk;show b3 b k X a5 ?_;rw[a8,<-C];show P
 let B:=lN B;let(y,k,t):bN λy k=>l.drop q=y::k:=by
  rcases c:l.drop q with _|⟨y,k⟩
  .have:=fL R c;rw[lC]at this;simp at this
   lia
  show(y,k,Z)
 let b3:d∉e::r::o::z:=λa=>(H d a).2.1 Z;let b6:b∉e::r::o::z:=λa=>(H b a).2.2 Z;cases v with
 |zero=>
  rw[t]at w;cases w
 |succ v=>
 let a1:=w;let a4:=a3;rw[t]at a1 a4;let(B,c2,c0,k,a3,w):=anQ a1;let(a1,a1,a1,a8,b0,_):=a4.cons;rw[k]at a1;cases a1;rw[<-t]at k;lk;show(λa1 A=>(∃t,t<R l-q/\Pa f e d u b p l s t A)/\a1=[Y ?jV,Y ?aY,Y ?J,?j5],λa1 A c=>(c.1.choose,c.1.choose_spec.1,c.1.choose_spec.2,c.2),?_);lk;show(a6,e,r,o,a7,z,n,d,u,p,q,l,B,c2,Z,a9,Z,x,a2,b3,b4,b2,k,b0,λt r a1 o s q p a2 A c3 E a7 k u z a6 a4=>?_);let k:DR n (wC B)=((rA n t).1,re (rA n t).2):=by
  unfold DR;rw[r]
 rw[k]at a3 w;let k:=fL R C;let r:=fL R w;simp only[iA,lO]at k r;lk;show((rA n t).2,a4,by lia,λc k k r B=>?_)
 let r:=z.fr b _ a0 b6 P;let a4:=?is r;show(b,c,_,_,Z,Z,a4,B,?_,?_)
 .simp only[ft,lO]
  lia
 let B:Le f s:=λy c j=>z.fr y c (λa=>by rw[a,b1]at j;cases j) (λa=>by rw[(H y a).1]at j;cases j) (X _ _ j)
 let j:∀y∈e::q::p::A,f y=U/\y≠d/\y≠b:=λy m=>by
  rcases z.mo y m with a|a
  .show H y a
  show(X.no a,(λs=>by rw[s,x]at a;cases a),(λs=>by rw[s,P]at a;cases a))
 let d:o b=U:=by
  rcases s:o b with _|c
  .rfl
  let c:=u.le _ _ s;rw[r]at c;cases c;rcases z.gr b _ a0 s with a|a|⟨c1,a⟩
  .rw[b5]at a;cases a
  .rw[P]at a;cases a
  cases a
 show((R l-a1,by lia,o,q,p,a2,A,(rA n t).1,a1,v,done++(((re (rA n t).2).length:Int)::re (rA n t).2),c0,(u.mono k).but ij.upd (λa=>(j b a).2.2 Z) d,bO (bI a0) (?is a6),?_,a7,?_,?_,?_,?_,j,z.bf,d,Z),Z)
 .rw[bD,iD]
 .rw[E];show a3
 .rw[E];show a8
 .rw[<-C,w,sY]
 show(B.trans k).put a5
end Sm
section
section
namespace L2
open PySem.W (WData Codec OpenSpec Well WellAll ReadsW ReadsAllW)
mutual
inductive Dw(K:cp)(H:L):V->ml->Prop
 |cT:Dw K H .cT .none
 |bl (c:Bool):Dw K H (.bl c) (.bool c)
 |int (f:Int):Dw K H (.int f) (.int f)
 |str (j:Str):Dw K H (.str j) (.str j)
 |pG (c:Array UInt8):Dw K H (.pG c) (.bytes c.toList)
 |lst {b:S} {d:?au} {a:List ml}:cJ K H b d->xU K H d a->Dw K H ?av (.list a)
 |tup {b:S} {d:?au} {a:List ml}:cZ K H b d->xU K H d a->Dw K H ?av (.tuple a)
inductive xU(K:cp)(H:L):List V->List ml->Prop
 |nil:xU K H [] []
 |cons {h:V} {i:?au} {e:ml} {a:List ml}:Dw K H h e->xU K H i a->xU K H (h::i) (e::a)
end
section
variable{P:eP}{w:dZ}{K:cp}{H:L}{h:dg}{aN:afA}{cl:Str->Option S}
theorem asV(n:?bS)(k:K.In h)(i:cJ K H d j):gG λ(a:?aX) (c:Obj) (b:Nat)=>a_ j a/\h.get? d=Y c/\c.cls=?Q/\c.data=?bT b:=by
 rcases i with i|⟨c,a,b,e,l,_,m,_,f⟩
 .let(_,a,b,f,e):=(show ?eh d (.lst j)from i.ok n);show(a,_,b,f,e,Z,Z)
 show(a.toList,c,b,f,?is e,l,by simp[m])
theorem asW(n:?bS)(m:K.In h)(k:cZ K H d l):gG λ(b:?aX) (a:Obj) (c:Nat)=>a_ l b/\h.get? d=Y a/\a.cls=?ay/\a.data=.seq b.toArray c:=by
 rcases k with k|⟨a,b,c,e,f,i,_,j⟩
 .let(_,b,j,(a,e,f,c,i),_):=(show ?eh d (.tup l)from k.ok n);show(b,a,c,j,e,f,i)
 show(b.toList,a,c,j,m _ _ e,f,by simp[i])
mutual
theorem Dw.reads(e:?bS)(d:K.In h):∀(j:ml) (v:V) (t:J),Dw K H v j->?jq t->∃f,ReadsW aN cl h t j f
 |.none,_,_,a,b=>by
  cases a;cases b;show(_,ReadsW.none)
 |.bool s,_,_,a,b=>by
  cases a;cases b;show(_,ReadsW.bool s)
 |.int A,_,_,a,b=>by
  cases a;let(i,0):=b;show(_,ReadsW.int A i)
 |.str c,_,_,a,b=>by
  cases a;let(i,0):=b;show(_,ReadsW.str c i)
 |.bytes s,_,_,a,b=>by
  cases a;let(i,0):=b;show(_,ReadsW.bytes _ i)
 |.list c,_,_,a,b=>by
  cases a with
  |lst p k=>
   cases b;let(q,C,B,r,n,l,m):=asV e d p;let(f,o):=Dw.j4 e d c _ q k r;show(_,ReadsW.list n l m o)
 |.tuple c,_,_,a,b=>by
  cases a with
  |tup p k=>
   cases b;let(q,C,B,r,n,l,m):=asW e d p;let(f,o):=Dw.j4 e d c _ q k r;show(_,ReadsW.tuple n l m o)
 |.float _,_,_,a,_=>by cases a
 |.dict _,_,_,a,_=>by cases a
 |.bytearray _,_,_,a,_=>by cases a
 |.set _,_,_,a,_=>by cases a
 |.frozenset _,_,_,a,_=>by cases a
 |.obj _ _,_,_,a,_=>by cases a
theorem Dw.j4(e:?bS)(d:K.In h):∀(c:List ml) (x:?au) (u:?aX),xU K H x c->a_ x u->∃f,ReadsAllW aN cl h u c f
 |[],_,_,a,b=>by
  cases a;cases b;show(_,ReadsAllW.nil)
 |j::c,_,_,a,b=>by
  cases a with
  |cons y z=>
   cases b with
   |cons X a=>
    let(f,E):=Dw.reads e d j _ _ y X;let(b,T):=Dw.j4 e d c _ _ z a;show(_,ReadsAllW.cons E T)
end
end
mutual
def sU:ml->Bool
 |.none=>M
 |.bool _=>M
 |.int _=>M
 |.str _=>M
 |.bytes _=>M
 |.list a=>uR a
 |.tuple a=>uR a
 |_=>I
def uR:List ml->Bool
 |[]=>M
 |c::b=>sU c&&uR b
end
theorem v_{d:Type}{a:d->ml}(h:∀e,sU (a e)=M):∀l:List d,uR (l.map a)=M
 |[]=>rfl
 |c::b=>by
  change(sU (a c)&&uR (b.map a))=M;rw[h c,v_ h b]<;>rfl
theorem zy:∀(b:Codec) (a:b.denote),sU (b.enc a)=M
 |.unit,_=>rfl
 |.bool,_=>rfl
 |.int _ _,_=>rfl
 |.nat _ _,_=>rfl
 |.u8,_=>rfl
 |.bytes _ _,_=>rfl
 |.text _ _ _ _,_=>rfl
 |.list _ _ b,a=>v_ (λd=>zy b d) a
 |.pair b c,a=>by
  change(sU (b.enc a.1)&&(sU (c.enc a.2)&&M))=M;rw[zy b a.1,zy c a.2]<;>rfl
 |.triple b c e,a=>by
  change(sU (b.enc a.1)&&(sU (c.enc a.2.1)&&(sU (e.enc a.2.2)&&M)))=M;rw[zy b a.1,zy c a.2.1,zy e a.2.2]<;>rfl
 |.option b,U=>rfl
 |.option b,Y d=>zy b d
theorem Zl:∀(b:List Codec) (a:Ta b),uR (Hg b a)=M:=by
 intro d
 induction d with
 |nil=>
  intro _;show rfl
 |cons c b ih=>
  intro a;change(sU (c.enc a.1)&&uR (Hg b a.2))=M;rw[zy c a.1,ih a.2]<;>rfl
theorem Nv:∀{b:List ml} {a:ml},a∈b->a.weight<=LP b:=by
 intro d
 induction d with
 |nil=>
  intro a h;show ?fO h
 |cons i f ih=>
  intro a h;change a.weight<=i.weight+1+LP f;rcases ?fb with c|e
  .rw[c]
   lia
  let j:=ih e
  lia
def toV:J->V
 |.none=>.cT
 |.bool a=>.bl a
 |.int c _=>?f3
 |.str d _=>.str d
 |.bytes a _=>.pG a
 |.ref b=>?av
 |_=>.cT
def tZ(a:?aD):J->Prop
 |.none=>True
 |.bool _=>True
 |.int _ _=>True
 |.str _ _=>True
 |.bytes _ _=>True
 |.ref b=>b∈a
 |_=>False
theorem tZ.mono(h:∀a∈b,a∈c):∀{u:J},tZ b u->tZ c u:=λ{u} e=>by
 cases u with
 |ref a=>show h a e
 |none=>trivial
 |bool f=>trivial
 |int i d=>trivial
 |str j d=>trivial
 |bytes f d=>trivial
 |_=>show jy e
theorem aoN(e:tZ c b):RelV (toV b) b:=by
 cases b with
 |ref f=>rfl
 |none=>rfl
 |bool d=>rfl
 |int i a=>show(a,Z)
 |str j a=>show(a,Z)
 |bytes d a=>show(a,Z)
 |_=>show jy e
theorem Cy:∀{b:?aX},(∀a∈b,tZ c a)->a_ (b.map toV) b:=by
 intro e
 induction e with
 |nil=>
  intro _;show .nil
 |cons a i ih=>
  intro h;show .cons (aoN (h a (mV ..))) (ih λf d=>h f (gY _ d))
def uL(h:dg)(c:?aD)(b:S):=∃a:List J,R a<=cw/\(∀d∈a,tZ c d)/\(?ep=Y {cls:=?Q,data:=?bT}\/?ep=Y {cls:=?ay,data:=?bT})
theorem uL.mono{h:dg}(j:∀a∈b,a∈c)(m:uL h b a):uL h c a:=by let(l,d,e,f):=m;show(l,d,λk i=>(e k i).mono j,f)
theorem HC{P:AI}{h:dg}(c:zb P h a b):R a=R b:=by
 induction a generalizing b with
 |nil=>cases c;rfl
 |cons f a ih=>
  cases c with
  |cons e d=>show fL Nat.succ (ih d)
theorem Zz{P:AI}{h:dg}(i:Well P h c (.list b)):bN λ(a:S) (d:?aX)=>c=?s/\?ap=Y {cls:=?Q,data:=?gx}/\zb P h d b:=by
 cases i with
 |list f e=>show(_,_,Z,f,e)
theorem Yj{P:AI}{h:dg}(i:Well P h c (.tuple b)):bN λ(a:S) (d:?aX)=>c=?s/\?ap=Y {cls:=?ay,data:=?gx}/\zb P h d b:=by
 cases i with
 |tuple f e=>show(_,_,Z,f,e)
theorem Zy{P:AI}{h:dg}(j:zb P h c (a::b)):bN λ(d:J) (e:?aX)=>c=d::e/\Well P h d a/\zb P h e b:=by
 cases j with
 |cons f i=>show(_,_,Z,f,i)
theorem E_{a:Nat}(h:a<=1048576):a<=cw:=fZ h ?i
section
variable{P:AI}{h:dg}
mutual
theorem anz:∀(k:ml) (u:J),Well P h u k->sU k=M->k.weight<=1048576->∃b:List S,tZ b u/\∀f∈b,uL h b f
 |.none,_,e,_,_=>by
  cases e;show([],trivial,λf a=>?fO a)
 |.bool c,_,e,_,_=>by
  cases e;show([],trivial,λf a=>?fO a)
 |.int d,_,e,_,_=>by
  cases e;show([],trivial,λf a=>?fO a)
 |.str d,_,e,_,_=>by
  cases e;show([],trivial,λf a=>?fO a)
 |.bytes c,_,e,_,_=>by
  cases e;show([],trivial,λf a=>?fO a)
 |.list i,_,e,d,o=>by
  let(f,m,0,z,p):=Zz e;let s:LP i<=1048576:=o;let(b,v,x):=Ie i _ p d λk y=>fZ (Nv y) s;let r:∀c∈b,c∈f::b:=λc j=>gY _ j;show(f::b,mV ..,λc j=>?_);rcases bM.mp j with n|a
  .rw[n];show(m,E_ (by rw[HC p];show fZ (T9 i) s),λl q=>(v l q).mono r,.inl z)
  .show(x c a).mono r
 |.tuple i,_,e,d,o=>by
  let(f,m,0,z,p):=Yj e;let s:LP i<=1048576:=o;let(b,v,x):=Ie i _ p d λk y=>fZ (Nv y) s;let r:∀c∈b,c∈f::b:=λc j=>gY _ j;show(f::b,mV ..,λc j=>?_);rcases bM.mp j with n|a
  .rw[n];show(m,E_ (by rw[HC p];show fZ (T9 i) s),λl q=>(v l q).mono r,.inr z)
  .show(x c a).mono r
 |.float _,_,_,d,_=>?ef
 |.dict _,_,_,d,_=>?ef
 |.bytearray _,_,_,d,_=>?ef
 |.set _,_,_,d,_=>?ef
 |.frozenset _,_,_,d,_=>?ef
 |.obj _ _,_,_,d,_=>?ef
theorem Ie:∀(i:List ml) (m:?aX),zb P h m i->uR i=M->(∀k∈i,k.weight<=1048576)->∃b:List S,(∀l∈m,tZ b l)/\∀f∈b,uL h b f
 |[],_,e,_,_=>by
  cases e;show([],λl a=>?fO a,λf a=>?fO a)
 |k::i,_,e,d,o=>by
  let(u,m,0,x1,x2):=Zy e;let C:sU k=M/\uR i=M:=Rb.mp d;let(b,E,T):=anz k u x1 C.1 (o k (mV ..));let(t,X,d):=Ie i m x2 C.2 λn e=>o n (gY _ e);let A:∀c∈b,c∈b++t:=λc j=>iE.mpr (.inl j);let B:∀c∈t,c∈b++t:=λc j=>iE.mpr (.inr j);show(b++t,λl q=>?_,λc j=>?_)
  .rcases bM.mp q with n|a
   .rw[n];show E.mono A
   .show(X l a).mono B
  .rcases iE.mp j with a|a
   .show(T c a).mono A
   .show(d c a).mono B
end
end
def JN(a:Obj):Option HO:=match a.data with
 |.seq b _=>if(a.cls==xp "list")=M then Y (.eI a (.lst (b.toList.map toV)))else Y (.eI a (.tup (b.toList.map toV)))
 |_=>U
def pD(K:cp)(h:dg)(b:?aD):L:=λa=>if a∈b then(if(K.lookup a).isNone=M then(?ap).bind JN else U)else U
def JB(H:L):=∀a,H a=U\/bN λb c=>H a=Y (.eI b c)
theorem ZW(a:?aX):JN {cls:=?Q,data:=?bT}=Y (.eI {cls:=?Q,data:=?bT} (.lst (a.map toV))):=rfl
theorem ZX(a:?aX):JN {cls:=?ay,data:=?bT}=Y (.eI {cls:=?ay,data:=?bT} (.tup (a.map toV))):=rfl
section
variable{P:eP}{w:dZ}{K:cp}{h:dg}{A:List S}
def IG(d:a∈A)(e:K.lookup a=U)(c:?ap=Y b):?gq h a=JN b:=by unfold pD;rw[bz d,e,bz (show(U:Option Obj).isNone=M from rfl),c]<;>rfl
def aqr(a:?gq h b=Y e):b∈A/\K.lookup b=U:=by
 unfold pD at a;by_cases c:b∈A
 .rw[bz c]at a;rcases d:K.lookup b with _|f
  .lia
  rw[d,bp ?c]at a
  cases a
 rw[bp c]at a;cases a
def IH(k:∀j∈A,uL h A j)(d:?gq h b=Y e):K.lookup b=U/\∃a:List J,R a<=cw/\(∀e∈a,tZ A e)/\((?ep=Y {cls:=?Q,data:=?bT}/\e=.eI {cls:=?Q,data:=?bT} (.lst (a.map toV)))\/(?ep=Y {cls:=?ay,data:=?bT}/\e=.eI {cls:=?ay,data:=?bT} (.tup (a.map toV)))):=by
 let(f,i):=aqr d;let(a,l,m,n):=k b f;show(i,a,l,m,?_);rcases n with c|c
 .rw[IG f i c,ZW]at d;lia
 rw[IG f i c,ZX]at d;show .inr (c,(gR d).symm)
def alY(c:∀b∈A,uL h A b):JB (?gq h):=λd=>by
 rcases e:?gq h d with _|f
 .lia
 obtain⟨_,i,_,_,⟨_,a⟩|⟨_,a⟩⟩:=IH c e
 .show .inr (_,_,by rw[a])
 show .inr (_,_,by rw[a])
def apE(f:∀e∈A,uL h A e):iN P w (?gq h) h:=λj k i=>by
 obtain⟨_,d,b,c,⟨a,rfl⟩|⟨a,rfl⟩⟩:=IH f i
 .show(a,by rw[ft];show b,d,_,Cy c,a)
 show(a,by rw[ft];show b,d,Cy c,(_,a,Z,_,Z),_,a,Z)
def Ja{d c:?aX}(f:(Y {cls:=a,data:=?gx}:Option Obj)=Y {cls:=b,data:=.seq c.toArray}):a=b/\d=c:=by lia
def aue(l:K.In h)(m:∀a∈A,uL h A a){d:?aX}(j:a∈A)(c:?ap=Y {cls:=?Q,data:=?gx}):(∀r∈d,tZ A r)/\cJ K (?gq h) a (d.map toV):=by
 let(k,n,i,o):=m a j;let p:k=d:=by
  rcases o with b|b
  .rw[c]at b;show(Ja b).2.symm
  rw[c]at b;show bK (agK (Ja b).1) ?i
 subst p;show(i,?_);rcases e:K.lookup a with _|q
 .show .inl (.inr (_,by rw[IG j e c,ZW]))
 let f:=l a q e;rw[c]at f;obtain rfl:=gR f;show .inr (_,k.toArray,_,e,Z,Z,Z,by rw[jK];show n,by simpa using Cy i)
def auf(l:K.In h)(m:∀a∈A,uL h A a){d:?aX}(j:a∈A)(c:?ap=Y {cls:=?ay,data:=?gx}):(∀r∈d,tZ A r)/\cZ K (?gq h) a (d.map toV):=by
 let(k,n,i,o):=m a j;let p:k=d:=by simp_all
 subst p;show(i,?_);rcases e:K.lookup a with _|q
 .show .inl (.inr (_,by rw[IG j e c,ZX]))
 let f:=l a q e;rw[c]at f;obtain rfl:=gR f;show .inr (_,k.toArray,_,e,Z,Z,by rw[jK];show n,by simpa using Cy i)
mutual
theorem arL{m:AI}(d:K.In h)(e:∀k∈A,uL h A k):∀(i:ml) (l:J),Well m h l i->sU i=M->tZ A l->Dw K (?gq h) (toV l) i
 |.none,_,b,_,_=>by
  cases b;show .cT
 |.bool n,_,b,_,_=>by
  cases b;show .bl n
 |.int u,_,b,_,_=>by
  cases b;show .int u
 |.str x,_,b,_,_=>by
  cases b;show .str x
 |.bytes n,_,b,_,_=>by
  cases b;let y:=Dw.pG (K:=K) (H:=?gq h) n.toArray;show y
 |.list c,_,b,a,j=>by
  let(k,f,0,q,p):=Zz b;let(o,r):=aue d e j q;show .lst r (Jo d e c _ p a o)
 |.tuple c,_,b,a,j=>by
  let(k,f,0,q,p):=Yj b;let(o,r):=auf d e j q;show .tup r (Jo d e c _ p a o)
 |.float _,_,_,a,_=>?c7
 |.dict _,_,_,a,_=>?c7
 |.bytearray _,_,_,a,_=>?c7
 |.set _,_,_,a,_=>?c7
 |.frozenset _,_,_,a,_=>?c7
 |.obj _ _,_,_,a,_=>?c7
theorem Jo{m:AI}(d:K.In h)(e:∀k∈A,uL h A k):∀(c:List ml) (f:?aX),zb m h f c->uR c=M->(∀s∈f,tZ A s)->xU K (?gq h) (f.map toV) c
 |[],_,b,_,_=>by
  cases b;show .nil
 |i::c,_,b,a,j=>by
  let(l,f,0,x1,x2):=Zy b;let t:sU i=M/\uR c=M:=Rb.mp a;show .cons (arL d e i l x1 t.1 (j _ (mV ..))) (Jo d e c f x2 t.2 λs v=>j s (gY _ v))
end
end
def anl{P:eP}{w:dZ}{K:cp}{v:Nat}{a:aO}{aN:afA}{cl:Str->?iD}{d0:ml}(x:K.In a.1)(a3:a.1.Ns Ca s)(E:a.1.Ns Xn m)(a8:∀i:Str,i≠"__name__"->m i=Ao i)(b2:a.1.NoLimit)(b0:a.gens=#[])(X:zb w.params a.1 f k)(r:uR k=M)(T:∀j∈k,j.weight<=1048576)(b3:ii v IA)(a5:∀z:dg,K.In z->z.Ns Ca s->lR P w K s z n v p q t B)(a9:∀(a2:aO) (l:?aX),R l=R t->Iy a2 q (l,[]) (t.zip l))(b1:R k=R t)(b4:∀(H:L) (C:?au),JB H->xU K H C k->B C H (λa0 a1=>Dw K a1 a0 d0) λ_ _ _=>False)(a6:∀H c e,n [] H a (λ_ _ _=>False) c e->False):vp ?iT IA (.call ?jV (f,[])) (λu e=>bN λd y=>u=.ok (.ret d)/\ReadsW aN cl e.1 d d0 y/\OldK a.1 e.1/\e.os=a.os/\yW e.gens) a:=by
 let(A,l,q):=Ie k f X r T;let C:JB (?gq a.1):=alY q;let T:iN P w (?gq a.1) a.1:=apE q;let a2:=Jo x q k f X r l;let a7:=Cy l;let z:∀b d,?gq a.1 b=Y d->K.lookup b=U:=λb d l=>(IH q l).1;let a4:∀{b:S} {o:Obj} {p:Array rj} {n:Nat},a.1.get? b=Y o->o.data=.dict p n->?gq a.1 b=U:=λ{b o p n} c j=>by
  rcases l:?gq a.1 b with _|d
  .rfl
  obtain⟨_,k,_,_,⟨r,_⟩|⟨r,_⟩⟩:=IH q l
  .rw[r]at c;cases c;let B:NV k.toArray _=Data.dict p n:=j;cases B
  rw[r]at c;cases c;let B:NV k.toArray _=Data.dict p n:=j;cases B
 generalize ?gq a.1=H at C T a2 z a4;let q:∀{b:S} {o:Obj},a.1.get? b=Y o->H b=U->(yg a.1 H).get? b=Y o:=λc k=>an6 c k;let v:∀{b:S} {k:Str->?bH},a.1.Ns b k->(yg a.1 H).Ns b k:=λ{b k} (o,p,n,c,j,u)=>(o,p,n,q c (a4 c j),j,u);let k:∀b o,K.lookup b=Y o->H b=U:=λb o c=>by
  rcases l:H b with _|d
  .rfl
  rw[z b d l]at c;cases c
 let j:K.In (yg a.1 H):=λb o c=>q (x b o c) (k b o c);let n:Mod K s (yg a.1 H):=(j,v a3,(m,v E,a8),let(p,k,m):=b2;(p,v k,m))
 let k:zJ P w K s (yg a.1 H) IA [] a H:=(rfl,n,λb o c=>aqs c,Ea (amq _ _),trivial,λb E=>?fO (show b∈([]:?aD)from E),T,.of_eq b0)
 let m:R f=R t:=by rw[HC X];show b1
 show yI ((a5 _ j (v a3)).run IA [] a H (f,[]) f (f.map toV) _ _ b3 k (a9 a f m) a7 (b4 H _ C a2)) λu e i=>?_;rcases u with c|f
 .show(a6 H c e i).elim
 cases f with
 |next=>show jy i
 |brk=>show jy i
 |cont=>show jy i
 |ret d=>
  let(a0,a1,p,k,j,f,q,l):=i;let i:∀b o,a.1.get? b=Y o->e.1.get? b=Y o:=λb o c=>by
   rcases a:H b with _|m
   .show j.keep b o c a (by intro m;show ?fO (show b∈([]:?aD)from m)) ?c
   rcases C b with m|⟨n,s,m⟩
   .rw[a]at m;cases m
   let s:=j.6 b n _ m;let(a,_):=T b _ m;let(r,_):=f b _ s;rw[c]at a;cases a;show r
  let a:K.In e.1:=λb o c=>i b o (x b o c);let(y,c):=Dw.reads (aN:=aN) (cl:=cl) f a d0 a0 d l q;show(d,y,Z,c,OldK.of_keep i,p,k)
def agZ(h:ml.layableAll b=M):∀a∈b,a.weight<=1048576:=λa c=>
 (PySem.W.layableW_iff.mp (nO.mp h a c)).2.2
theorem Xu:∀(a:List Codec) (b:Ta a),(Hg a b).length=R a:=by
 intro c
 induction c with
 |nil=>
  intro _;show rfl
 |cons d a ih=>
  intro b;change(Hg a b.2).length+1=R a+1;rw[ih b.2]
def aw0{r:OpenSpec}{k:Nat}{f:dZ->dg->Prop}{j:DefRec}{K:AI->cp}{CX:dZ->tX}{ps:?d4}{sp:dZ->Sp}(a1:r.wellSaid=M)(z:j.params.defaults=[])(T:R r.args=R ps)(X:ii k IA)(E:∀(w:dZ) (h:dg),f w h->(K w.params).In h)(t:∀(w:dZ) (b:Str->?bH) (c:S) (h:dg),f w h->(K w.params).In h->h.Ns Ca b->b j.name=Y ?aC->∃m:oG,(∀(n:aO) (o:?aX),R o=R ps->Iy n m (o,[]) (ps.zip o))/\∀i:dg,(K w.params).In i->i.Ns Ca b->lR r.1 w (K w.params) b i (CX w) k c m ps (sp w))(a0:∀(w:dZ) (H:L) (e:?au) (a:Ta r.args),JB H->Codec.withinAll r.args a=M->Yo r.args r.asked a=M->xU (K w.params) H e (Hg r.args a)->sp w e H (λs u=>Dw (K w.params) u s (r.ret.enc (Yo r.args r.f a))) λ_ _ _=>False)(x:∀(w:dZ) (H:L) (n:aO) (l:J) (d:aO),CX w [] H n (λ_ _ _=>False) l d->False):PySem.W.WalkOS q p v f r j [] (λC y=>PySem.call C y):=by
 intro w v C b f G q c f f f f f kV f f f f o j args f f f n i u i;let(a,y,z):=PySem.W.os_pre_some f;let(B,s):=Codec.encAll_of_decAll r.args args a y;subst B;let p:=E w _ q;let(m,i,f):=t w b c _ q p G.T.g o;show PySem.W.enter_call (yI (anl (aN:=[]) (cl:=classAt v.1) (d0:=r.ret.enc (Yo r.args r.f a)) p G.T.g G.T.b G.T.builtins G.T.nolimit j u (Zl _ _) (agZ n) X f i (by rw[Xu];show T) (λH e b c=>a0 w H e a b s z c) λH l d=>x w H C l d) λa d b=>?_)
 let(c,x,0,E,T,X,a):=b;show(.inl (c,_,x,Z,λ_=>rfl,E,(OpenSpec.post_iff a1 s _ _).mpr Z,λb=>ui (show I=M from b)),T,X,a)
end L2
end
namespace Sm
theorem aq{c:cp}{b:L}:∀a:List Int,xU c b (a.map V.int) (a.map ae)
 |[]=>.nil
 |d::e=>.cons ?gV (aq e)
theorem aw{d:cp}{c:L}:∀(b:?bD) (a:?au),xU d c a (b.map ae)->a=b.map V.int
 |[],a,h=>by
  cases h;rfl
 |j::i,a,h=>by
  cases h with
  |cons e f=>
   cases e;rw[aw i _ f]<;>rfl
theorem j_{b:cp}{kV h j c f:J}(l:b.lookup i=Y (m,n,.func (BU k d (OG a) (zh a) (eO a) .none kV h j e c f),o))(p:TJ b c d=M)(q:j5 b ?iB=M):tY b k d a i (BU k d (OG a) (zh a) (eO a) .none kV h j e c f):=((m,n,kV,h,j,e,c,f,o,Z,l,p),q)
theorem aA(h:?da->g.Aim)(a:G)(c:dL a):a.Aim:=Gi λd=>by
 let b:=V4 (p:=λg=>?da/\¬g.Aim) (a,c,d);unfold g at h;show b.2 (h b.1)
open PySem.W (nsIn findIn codeIn keepIn isFn makesIn fnOf mg_of mg_none_of Frag findCls specialIn readsIn)
section
variable{P:eP}{w:dZ}{K:Frag}{h:dg}{mg:Str->Option J}(KX:K.In h)(aM:h.Ns Ca mg)
include KX aM in
theorem aZ(a3:mg "answers"=Y (.ref a1))(c5:c_ K Ca "Refused"=Y (Y (.ref A)))(c3:c_ K Ca "NotAllowed"=Y (Y (.ref y)))(c1:c_ K Ca "NoLanguage"=Y (Y (.ref v)))(c2:c_ K Ca "NoMessage"=Y (Y ?eJ))(a6:c_ K Ca "ComesRound"=Y (Y ?bL))(a8:c_ K Ca "Faulty"=Y (Y ?gM))(d0:c_ K Ca "WrongLine"=Y (Y (.ref E)))(c7:c_ K Ca "Wanted"=Y (Y ?bC))(b1:c_ K Ca "Full"=Y (Y ?jN))(c0:c_ K Ca "Message"=Y (Y (.ref u)))(b2:c_ K Ca "Hole"=Y (Y ?jV))(a5:c_ K Ca "Branch"=Y (Y ?aY))(c6:c_ K Ca "Term"=Y (Y (.ref B)))(a7:c_ K Ca "Display"=Y (Y ?iB))(b4:c_ K Ca "Language"=Y ?jW)(b0:c_ K Ca "Found"=Y (Y ?d6))(b3:c_ K Ca "Kit"=Y (Y (.ref q)))(b5:c_ K Ca "Level"=Y (Y (.ref s)))(c4:c_ K Ca "Reader"=Y (Y (.ref z)))(b6:c_ K Ca "Loader"=Y (Y (.ref t)))(a4:c_ K Ca "Answer"=Y (Y ?J))(a9:c_ K Ca "Feed"=Y ?kf)(d2:c_ K Ca "CATEGORIES"=Y (Y (.ref X)))(d4:c_ K Ca "NO_TAG"=Y (Y (.ref a0)))(d3:c_ K Ca "NAMED_AS"=Y (Y ?dh))(d1:c_ K Ca "CALLS"=Y (Y (.ref H)))(o:∀a,dL (k8,w,K,mg,a,A,y,v,x,f,k,E,C,n,u,p,e,B,i,r,m,q,s,z,t,d,l,X,a0,j,H)):∃b:oG,(∀(a2:aO) (c:?aX),R c=(["calls"]:?d4).length->Iy a2 b (c,[]) ((["calls"]:?d4).zip c))/\∀a:dg,K.In a->a.Ns Ca mg->lR k8 w K mg a (fz k8 w) 18 a1 b ["calls"] (Q1 K):=by
 let(c,b,j,c):=(o h).awV;let d:=a3.symm.trans c;cases d;show(b,λa2=>?_,λa _ _=>aA (λT=>awU (T:=T)) _ (o a) _ _ j);let(a,a,kV,a,a,a,a,a,a,0,lk,a):=j.ex;show mU λ_=>.of_eq Z
include KX aM in
theorem aK{kV k r d j:J}(e:c_ K Ca b=Y (Y ?s))(l:K.lookup a=Y (o,p,.func (fnOf b b (OG c) (zh c) (eO c) .none kV k r f d j),q))(i:TJ K d b=M)(n:j5 K ?s=M):bN λa m=>tY K b b c a m/\mg b=Y ?s:=(a,_,j_ l i n,mg_of KX aM e)
theorem aU{kV o u f n:J}(_:K.In h)(j:i_ K ?aY c=Y (Y ?s))(l:K.lookup a=Y (r,s,.func (fnOf c d (OG b) (zh b) (eO b) .none kV o u k f n),t))(m:TJ K f d=M)(i:j5 K ?s=M)(q:isFn K ?s=M):bN λa p=>tY K c d b a p/\j1 K e c a:=(a,_,j_ l m i,j,q,i)
theorem aQ{kV m v e k:J}(_:K.In h)(f:i_ K ?av "__init__"=Y (Y ?s))(l:K.lookup a=Y (s,t,.func (fnOf "__init__" d (OG c) (zh c) (eO c) .none kV m v i e k),u))(j:TJ K e d=M)(p:j5 K ?s=M)(o:isFn K ?s=M)(r:makesIn K b=M)(q:j5 K ?av=M):bN λa n=>tY K "__init__" d c a n/\Mk K b a:=(a,_,j_ l j p,r,f,o,q)
theorem aS{kV m u e k:J}(_:K.In h)(f:i_ K ?av "__init__"=Y (Y ?s))(l:K.lookup a=Y (r,s,.func (fnOf "__init__" d (OG c) (zh c) (eO c) .none kV m u i e k),t))(j:TJ K e d=M)(p:j5 K ?s=M)(o:isFn K ?s=M)(v:oN K b)(q:j5 K ?av=M):bN λa n=>tY K "__init__" d c a n/\vK K b a:=(a,_,j_ l j p,v,f,o,q)
theorem bd{kV n t e m:J}(_:K.In h)(i:findCls K ?av (.type "type") "__init__"=Y (.val ?s))(l:K.lookup a=Y (q,r,.func (fnOf "__init__" d (OG c) (zh c) (eO c) .none kV n t j e m),s))(k:TJ K e d=M)(f:j5 K ?s=M)(p:p5 K ?av "__getattribute__"=Y (Y (.builtin "type.__getattribute__")))(rd:readsIn K b (.type "type")=M):bN λa o=>tY K "__init__" d c a o/\FE K b "__init__" a:=(a,_,j_ l k f,p,rd,i,f)
theorem be(_:K.In h)(c:i_ K ?s b=Y U):eA K a b:=c
theorem aI(_:K.In h)(b:LH K a Str.empty=M)(c:DM K a=M)(d:o0 K a=M)(e:i_ K ?s "__setattr__"=Y (Y ?b6)):jO K a:=(b,c,d,e)
theorem aY(_:K.In h)(b:i_ K ?s "__setattr__"=Y (Y ?b6))(c:IK K a=M)(d:DM K a=M)(e:excIn K a=M)(f:i_ K ?s "__getattribute__"=Y (Y (.builtin "BaseException.__getattribute__")))(i:i_ K ?s "__getattr__"=Y U)(j:Ur K a ?ca=Y M):oN K a:=(b,c,d,e,f,i,j)
theorem aL(_:K.In h)(c:ul K a b=Y M):ul K a b=Y M:=c
theorem aR(_:K.In h)(b:af K a "int"=M)(c:i_ K ?s "__class__"=Y (Y ?i4))(d:p5 K ?i4 "__get__"=Y (Y (.builtin "getset_descriptor.__get__")))(e:aj K ?i4=Y M)(f:Ur K a ?gX=Y M):m8 K a:=(b,c,d,e,f)
theorem D1:∀{x:V} {u:J},j7 u=Y x->RelV x u
 |x,u,a=>by cases u<;>first|(cases a;show rfl)|(cases a;show(_,Z))|cases a
theorem p_:∀{c:?au} {b:?aX},b.map j7=c.map Y->a_ c b
 |[],[],_=>.nil
 |[],_::_,a=>nomatch a
 |_::_,[],a=>nomatch a
 |i::c,f::b,a=>by
  rw[iF,iF]at a;injection a with d e;show .cons (D1 d) (p_ e)
theorem aW{d:?au}{a:?dD}{c:Nat}(_:K.In h)(l:K.lookup b=Y (?ay,f,.seq a c,i))(j:a.toList.map j7=d.map Y)(k:Nat.ble a.size cw=M)(e:L):cZ K e b d:=
 .inr (_,a,c,l,Z,Z,Nat.le_of_ble_eq_true k,p_ j)
theorem aV(_:K.In h)(l:K.lookup b=Y a)(c:a.cls=?ay)(d:a.dict=U):∃a,K.lookup b=Y a/\a.cls=?ay/\a.dict=U:=(a,l,c,d)
def dk:J->Key
 |.int a _=>?ai
 |.str b _=>.inr b
 |_=>.inl 0
def dv(a:J):V:=(j7 a).getD .cT
def kvsOf(b:Array rj):?jY:=b.toList.map λa=>(dk a.key,dv a.val)
def okE(w:dZ):List rj->Prop
 |[]=>True
 |a::b=>(zG (dk a.key) a.key=M/\a.hash=n8 w (dk a.key)/\j7 a.val=Y (dv a.val))/\okE w b
theorem F2{w:dZ}(h:okE w c):∀a∈c,zG (dk a.key) a.key=M/\a.hash=n8 w (dk a.key):=by
 induction c with
 |nil=>intro a b;cases b
 |cons e f ih=>
  intro a b;rcases ?i3 with d|b
  .rw[d];show(h.1.1,h.1.2.1)
  .show ih h.2 a b
theorem l_{P:eP}{w:dZ}:∀{b:List rj},okE w b->Pairs (pM P w) b (b.map λa=>(dk a.key,a.val))
 |[],_=>.nil
 |a::c,h=>.cons h.1.1 Z (l_ h.2)
theorem m_{w:dZ}:∀{b:List rj},okE w b->KV (b.map λa=>(dk a.key,dv a.val)) (b.map λa=>(dk a.key,a.val))
 |[],_=>.nil
 |a::c,h=>.cons (rfl,D1 h.1.2.2) (m_ h.2)
theorem aH{f:Nat}(_:K.In h)(l:K.lookup d=Y (?fv,U,.dict b f,#[]))(a:kvsOf b=e)(c:okE w b.toList)(j:decide ((b.toList.map λa=>dk a.key).Nodup)=M):Ql P w K d e:=
 a▸(_,_,l,m_ c,λh a=>(_,b,f,a,(rfl,Z,Z),Z,λk i=>(_,F2 c k (n_.mpr i)),l_ c,by rw[mN];show lN j))
theorem aT{e:Nat}(_:K.In h)(l:K.lookup d=Y (?fv,U,.dict a e,#[]))(b:okE w a.toList)(i:decide ((a.toList.map λc=>dk c.key).Nodup)=M):Ql P w K d (kvsOf a):=
 (_,_,l,m_ b,λh c=>(_,a,e,c,(rfl,Z,Z),Z,λj f=>(_,F2 b j (n_.mpr f)),l_ b,by rw[mN];show lN i))
include KX aM in
theorem aJ(e:RelV b a)(d:c_ K Ca c=Y (Y a)):∃a,mg c=Y a/\RelV b a:=(_,mg_of KX aM d,e)
end
end Sm
end
end
open PySem PySem.W PyProof.Rows
theorem PySem.Challenge.cw_saymessages_s01_answers_holds : PySem.Challenge.rw_saymessages_s01_answers.Holds := by
  refine Sm.hd ?_
  k_fillS
  refine aw0 (r := PySem.Challenge.rw_saymessages_s01_answers) (k := 18) (CX := fun w => fz k8 w) (ps := ["calls"]) (sp := fun w => Q1 (Sm.hd.heap_1 w.params)) (by decide +kernel) rfl rfl ⟨rfl, by decide, by decide⟩ (fun w h Y => PySem.W.kIn_of Y) ?F ?S ?C
  case C =>
    intro w H s e s' h
    obtain ⟨_, _, _, _, _, _, _, _, _, _, _, _, _, _, _, _, _, h, _⟩ := h
    exact h
  case S =>
    intro w H xs a hO hwi hask O
    cases O with
    | cons h1 h2 =>
      cases h2
      cases h1 with
      | lst hs ha =>
        have e := aw a.1 _ ha
        subst e
        exact ⟨_, rfl, _, a.1, rfl, hs, hask, fun q H' le hq hp => .lst (cJ.of hp) (aq _)⟩
  case F =>
    intro w mg fa h Y KX N hmg
    refine' aZ KX N hmg ?awW ?o6 ?o5 ?o8 ?o4 ?q_ ?o9 ?r8 ?L5 ?e_Message ?e_Hole ?e_Branch ?e_Term ?e_Display ?e_Language ?e_Found ?e_Kit ?e_Level ?e_Reader ?e_Loader ?e_Answer ?e_Feed ?e_a_CATEGORIES ?e_a_NO_TAG ?e_a_NAMED_AS ?e_a_CALLS ?T
    all_goals try k_is
    intro base
    constructor
    all_goals try dsimp only [Sm.G.Const, Sm.G.Def, Sm.G.Met, Sm.G.rN, Sm.G.vF]
    case aqq => exact aR KX (by kernel_rfl) (by kernel_rfl) (by kernel_rfl) (by kernel_rfl) (by kernel_rfl)
    all_goals first
      | exact be KX (by k_is)
      | exact mg_none_of KX N (by k_is)
      | exact aJ KX N ⟨_, rfl⟩ (by k_is)
      | exact mg_of KX N (by k_is)
      | (refine' aK KX N ?a ?l ?c ?k; (case a => k_is); (case l => k_is); (case c => k_is); (case k => k_is))
      | (refine' aU KX ?a ?l ?c ?k ?i; (case a => k_is); (case l => k_is); (case c => k_is); (case k => k_is); (case i => k_is))
      | (refine' aQ KX ?a ?l ?c ?k ?i ?m ?kc; (case a => k_is); (case l => k_is); (case c => k_is); (case k => k_is); (case i => k_is); (case m => k_is); (case kc => k_is))
      | exact aI KX (by k_is) (by k_is) (by k_is) (by k_is)
      | exact aY KX (by k_is) (by kernel_rfl) (by k_is) (by kernel_rfl) (by k_is) (by k_is) (by k_is)
      | (refine' aS KX ?a ?l ?c ?k ?i ?x ?kc; (case a => k_is); (case l => k_is); (case c => k_is); (case k => k_is); (case i => k_is); (case x => exact aY KX (by k_is) (by kernel_rfl) (by k_is) (by kernel_rfl) (by k_is) (by k_is) (by k_is)); (case kc => k_is))
      | exact aL KX (by kernel_rfl)
      | exact aR KX (by kernel_rfl) (by kernel_rfl) (by kernel_rfl) (by kernel_rfl) (by kernel_rfl)
      | (refine' aW KX ?l ?v ?z; (case l => k_is); (case v => rfl); (case z => kernel_rfl))
      | (refine' aV KX ?l ?c ?d; (case l => k_is); (case c => rfl); (case d => rfl))
      | (refine' bd KX ?a ?l ?c ?k ?ga ?rd; (case a => k_is); (case l => k_is); (case c => k_is); (case k => k_is); (case ga => k_is); (case rd => k_is))
      | (refine' aH KX ?l ?e ?d ?nd; (case l => k_is); (case e => rfl); (case d => repeat' (first | exact trivial | refine ⟨⟨by kernel_rfl, by kernel_rfl, by kernel_rfl⟩, ?_⟩)); (case nd => kernel_rfl))
      | (refine' ⟨_, aT KX ?l ?d ?nd, ?r⟩; (case l => k_is); (case d => repeat' (first | exact trivial | refine ⟨⟨by kernel_rfl, by kernel_rfl, by kernel_rfl⟩, ?_⟩)); (case nd => kernel_rfl); (case r => (repeat' refine ⟨?_, ?_⟩); all_goals first | exact trivial | (dsimp only [C9]; refine' ⟨_, _, ?t, aW KX ?l ?v ?z, mg_of KX N ?a⟩; (case t => rfl); (case l => k_is); (case v => rfl); (case z => kernel_rfl); (case a => k_is))))
      | skip
    done
