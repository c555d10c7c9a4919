import PyProof.Rows.All
import Wide.All
import OpenK.AllK
import Wide.FinOn
import PyProof.EqAt
import PyProof.EqKinds
import PyProof.TupleCall
import KE.BitLaws
import Open.SpecLaws
import KE.OsHead
import KE.OsGo
import TfLines
import TaflGamesSpec
import PyWqacdb
import PyFlatLaws
import PyProof.StationsW
import PyProof.PassesOwn
import PyProof.ExcClass
import PyProof.ExcArgsOwn
import PyProof.ExcAttrAll.ValueError
import PyProof.ExcBaseAll.ValueError
import PyProof.InstStore
import PyProof.InstStoreFacts
import PyProof.RulesAs
import PyProof.ZipIter
import PyProof.EnumMake
import PyProof.Draws
import PyProof.TupleIter
import PyProof.StrBlock2
import PyProof.WalkInts
import PyProof.RulesTry
import PyProof.Rows.FStr
import PyProof.FString
import PyProof.StrLoop
import PySem.Challenge.RW_hallgames_s01_answers
set_option Elab.async false
set_option linter.all false
set_option maxRecDepth 100000
set_option maxHeartbeats 2000000
open Array renaming getElem?_setIfInBounds_ne->OR,length_toList->Zu,toList->Zv,getElem?_eq_getElem->ahx,getElem?_eq_none->ahy,getElem?_eq_some_iff->ahz,getElem?_toList->ahA,mem_toList_iff->ahB,replicate->ahC
open Bool renaming true->a9,false->aJ,eq_iff_iff->hM,false_ne_true->hX,and_eq_true->i8,false_eq_true->qa,noConfusion->qb,or_eq_true->sb,false_or->Dw,true_and->Dx,false_and->I2,or_true->OS,true_eq_false->Zw,and_eq_true_iff->ahD,and_false->ahE,or_false->ahF,true_or->ahG
open Classical renaming byContradiction->Zx
open Except renaming ok->xB,bind->ahH,error->ahI,map->ahJ
open Except.error renaming inj->al0
open Except.ok renaming inj->qc
open False renaming elim->hk
open ForInStep renaming yield->OT
open Int renaming toNat_natCast->tP,ofNat_le->ahK,toNat->ahL
open List renaming length_map->cW,length_append->df,mem_cons->dx,getElem?_eq_some_iff->ec,mem_cons_of_mem->ez,range->eA,getElem?_eq_getElem->f7,mem_map->fA,map_append->fH,getElem?_map->fP,length_cons->fQ,mem_range->fR,length_singleton->gu,append_nil->hN,replicate->hO,map_cons->i9,map_map->ix,mem_cons_self->iy,size_toArray->iS,mem_filter->j7,take_length->j8,mem_singleton->jL,length_take->k9,mem_append->kv,getElem?_append_left->kV,append_assoc->lA,take_of_length_le->lB,flatMap_cons->mO,length_drop->mP,mem_of_getElem?->mQ,cons_append->ow,mem_append_right->ox,getElem?_append_right->pz,filter_cons->qd,getElem?_eq_none->qe,length_set->qf,not_mem_nil->r7,find?_cons->sd,mem_append_left->se,getD_eq_getElem?_getD->tQ,length->tR,length_nil->tS,map_congr_left->tT,take_add_one->tU,filterMap_cons->vA,foldl_cons->vB,length_filter_le->vC,map_nil->vD,mem_filterMap->vE,all_eq_true->xC,contains_iff_mem->xD,find?_eq_none->xE,lookup->xF,range_succ->xG,take_append_of_le_length->xH,any_cons->A0,any_eq_true->A1,filter_append->A2,flatMap_append->A3,getD->A4,getElem?_drop->A5,getElem?_of_mem->A6,getElem?_set_ne->A7,lookup_cons->A8,mem_flatMap->A9,replicate_succ->Aa,take_append_drop->Ab,drop_drop->Dy,drop_of_length_le->Dz,drop_zero->DA,flatten_cons->DB,length_replicate->DC,mem_of_find?_eq_some->DD,nil_append->DE,pairwise_cons->DF,dropLast_concat->I3,drop_eq_getElem_cons->I4,ext_getElem?->I5,filter_congr->I6,filter_map->I7,filter_nil->I8,getElem?_set_self->I9,length_range->Ia,map_drop->Ib,of_mem_zip->Ic,sum_cons->Ie,all_cons->OU,contains_cons->OV,drop_left->OW,drop_succ_cons->OX,find?_some->OY,flatMap_nil->OZ,getElem?_take_of_lt->O_,length_filterMap_le->O',nodup_cons->P0,all_map->Zy,any_eq_false->Zz,exists_cons_of_ne_nil->ZC,filter_eq_nil_iff->ZD,findSome?_eq_none_iff->ZE,foldl->ZF,foldl_append->ZG,foldr_cons->ZH,forIn_nil->ZI,getElem?_toArray->ZJ,length_pos_iff->ZK,map->ZL,map_id->ZM,mem_map_of_mem->ZN,nodup_append->ZO,pairwise_lt_range->ZP,pairwise_map->ZQ,range_succ_eq_map->ZR,take_succ_cons->ZS,drop->ahO,dropLast_concat_getLast->ahP,drop_eq_nil_iff->ahQ,filterMap_append->ahR,filterMap_nil->ahS,find?_eq_some_iff_getElem->ahT,forIn_cons->ahU,getElem?_range->ahV,getElem?_replicate->ahW,getElem?_take->ahX,getElem_mem->ahY,length_dropLast->ahZ,map_take->ai0,nodup_nil->ai1,reverse_reverse->ai2,take->ai3,takeWhile_cons->ai4,toList_toArray->ai5,zip_cons_cons->ai6
open List.Pairwise renaming filterMap->ahM,imp_of_mem->ahN,and->al1,filter->al2,imp->al3
open List.cons renaming injEq->ZA
open Nat renaming le_refl->cO,le_trans->dC,zero_le->ek,ne_of_lt->gW,le_of_lt->hl,lt_of_lt_of_le->kW,lt_of_le_of_lt->lC,le_add_right->r8,lt_irrefl->r9,le_succ->sf,lt_or_ge->xI,min_eq_left->xJ,ne_of_gt->xK,le_of_eq->Ac,lt_succ_self->Ad,not_lt->Ae,add_zero->DG,min_le_right->DH,pos_of_ne_zero->DI,add_mul->Ig,lt_trans->Ih,add_le_add_left->P1,le_of_succ_le->P2,log2_le_self->P4,lt_succ_of_lt->P5,mod_lt->P6,add_assoc->ZT,add_sub_cancel_left->ZU,le_max_left->ZV,le_mul_of_pos_right->ZW,max_le->ZX,mul_assoc->ZY,mul_le_mul->ZZ,pow_succ->Z_,sub_self->Z',zero_add->a00,add_comm->ai7,add_le_add->ai8,eq_of_testBit_eq->ai9,le_add_left->aia,le_antisymm->aib,le_succ_of_le->aic,lt_of_not_le->aid,max_assoc->aie,mul_succ->aif,not_lt_zero->aih,pow_add->aii,succ_ne_self->aij
open Ne renaming symm->ed
open Option renaming some->B,none->aa,isSome_iff_exists->P7,map_some->P8,getD_none->aik,isSome_some->ail
open Option.some renaming inj->gX,injEq->al4
open Or renaming inl->sg,inr->Ii
open Prod renaming fst->a01
open PyFlat renaming put->hY,putRows->jx,put1->Ij,putRow->Ik,told->a02,played->aim
open PyProof renaming noPylong_small->ais
open PyProof.Rows renaming envOfC->fB,IntsAre->sh,boot_ord->vF,AllBare->xM,IsTup->DJ,callWith_type1->DK,Call_->Il,Constant_none->a03,boot_max->a04,boot_str->a05,iadd_int->ain,lt_int->aio,slot_tupleiter_next->aip,subscriptTail->aiq,subscriptTail_builtinR->air,callWith_builtin1->al5,join_list->al6,join_tuple->al7,notIn_str->al8,sortedAll_at->al9,sortedAll_old->ala,sorted_ints->alb
open PySem renaming Addr->I,Str->a8,Value->ae,Shared->ay,wpAny->b8,model->bq,Heap->br,wpAny_bind->bC,Stmt->bH,World->bI,Obj->bJ,Expr->bP,Program->bQ,sizeLine->cM,Around->d9,Env->eB,wpAny_pure->eC,starEach->fC,Sem->hQ,Scope->hZ,boot_len->ia,cellsFrom->ib,rawInt->iz,Tok->jy,wpAny_field->jz,FuncData->ka,compEnvC->ky,backTo->lD,argBest->md,codeAny->me,mainGlobals->mf,wpAny_mono->mg,call->mU,compareOp->mV,NameKind->nG,wpAny_loadPart_at->nI,mem_of_lookup->oA,excClassObj->pA,pyNext->pB,typeLookup->pC,rule->qh,field->rb,holding->rd,wpAny_holding->rf,wpAny_passesOwn->rg,wpAny_standAt->rh,assignEach->sk,binaryOp->sl,swapsWith->sm,Model->tW,backToKw->tZ,cLine->t_,keywordEach->u0,noteFrame->u1,pushCells->u2,standAt->u3,sysModules->u4,wpAny_setField->u5,wpAny_truthy_bool->u6,Builtin->vG,Params->vJ,Result->vK,codeAny_mono->vN,getMethod->vO,wpAny_Call_Name_kw->vP,wpAny_execs_nil->vQ,wpAny_seqItems->vR,BindsTo->xN,CmpOp->xP,assign->xT,atKey->xU,attributeBase->xV,bindC->xW,bindL->xX,callWith->xY,intItems->xZ,notedBy->x_,raiseStmt->x',wpAny_newObj_type->y0,IsPair->Ag,behindInMarks->Al,foldedSetIterable->Am,nsFind->An,seqItems?->Ao,setAttr->Ap,setFlight->Aq,sliceBounds->As,wpAny_call->Au,IsZip->DM,Within->DS,again->DT,bootBuiltins->DU,callerA->DV,compPost->DW,leaving->DX,pyIter->DY,tupleKind->DZ,valueAt->D_,wpAny_callSpecial?_slot->D',wpAny_call_entry->E0,wpAny_letGo->E3,wpAny_typeLookup_exc->E4,Drawn->Im,GenState->Io,IsEnum->Iq,Keyword->Ir,Operator->Iu,call_meets->IA,getAttr->IB,inplaceOp->IC,letOwnedTupleGo->ID,newExc->IE,pushCells_keeps->IF,raiseNew->IG,strIterType->IH,wpAny_isSubtype_exc->II,wpAny_pyIter_enum->IJ,wpAny_pyIter_tuple->IK,DictEntry->Pe,IsRangeIter->Pj,codeAny_builtin->Pu,firstArgMember->Pw,plainId_quiet->Px,sizeLine_eq->Py,typeIs_str->Pz,wpAny_pyIter_zip->PA,wpAny_rule->PB,wpAny_tryCatch->PC,PassesOwn->a0j,ZipApart->a0s,arm_exec_Try->a0t,bindArgs->a0u,builtinsNs->a0v,codeAny_call_function->a0w,codeAny_func->a0x,codeAny_handlers_test->a0y,comprehension->a0z,handleBy->a0A,isInstance->a0B,isSubtype_stop->a0C,recursionLimit->a0D,richCompare->a0E,seqIndex_of->a0F,setField->a0G,storeName->a0H,typeIs_int->a0I,wpAny_Name->a0J,wpAny_attempt->a0K,wpAny_excMatches_sub_self->a0L,wpAny_execs_cons->a0M,wpAny_handleBy_cons->a0N,wpAny_isInstance->a0O,wpAny_nameGoes->a0P,wpAny_newFunctionEnv_cells->a0Q,wpAny_of_eq->a0R,wpAny_pyIter_list->a0S,wpAny_setField_rec->a0T,wpAny_throw->a0U,wpAny_tryStmt_except->a0V,wpAny_updateSeq->a0W,arm_exec_Raise->aj7,assignInOrder->aj8,builtinLookup_eq_fast->aj9,checkBuiltinCall->aja,codeAny_call_builtin->ajb,codeAny_compStart_list->ajc,codeAny_forLoop_any->ajd,codeAny_handlers_suite_as->aje,evalPart_none->ajf,eval_ListComp->ajg,intBits_le_64->ajh,newFunctionEnv->aji,passOn->ajj,pastItsLine_dict->ajk,plainObj_wpAny_Assign_Attribute->ajl,slot_list_getitem->ajm,slot_listiter_next->ajn,tupleKind_room_in1->ajo,typeLookup_type->ajp,wpAny_Assign_Name->ajq,wpAny_assign_Name->ajr,wpAny_comprehension_free->ajs,wpAny_handled->ajt,wpAny_isTrue_Compare1->aju,wpAny_letOwnedTupleGo_enum->ajv,wpAny_letOwnedTupleGo_zip->ajw,wpAny_loadName_cell->ajx,wpAny_loadName_local->ajy,wpAny_lookBehind->ajz,wpAny_onRaise->ajA,wpAny_pyIter_ascii->ajB,wpAny_pyIter_range->ajC,wpAny_pyIter_rangeiter->ajD,wpAny_pyIter_tupleiter->ajE,wpAny_pyNext_range_end->ajF,wpAny_pyNext_tuple_item->ajG,wpAny_pyNext_zip_item->ajH
open PySem.Around renaming under->a06,under_plainId->a07
open PySem.AutoSeq1 renaming wpAny_loadPart'->P9
open PySem.Builtin renaming iter->fj,bitAnd->a0a
open PySem.Builtin.Builtins renaming bindParams->ait
open PySem.Builtin.List renaming listTooLong->Pa
open PySem.Builtin.Range renaming rangeSize->a08,small->alc
open PySem.Builtin.SmallTypes renaming nextOf->xO,ownedTupleIsFree->aiu
open PySem.Builtin.Str renaming strSliceIndices->vH,tooLong->a09
open PySem.Builtin.Tuple renaming tupleCompareSizes->ald
open PySem.Calls renaming callWith_builtin->Pb,spliced_cons->Pc,evalArgs_plain->a0b,spliced_nil->a0c,Name_function_global->aiv
open PySem.Challenge renaming pw_hallgames_s01_answers->ale,rw_hallgames_s01_answers->alf
open PySem.CmpOp renaming In->aiw,NotIn->aix
open PySem.Code renaming isFrame->a0d,frames->aiy,quiet_builtin->aiz
open PySem.Data renaming seq->Pd,dict->aiA
open PySem.EntryCells renaming newEntry->aiB
open PySem.EqMixed renaming eq_bool_str->alg,eq_int_str->alh,eq_str_bool->ali,eq_str_int->alj,ne_bool_str->alk,ne_int_str->alm,ne_str_bool->aln,ne_str_int->alo
open PySem.EqNone renaming eq_bool_none->alp,eq_int_none->alq,eq_none_bool->alr,eq_none_int->als,eq_none_none->alu,eq_none_str->alv,eq_str_none->alw,ne_bool_none->alx,ne_int_none->aly,ne_none_bool->alz,ne_none_int->alA,ne_none_none->alB,ne_none_str->alC,ne_str_none->alD
open PySem.F renaming plainAttrs_list->oy,slot_list_append->tV,type_list_append->vI,plain_min_loop->Af,slot_list_extend->Pf,slot_list_pop->Pg,slot_tuple_iterator_next->Ph,slot_dict_get->a0e,type_list_extend->a0f,type_list_pop->a0g,args_dict_get_3->aiC,entry_dict_get->aiD,excBase_ValueError->aiE,slot_int_rmul->aiF,slot_str_ascii_iterator_next->aiG,slot_zip_next->aiH
open PySem.Heap renaming lt_size->dF,get?_push_of_some->e9,get?_push_size->hP,size_push->mR,get?_update_other->nF,get?_update_self->ra,SameBut->DL,ExtBut->Ip,get?_update_ne->aiK
open PySem.Heap.IsSliceOf renaming new->alE
open PySem.Heap.Ns1 renaming of_empty->aiI
open PySem.Heap.SameBut renaming update->aiJ
open PySem.IsRange renaming new->aiL
open PySem.NameKind renaming free->DN,cell->a0h
open PySem.Obj renaming mapFields->kb,data_mapFields->tX,isFreed_of_fields->Ah,mapSeq->It,cls_mapFields->Pk
open PySem.Paired renaming length->a0i,snoc->aiM
open PySem.PassesOwn renaming never->oz,leaving->Ai
open PySem.SeqAt renaming EqAt->a0k
open PySem.SeqAt.EqAt renaming int_int->aiN,int_str->aiO,str_int->aiP,bool_bool->alF,bool_int->alG,bool_none->alH,bool_str->alI,int_bool->alJ,int_none->alK,none_bool->alL,none_int->alM,none_str->alN,same->alO,str_bool->alP,str_none->alQ,str_str->alR
open PySem.Str renaming ofString->mS,empty->Aj,join->a0l
open PySem.StrLaws renaming sliceText->DO,occ_head->aiQ,found_one->alS,sliceText_nat->alT,strSliceIndices_plain->alU
open PySem.Txt renaming find->DP,join->DQ
open PySem.Value renaming ref->dM,none->eK,bool->mT,type->tY,int->vL,builtin->Iv,str->Pl,bytes->aiR,float->aiS,isInt->aiT,isStrOf->aiU
open PySem.Value.type renaming inj->aiV
open PySem.W renaming Frag->bj,WData->j9,mg_of->kX,keepIn->nH,findIn->qg,fnOf->si,mg_none_of->sj,emptyDict->vM,WellAll->xQ,callWith_K->xR,instObj->xS,codeIn->Ak,isFn->Iy,plainGet->Iz,cellsFrom_some->Po,hasDictIn->Pp,lookIn->Pq,methodCall_KW->Pr,nsIn->Pt,codeRec_of->a0m,makesIn->a0n,methodObj->a0o,plainGet_of->a0p,plainOver->a0q,takerIn->a0r,WRecords->aiY,WalkOS->aiZ,callWith_K0->aj0,handedIn->aj1,ktu_apart->aj2,length_le_weightAllW->aj3
open PySem.W.Codec renaming encAll->DR,app->Iw,denoteAll->Pm,withinAll->aiW
open PySem.W.Looks renaming here->alV
open PySem.W.WData renaming weightAll->Pn,int->aiX
open PySem.Walks renaming list->aj4,range->aj5
open PySem.Within renaming cons->aj6
open PyWqacdb renaming answers_asked->IL,answers->PD,whole->PE,calls->a0X
open Sum renaming inl->y1,inr->y2
open Tafl renaming Bytes->aS,common->cc,prefix_->dt,lit->eu,cellName->eD,Cur->eP,Rules->eW,Pos->gp,ascii->hn,says->ho,WAYS->hy,LF->kY,Piece->kZ,STRIDE->mh,judge->mi,endLine->mW,word->mX,rowIn->nJ,Answer->oB,rowLine->oC,rowsIn->oD,some_->oE,grammar->pD,setFrom->pE,tells->pF,nameIn->qi,wrongs->ri,cellsIn->u7,digitsOf->u9,number->ua,pick->ub,Ending->vS,begins->y7,numberFrom->y8,Kind->E5,isLetter->Ea,sooner->Eb,HOW->IM,TAKEN->IU,WHO->IV,isDigit->IW,oneOf->IX,openEnds->IY,endingNo->PL,fault->PM,kindSign->PN,pieceByte->PO,pieceSign->PQ,ENMITY->a0Z,asInts->a14,hates->ajS
open Tafl.Answer renaming nums->ajI
open Tafl.Cur renaming next->a0Y
open Tafl.Game renaming none_->a10
open Tafl.Item renaming nums->a11
open Tafl.Kind renaming wall->E6
open Tafl.Piece renaming none->E7,king->PF,hunter->a12,man->ajJ
open Tafl.Pos renaming on->y3,shifted->PG
open Tafl.Rules renaming kingWay->y4,manWay->y5,overOf->y6,overBy->E8,readMove->E9,ended->IP,free->IQ,over->IS,rowOf->IT,against->PH,kindAt->PI,kings->PJ,winner->PK,standing->a13,asWritten->ajK,lines->ajL,moves->ajM,movesIn->ajN,neighbours->ajO,next->ajP,seats->ajQ,seen->ajR,helps->alW,line->alX,onGoal->alY
open TaflGames renaming step->fk,State->ja,Play->jM,toldMade->qj,isName->rj,start->vT,moved->y9,Call->Ec,endingOf->PR
open TaflGamesNeutral renaming callOf->vU,step->Ed,asked1->a15,bytesOf->ajT,asked->alZ
open True renaming intro->Av
open UInt8 renaming ofNat->mY,toNat->ya,toNat_inj->a16
def aL:=@if_neg
def aZ:=@if_pos
def e3:=@of_decide_eq_true
def eE:=@decide_eq_true
def f_:=@congrArg
def gP:=@decide_eq_false
def h_:=@beq_iff_eq
def jA:=@if_false
def jB:=@if_true
def mj:=@decide_eq_true_iff
def nK:=@eq_false_of_ne_true
def qk:=@or_false
def yb:=@not_or
def Aw:=@false_and
def Ee:=@beq_eq_false_iff_ne
def Ef:=@decide_eq_decide
def PS:=@beq_self_eq_true
def PT:=@true_and
universe u
def Y{α:Sort u}{a:α}:a=a:=rfl
namespace L2
open PySem PySem.Spec PyProof.Rows
theorem g7:1<=cM:=by decide
theorem nL:2<=cM:=by decide
theorem IZ:3<=cM:=by decide
theorem ql:1<1000:=by decide
theorem so:2<1000:=by decide
theorem PU:3<1000:=by decide
theorem PV:4<1000:=by decide
theorem Ax:5<1000:=by decide
theorem I_:6<1000:=by decide
theorem pG:15<1000:=by decide
abbrev Key:=Sum Int a8
def yc:Key->ae->Bool
 |.inl k,v=>aiT k v
 |.inr x,v=>aiU x v
def a17(w:bI):Key->Int
 |.inl k=>hashInt k
 |.inr x=>hashStr w x
theorem sq:∀{k:Key}{v:ae},yc k v=a9->(∃i t,k=y1 i/\v=vL i t)∨(∃x t,k=y2 x/\v=Pl x t)
 |.inl i,v,h=>by obtain⟨t,e⟩:=Value.isInt_shape (k:=i) (v:=v) h;exact .inl ⟨i,t,Y,e⟩
 |.inr x,v,h=>by obtain⟨t,e⟩:=Value.isStrOf_shape (x:=x) (v:=v) h;exact .inr ⟨x,t,Y,e⟩
theorem a18(i:Int)(t:jy):yc (.inl i) (.int i t)=a9:=by simp[yc,aiT]
theorem a19(x:a8)(t:jy):yc (.inr x) (.str x t)=a9:=by simp[yc,aiU]
theorem a1a(a b:Int):decide ((y1 a:Key)=y1 b)=(a==b):=by
 by_cases e:a=b
 .subst e;simp
 have h:¬(y1 a:Key)=y1 b:=λq=>e (Sum.inl.inj q);rw[gP h];exact(Ee.mpr e).symm
theorem a1b(a b:a8):decide ((y2 a:Key)=y2 b)=decide (a=b):=by
 by_cases e:a=b
 .subst e;simp
 have h:¬(y2 a:Key)=y2 b:=λq=>e (Sum.inr.inj q);rw[gP h,gP e]
theorem a1c(a:Int)(b:a8):decide ((y1 a:Key)=y2 b)=aJ:=gP (λq=>nomatch q)
theorem a1d(a:a8)(b:Int):decide ((y2 a:Key)=y1 b)=aJ:=gP (λq=>nomatch q)
def mZ(prog:bQ)(w:bI):PySem.KeyKind prog w Key where
 is:=yc
 hash:=a17 w
 inj:=λv a b bf a0=>by
  obtain⟨i,t,rfl,rfl⟩|⟨x,t,rfl,rfl⟩:=sq bf
  .obtain⟨j,u,rfl,e⟩|⟨y,u,rfl,e⟩:=sq a0
   .injection e with aO _;rw[aO]
   exact nomatch e
  obtain⟨j,u,rfl,e⟩|⟨y,u,rfl,e⟩:=sq a0
  .exact nomatch e
  injection e with aO _;rw[aO]
 byValue:=λk v h=>by rcases sq h with⟨i,t,rfl,rfl⟩|⟨x,t,rfl,rfl⟩<;>rfl
 pyHash:=λbk h=>by
  obtain⟨i,t,rfl,rfl⟩|⟨x,t,rfl,rfl⟩:=sq bk
  .exact wpAny_pyHash_int h
  exact wpAny_pyHash_str h
 eqBool:=λbz bk h=>by
  obtain⟨i,t,rfl,rfl⟩|⟨x,t,rfl,rfl⟩:=sq bz
  .obtain⟨j,u,rfl,rfl⟩|⟨y,u,rfl,rfl⟩:=sq bk
   .rw[a1a]at h;exact wpAny_eqBool_int h
   rw[a1c]at h;exact aiO i t y u _ _ _ _ h
  obtain⟨j,u,rfl,rfl⟩|⟨y,u,rfl,rfl⟩:=sq bk
  .rw[a1d]at h;exact aiP x t j u _ _ _ _ h
  rw[a1b]at h;exact wpAny_eqBool_str h
 «strs»:=λk x t v h=>by
  obtain⟨i,u,rfl,e⟩|⟨y,u,rfl,e⟩:=sq h
  .exact nomatch e
  injection e with aO _;subst aO;cases v<;>rfl
theorem a1e(prog:bQ)(w:bI)(i:Int)(t:jy):(mZ prog w).is (.inl i) (.int i t)=a9:=a18 i t
theorem a1f(prog:bQ)(w:bI)(x:a8)(t:jy):(mZ prog w).is (.inr x) (.str x t)=a9:=a19 x t
inductive V where
 |bS|c1 (b:Bool)|int (i:Int)|str (x:a8)|lE (b:Array UInt8)|Ay (b:UInt64)|ref (a:I)|ty (n:String)
 deriving DecidableEq
def RelV:V->ae->Prop
 |.bS,u=>u=eK
 |.c1 b,u=>u=mT b
 |.int i,u=>∃t,u=vL i t
 |.str x,u=>∃t,u=Pl x t
 |.lE b,u=>∃t,u=aiR b t
 |.Ay b,u=>∃t,u=aiS b t
 |.ref a,u=>u=dM a
 |.ty n,u=>u=tY n
abbrev cB:List V->List ae->Prop:=Paired RelV
variable{xs:List V}{us:List ae}
theorem cB.length(r:cB xs us):xs.length=us.length:=a0i r
theorem cB.get:∀{xs:List V}{us:List ae}{i:Nat}{x:V},cB xs us->xs[i]? =B x->∃u,us[i]? =B u/\RelV x u
 |_,_,_,_,.nil,e=>by simp at e
 |_,_,0,_,.cons r _,e=>by simp at e;subst e;exact⟨_,Y,r⟩
 |_,_,i+1,x,.cons _ t,e=>by obtain⟨u,O,a5⟩:=cB.get (i:=i) (x:=x) t (by simpa using e);exact⟨u,by simpa using O,a5⟩
variable{u:ae}
theorem cB.set{x:V}(r:RelV x u):∀{xs:List V}{us:List ae}(i:Nat),cB xs us->cB (xs.set i x) (us.set i u)
 |_,_,_,.nil=>.nil
 |_,_,0,.cons _ t=>.cons r t
 |_,_,i+1,.cons q t=>.cons q (cB.set r i t)
theorem cB.append:∀{xs ys:List V}{us di:List ae},cB xs us->cB ys di->cB (xs++ys) (us++di)
 |_,_,_,_,.nil,s=>s
 |_,_,_,_,.cons r t,s=>.cons r (cB.append t s)
theorem cB.take:∀{xs:List V}{us:List ae}(n:Nat),cB xs us->cB (xs.take n) (us.take n)
 |_,_,0,_=>.nil
 |_,_,_+1,.nil=>.nil
 |_,_,n+1,.cons r t=>.cons r (cB.take n t)
theorem cB.drop:∀{xs:List V}{us:List ae}(n:Nat),cB xs us->cB (xs.drop n) (us.drop n)
 |_,_,0,r=>r
 |_,_,_+1,.nil=>.nil
 |_,_,n+1,.cons _ t=>cB.drop n t
def jN:Option V->Option ae->Prop
 |some v,B u=>RelV v u
 |none,aa=>True
 |_,_=>False
def kz{fl:Type}:List (fl×V)->List (fl×ae)->Prop:=Paired λ(p:fl×V)(q:fl×ae)=>p.1=q.1/\RelV p.2 q.2
def fI:Key->V
 |.inl i=>.int i
 |.inr x=>.str x
inductive dy where
 |lst (xs:List V)
 |tup (xs:List V)
 |oF (aW:List (Key×V))|g8 (aW:List (List Key×V))
 |set (S:Int->Bool) (n:Nat)
 |ins (C a3:I) (fs:List (a8×V))
 |own (x:I)
 |I' (fs:List (a8×V))
 |met (f x:I)
 |J0 (lo hi:Int)
 |kA (o:bJ) (u:dy)
 |vV (aK:Array ae)
 |ext (yd:br->Prop)
abbrev ak:=I->Option dy
def av(H:ak)(a:I)(o:dy):ak:=λb=>if b=a then B o else H b
variable{H:ak}{a:I}{o:dy}
theorem b0:av H a o a=B o:=by unfold av;rw[aZ Y]
variable{b:I}
theorem aN(h:b≠a):av H a o b=H b:=by unfold av;rw[aL h]
theorem iT{u:dy}:av (av H a o) a u=av H a u:=by funext b;unfold av;split<;>rfl
theorem J1{u:dy}(h:H a=B o)(h':H b=B u)(d:o≠u):a≠b:=by intro e;subst e;rw[h]at h';exact d (gX h')
theorem cU(h:H a=B o)(h':H b=aa):a≠b:=by intro e;subst e;rw[h]at h';cases h'
section
variable(P:bQ)(w:bI)
def h7(H:ak)(h:br)(a:I):dy->Prop
 |.lst xs=>xs.length<=cM/\∃(b6:List ae)(n:Nat),cB xs b6/\h.get? a=B {cls:=.type "list",data:=.seq b6.toArray n}
 |.tup xs=>xs.length<=cM/\∃b6:List ae,cB xs b6/\DJ h a b6.toArray
 |.oF aW=>aW.length<=cM/\(a==u4)=aJ/\∃vs,kz aW vs/\h.DictOf (mZ P w) a vs
 |.g8 aW=>aW.length<=cM/\(a==u4)=aJ/\∃xs:List (List Key×I×ae),
   Paired (λ(p:List Key×V)(q:List Key×I×ae)=>p.1=q.1/\H q.2.1=B (.tup (p.1.map fI))/\RelV p.2 q.2.2) aW xs/\∃o b7 fS,h.get? a=B o/\o.ExactDict/\o.data=.dict b7 fS/\b7.toList=xs.map (entryOfKey (DZ (mZ P w)))/\(xs.map (·.1)).Nodup
 |.set S n=>h.SetOf (intKind P w) a S n
 |.ins C a3 fs=>H a3=B (.own a)/\fs.length<=1000/\a3≠a/\h.get? a=B (xS C a3)/\
   ∃mA,h.Ns1 a3 mA/\(∀f,jN (fs.lookup f) (mA f))/\DS mA (fs.map (·.1))
 |.own _=>∃o,h.get? a=B o
 |.I' fs=>∃mA,h.Ns1 a mA/\∀f,jN (fs.lookup f) (mA f)
 |.J0 lo hi=>∃t u v,h.get? a=B {cls:=.type "range",data:=.fields #[.int lo t,.int hi u,.int 1 v]}
 |.kA o u=>h.get? a=B o/\h7 H h a u
 |.vV aK=>h.get? a=B {cls:=.none,data:=.fields aK}
 |.met f x=>h.get? a=B (a0o (.ref f) (.ref x))
 |.ext yd=>yd h/\(∃o,h.get? a=B o)/\∀O a5:br,yd O->(∀o,O.get? a=B o->a5.get? a=B o)->yd a5
def f'(H:ak)(h:br):Prop:=∀a o,H a=B o->h7 P w H h a o
end
variable{P:bQ}{w:bI}{H':ak}{h h':br}
theorem h7.lt(x:h7 P w H h a o):a<h.objs.size:=by cases o with|lst xs=>obtain⟨_,_,_,_,e⟩:=x;exact dF e|tup xs=>obtain⟨_,_,_,p⟩:=x;exact p.lt|oF aW=>obtain⟨_,_,_,_,o,_,_,e,_⟩:=x;exact dF e|g8 aW=>obtain⟨_,_,_,_,o,_,_,e,_⟩:=x;exact dF e|set S n=>obtain⟨o,_,_,_,e,_⟩:=x;exact dF e|ins C a3 fs=>obtain⟨_,_,_,e,_⟩:=x;exact dF e|own y=>obtain⟨_,e⟩:=x;exact dF e|I' fs=>obtain⟨_,⟨_,_,_,e,_⟩,_⟩:=x;exact dF e|J0 lo hi=>obtain⟨_,_,_,e⟩:=x;exact dF e|kA cE u=>obtain⟨e,_⟩:=x;exact dF e|vV aK=>exact dF (show h.get? a=B _ from x)|met f y=>exact dF (show h.get? a=B _ from x)|ext yd=>obtain⟨_,⟨_,e⟩,_⟩:=x;exact dF e
theorem Paired.J2{bu hp:Type}{F aj:bu->hp->Prop}:∀{PW:List bu}{PX:List hp},Paired F PW PX->(∀a b,F a b->aj a b)->Paired aj PW PX
 |_,_,.nil,_=>.nil
 |_,_,.cons r t,f=>.cons (f _ _ r) (Paired.J2 t f)
theorem h7.rk(x:h7 P w H h a o)(k:∀b u,(b=a∨H b=B (.own a))->h.get? b=B u->h'.get? b=B u)(aU:∀b,H b=B (.own a)->H' b=B (.own a))(ba:∀b xs,H b=B (.tup xs)->H' b=B (.tup xs)):h7 P w H' h' a o:=by induction o with|lst xs=>obtain⟨z,b6,n,r,e⟩:=x;exact⟨z,b6,n,r,k _ _ (.inl Y) e⟩|tup xs=>obtain⟨z,b6,r,cE,e,c⟩:=x;exact⟨z,b6,r,cE,k _ _ (.inl Y) e,c⟩|oF aW=>obtain⟨z,y,vs,r,cE,b7,fS,e,c⟩:=x;exact⟨z,y,vs,r,cE,b7,fS,k _ _ (.inl Y) e,c⟩|g8 aW=>obtain⟨z,y,xs,r,cE,b7,fS,e,c⟩:=x;exact⟨z,y,xs,Paired.J2 r λp q z=>⟨z.1,ba _ _ z.2.1,z.2.2⟩,cE,b7,fS,k _ _ (.inl Y) e,c⟩|set S n=>obtain⟨cE,b7,fS,t,e,c⟩:=x;exact⟨cE,b7,fS,t,k _ _ (.inl Y) e,c⟩|ins C a3 fs=>obtain⟨d,z,ne,e,mA,⟨od,b7,fS,aT,c⟩,r⟩:=x;exact⟨aU _ d,z,ne,k _ _ (.inl Y) e,mA,⟨od,b7,fS,k _ _ (.inr d) aT,c⟩,r⟩|own y=>obtain⟨cE,e⟩:=x;exact⟨cE,k _ _ (.inl Y) e⟩|I' fs=>obtain⟨mA,⟨od,b7,fS,e,c⟩,r⟩:=x;exact⟨mA,⟨od,b7,fS,k _ _ (.inl Y) e,c⟩,r⟩|J0 lo hi=>obtain⟨t,u,v,e⟩:=x;exact⟨t,u,v,k _ _ (.inl Y) e⟩|kA cE u ih=>obtain⟨e,q⟩:=x;exact⟨k _ _ (.inl Y) e,ih q⟩|vV aK=>have e:h.get? a=B {cls:=.none,data:=.fields aK}:=x;show h'.get? a=B {cls:=.none,data:=.fields aK};exact k a _ (.inl Y) e|met f y=>have e:h.get? a=B (a0o (.ref f) (.ref y)):=x;show h'.get? a=B (a0o (.ref f) (.ref y));exact k a _ (.inl Y) e|ext yd=>obtain⟨p,⟨o,e⟩,st⟩:=x;exact⟨st _ _ p λo q=>k _ _ (.inl Y) q,⟨o,k _ _ (.inl Y) e⟩,st⟩
theorem f'.lt(x:f' P w H h)(e:H a=B o):a<h.objs.size:=(x a o e).lt
theorem f'.fresh(x:f' P w H h)(e:h.objs.size<=a):H a=aa:=by cases q:H a with|none=>rfl|some u=>exact absurd (kW (x.lt q) e) (r9 _)
theorem f'.kept(x:f' P w H h)(k:∀b u,h.get? b=B u->h'.get? b=B u):f' P w H h':=λa o e=>(x a o e).rk (λb u _ q=>k b u q) (λ_ q=>q) λ_ _ q=>q
theorem f'.laid(x:f' P w H h)(k:∀b u,h.get? b=B u->h'.get? b=B u)(ar:h.objs.size<=a)(new:h7 P w (av H a o) h' a o):f' P w (av H a o) h':=λb u e=>by
 have aH:=x.fresh ar;by_cases a0:b=a
 .subst a0;rw[b0]at e;cases e;exact new
 rw[aN a0]at e;exact(x b u e).rk (λc v _ q=>k c v q) (λc q=>by rw[aN (cU q aH)];exact q) λc _ q=>by rw[aN (cU q aH)];exact q
def f9(H:ak)(a:I)(u:dy):Prop:=H a=B u∨∃o,H a=B (.kA o u)
theorem f9.ok{u:dy}(r:f9 H a u)(x:f' P w H h):h7 P w H h a u:=by
 obtain r|⟨o,r⟩:=r
 .exact x a u r
 obtain⟨_,q⟩:=x a _ r;exact q
def rl:Option dy->Prop
 |some (.lst _)=>True
 |some (.oF _)=>True
 |some (.g8 _)=>True
 |some (.set _ _)=>True
 |some (.ins _ _ _)=>True
 |some (.ext _)=>True
 |_=>False
section
variable{x e:I}{gY:dy}
theorem f'.write(ok:f' P w H h)(iU:rl (H x))(aF:e=x∨H e=B (.own x))(k:∀b u,b≠e->h.get? b=B u->h'.get? b=B u)(ye:∃u,h'.get? e=B u)(new:h7 P w (av H x gY) h' x gY):f' P w (av H x gY) h':=λb u q=>by
 have PY:∀c y,H c=B (.own y)->c≠x:=λc y r z=>by subst z;rw[r]at iU;exact iU
 have a1g:∀c xs,H c=B (.tup xs)->c≠x:=λc xs r z=>by subst z;rw[r]at iU;exact iU
 by_cases a0:b=x
 .subst a0;rw[b0]at q;cases q;exact new
 rw[aN a0]at q;by_cases vW:b=e
 .have eQ:H b=B (.own x):=by
   obtain z|z:=aF
   .exact absurd (vW.trans z) a0
   rw[vW];exact z
  rw[q]at eQ;cases eQ;obtain⟨v,bk⟩:=ye;exact⟨v,by rw[vW];exact bk⟩
 refine(ok b u q).rk (λc v a7 r=>k c v ?_ r) (λc r=>by rw[aN (PY c b r)];exact r) λc xs r=>by rw[aN (a1g c xs r)];exact r
 obtain rfl|a7:=a7
 .exact vW
 rintro rfl;obtain z|z:=aF
 .exact PY c b a7 z
 rw[a7]at z;cases z;exact a0 Y
end
structure iV (fs ex:List I) (H H':ak) (h h':br):Prop where
 keep:∀b o,h.get? b=B o->H b=aa->b∉fs->b∉ex->h'.get? b=B o
 slot:∀b o,h.get? b=B o->H b=aa->b∈fs->b∉ex->∃aV,h'.get? b=B {o with slots:=aV}
 free:∀b o,h.get? b=B o->H b=aa->b∉ex->H' b=aa
 there:∀b o,h.get? b=B o->b∉ex->∃gY,h'.get? b=B gY
 sr:∀b xs,H b=B (.tup xs)->H' b=B (.tup xs)
 rm:∀b o u,H b=B (.kA o u)->H' b=B (.kA o u)
 su:∀b aK,H b=B (.vV aK)->∃more,H' b=B (.vV (aK++more))
section
variable{fs gZ ex ajU:List I}{ai au:ak}{O a5:br}{x e:I}
theorem iV.any(u:iV fs ex H ai h O){cE:bJ}(q:h.get? b=B cE)(n:H b=aa)(ag:b∉ex):∃aV,O.get? b=B {cE with slots:=aV}:=by
 by_cases a0:b∈fs
 .exact u.slot b cE q n a0 ag
 exact⟨cE.slots,u.keep b cE q n a0 ag⟩
theorem iV.kept(k:∀b u,h.get? b=B u->h'.get? b=B u):iV fs ex H H h h':=
 ⟨λb cE q _ _ _=>k b cE q,λb cE q _ _ _=>⟨cE.slots,k b cE q⟩,λ_ _ _ n _=>n,λb cE q _=>⟨cE,k b cE q⟩,λ_ _ q=>q,λ_ _ _ q=>q,λ_ _ q=>⟨#[],by rw[q];simp⟩⟩
theorem iV.refl:iV fs ex H H h h:=iV.kept λ_ _ q=>q
theorem iV.laid(k:∀b u,h.get? b=B u->h'.get? b=B u)(ar:h.objs.size<=a)(aH:H a=aa):iV fs ex H (av H a o) h h' where
 keep:=λb u q _ _ _=>k b u q
 slot:=λb u q _ _ _=>⟨u.slots,k b u q⟩
 free:=λb u q n _=>by rw[aN (gW (kW (dF q) ar))];exact n
 there:=λb u q _=>⟨u,k b u q⟩
 sr:=λb xs q=>by rw[aN (cU q aH)];exact q
 rm:=λb u xs q=>by rw[aN (cU q aH)];exact q
 su:=λb _ q=>⟨#[],by rw[aN (cU q aH),q];simp⟩
theorem iV.write(iU:rl (H x))(aF:e=x∨H e=B (.own x))(k:∀b u,b≠e->h.get? b=B u->h'.get? b=B u)(ye:∃u,h'.get? e=B u):iV fs ex H (av H x o) h h':=by
 have ag:∀b,H b=aa->b≠x:=λb n z=>by subst z;rw[n]at iU;exact iU
 have a0:∀b,H b=aa->b≠e:=λb n z=>by
  subst z;obtain r|r:=aF
  .exact ag b n r
  rw[n]at r;cases r
 have hm:∀b u,H b=B u->¬rl (B u)->b≠x:=λb u q nm z=>by subst z;rw[q]at iU;exact nm iU
 refine⟨λb u q n _ _=>k b u (a0 b n) q,λb u q n _ _=>⟨u.slots,k b u (a0 b n) q⟩,λb u q n _=>by rw[aN (ag b n)];exact n,λb u q _=>?_,
  λb xs q=>by rw[aN (hm b _ q λz=>z)];exact q,λb u xs q=>by rw[aN (hm b _ q λz=>z)];exact q,λb _ q=>⟨#[],by rw[aN (hm b _ q λz=>z),q];simp⟩⟩
 by_cases vW:b=e
 .subst vW;exact ye
 exact⟨u,k b u vW q⟩
end
def vX(h:br)(H:ak):List I:=(eA h.objs.size).filter λa=>(H a).isSome
def sv(h:br)(H:ak):br:=PySem.W.hideAll h (vX h H)
theorem a1h(h:br)(H:ak):(sv h H).objs.size=h.objs.size:=PySem.W.hideAll_size _ _
theorem a1i{o:bJ}(e:h.get? b=B o)(n:H b=aa):(sv h H).get? b=B o:=
 PySem.W.hideAll_get _ e λhm=>by have q:(H b).isSome=a9:=(j7.mp hm).2;rw[n]at q;simp at q
theorem a1j{o:bJ}(e:(sv h H).get? b=B o):h.get? b=B o/\H b=aa:=by have d7:h.get? b=B o:=PySem.W.of_hideAll (vX h H) e;refine⟨d7,?_⟩;cases q:H b with|none=>rfl|some x=>have hm:b∈vX h H:=j7.mpr ⟨fR.mpr (dF d7),by simp[q]⟩;have z:(sv h H).get? b=aa:=PySem.W.hideAll_none (vX h H) hm;rw[z]at e;cases e
structure Mod (K:bj) (a6:a8->Option ae) (base:br):Prop where
 hR:K.In base
 glob:base.Ns mf a6
 blt:∃kc,base.Ns a0v kc/\∀x:a8,x≠"__name__"->kc x=DU x
 nolimit:base.NoLimit
structure bB where
 prog:bQ
 w:bI
 K:bj
 a6:a8->Option ae
 base:br
 A:d9
 N:List a8
 gv:ay
 Az:ak
 env:eB
 outer:List eB
 stack:List eB
 ex:List I
 fn:a8->Bool
 calm:Bool
 cZ:List (I×bJ)
 bN:ae->ay->Prop
def ml(l:List eB):List I:=l.filterMap (·.frame)
abbrev bB.fs(X:bB):List I:=ml X.outer
def yf(eX:hZ)(x:a8):Prop:=eX.names.lookup x=B .local∨eX.names.lookup x=B .cell∨eX.names.lookup x=B .free
def Loc(eX:hZ)(x:a8):Prop:=eX.names.lookup x=B .local∨eX.names.lookup x=B .cell
def Look(env:eB)(h:br)(m:a8->Option ae)(x:a8)(u:ae):Prop:=
 (env.kindOf x=B .local/\m x=B u)∨((env.kindOf x=B .cell∨env.kindOf x=B .free)/\∃c,env.cells.lookup x=B c/\h.IsCell c (B u))
structure bB.Ok (X:bB):Prop where
 mod:Mod X.K X.a6 X.base
 kind:X.env.scope.kind=.function
 glob:X.env.globals=mf
 blt:X.env.builtins=a0v
 above:X.gv.heap.objs.size<=X.env.locals
 inj:∀x y c,X.env.cells.lookup x=B c->X.env.cells.lookup y=B c->x=y
 has:∀x,(X.env.kindOf x=B .cell∨X.env.kindOf x=B .free)->∃c,X.env.cells.lookup x=B c
 sx:∀x c,X.fn x=a9->X.env.cells.lookup x=B c->X.gv.heap.objs.size<=c
 hd:X.calm=a9->X.A.handled=aa
 frames:X.A.frames=B X.stack
 uc:X.stack=X.outer∨(X.stack=X.env::X.outer/\X.env.frame=B X.env.locals)
 rn:∀b∈X.ex,b≠X.env.locals/\∀x c,X.env.cells.lookup x=B c->c≠b
 bs:∀b o,X.base.get? b=B o->X.gv.heap.get? b=B o/\X.Az b=aa
 mm:X.base.objs.size<=X.gv.heap.objs.size
 sy:∀b o,X.base.get? b=B o->b∉X.ex
 ro:∀b∈X.ex,b∉X.fs
 k_:X.gv.heap.FunFrames X.base X.outer
 oG:∀b∈X.fs,X.Az b=aa
structure Inv (X:bB) (a4:List (I×bJ)) (G:List (Option V)) (H:ak) (s:ay):Prop where
 ok:X.Ok
 os:s.os=X.gv.os
 bare:xM s.gens
 base:iV X.fs X.ex X.Az H X.gv.heap s.heap
 loc:∃m,s.heap.Ns X.env.locals m/\∀(i:Nat)(x:a8)(v:V),X.N[i]? =B x->G[i]? =B (B v)->yf X.env.scope x->∃u,RelV v u/\Look X.env s.heap m x u
 cell:∀x c,X.env.cells.lookup x=B c->∃v,s.heap.IsCell c v
 free:H X.env.locals=aa
 k':∀x c,X.env.cells.lookup x=B c->H c=aa
 pin:∀p∈X.cZ++a4,s.heap.get? p.1=B p.2/\H p.1=aa/\p.1≠X.env.locals/\p.1∉X.fs/\∀v,p.2.data≠ .cell v
 bR:f' X.prog X.w H s.heap
 len:G.length=X.N.length
variable{X:bB}{a4:List (I×bJ)}{s:ay}{t' i:Nat}{x:a8}{A:d9}{E:ae->ay->Prop}
section
variable{G:List (Option V)}
theorem bB.Ok.Eg(ok:X.Ok){o:bJ}(e:X.base.get? b=B o):b∉X.fs:=λa0=>by have:=(ok.k_.mem a0).1;rw[e]at this;cases this
theorem Inv.bs(D:Inv X a4 G H s):∀b o,X.base.get? b=B o->s.heap.get? b=B o/\H b=aa:=λb o e=>⟨D.base.keep b o (D.ok.bs b o e).1 (D.ok.bs b o e).2 (D.ok.Eg e) (D.ok.sy b o e),D.base.free b o (D.ok.bs b o e).1 (D.ok.bs b o e).2 (D.ok.sy b o e)⟩
theorem Inv.gD(D:Inv X a4 G H s):∀b o,X.base.get? b=B o->s.heap.get? b=B o:=λb o e=>(D.bs b o e).1
theorem Inv.mod(D:Inv X a4 G H s):Mod X.K X.a6 X.base:=D.ok.mod
theorem Inv.gQ(D:Inv X a4 G H s):X.K.In s.heap:=D.ok.mod.hR.keeps D.gD
theorem Inv.fr(D:Inv X a4 G H s):∃m,Fr X.base X.env.locals s.heap m:=
 let⟨m,aH,_⟩:=D.loc
 ⟨m,aH,D.gD,dC D.ok.mm D.ok.above⟩
theorem Inv.lt(D:Inv X a4 G H s):X.env.locals<s.heap.objs.size:=let⟨_,aH,_⟩:=D.loc;aH.lt
theorem Inv.l0(D:Inv X a4 G H s):X.gv.heap.objs.size<=s.heap.objs.size:=dC D.ok.above (hl D.lt)
theorem Inv.a1k(D:Inv X a4 G H s)(h:s.heap.objs.size<=a):a∉X.fs:=λa0=>by obtain⟨_,o,aU,_⟩:=D.ok.k_.mem a0;exact absurd (kW (dF aU) (dC D.l0 h)) (r9 _)
theorem Inv.ud(D:Inv X a4 G H s):∀x c,X.env.cells.lookup x=B c->c≠X.env.locals:=λx c e z=>by obtain⟨v,o,aU,hd⟩:=D.cell x c e;obtain⟨m,⟨_,_,_,mn,Eh,_⟩,_⟩:=D.loc;rw[z,mn]at aU;cases aU;rw[Eh]at hd;cases hd
theorem Inv.k_(D:Inv X a4 G H s):s.heap.FunFrames X.base X.outer:=by
 have all:∀(l:List eB),(∀b∈ml l,b∈X.fs)->X.gv.heap.FunFrames X.base l->s.heap.FunFrames X.base l:=by intro l;induction l with|nil=>intro _ _;trivial|cons env r ih=>intro ax aq;obtain⟨aA,⟨L,o,hf,aH,aU,hd⟩,ah⟩:=aq;have dg:L∈X.fs:=ax L (by unfold ml;rw[vA,hf];exact iy);obtain⟨_,e⟩:=D.base.slot L o aU (D.ok.oG L dg) dg λz=>D.ok.ro L z dg;exact⟨aA,⟨L,_,hf,aH,e,hd⟩,ih (λb a0=>ax b (by unfold ml;rw[vA,hf];exact ez _ a0)) ah⟩
 exact all X.outer (λ_ a0=>a0) D.ok.k_
theorem Inv.stack(D:Inv X a4 G H s):s.heap.FunFrames X.base X.stack:=by
 obtain e|⟨e,hf⟩:=D.ok.uc
 .rw[e];exact D.k_
 rw[e];obtain⟨m,aH,_⟩:=D.loc;refine .cons (by rw[D.ok.kind];decide) hf aH ?_ D.k_;exact Heap.get?_none_of_le (dC D.ok.mm D.ok.above)
theorem Inv.J3(D:Inv X a4 G H s):∀b∈ml X.stack,b∈X.env.locals::X.fs:=λb a0=>by
 obtain e|⟨e,hf⟩:=D.ok.uc
 .rw[e]at a0;exact ez _ a0
 rw[e]at a0;unfold ml at a0;rw[vA,hf]at a0;exact a0
theorem Inv.J4(D:Inv X a4 G H s):∀b∈ml X.stack,H b=aa:=λb a0=>by
 obtain e|a0:=dx.mp (D.J3 b a0)
 .rw[e];exact D.free
 obtain⟨_,o,aU,_⟩:=D.ok.k_.mem a0;exact D.base.free b o aU (D.ok.oG b a0) λz=>D.ok.ro b z a0
theorem Inv.step{g':Array Io}{d':Im}{ch:List I}(D:Inv X a4 G H s)(rp:∀b∈ch,(b∈X.ex∨X.gv.heap.objs.size<=b)/\b≠X.env.locals/\(∀x c,X.env.cells.lookup x=B c->c≠b)/\∀p∈X.cZ++a4,p.1≠b)(keep:∀b o,b≠X.env.locals->b∉X.fs->b∉ch->s.heap.get? b=B o->H b=aa->h'.get? b=B o)(slot:∀b o,b≠X.env.locals->b∈X.fs->b∉ch->s.heap.get? b=B o->H b=aa->∃aV,h'.get? b=B {o with slots:=aV})(free:∀b o,b∉ch->s.heap.get? b=B o->H b=aa->H' b=aa)(there:∀b o,b∉ch->s.heap.get? b=B o->∃gY,h'.get? b=B gY)(sr:∀b xs,H b=B (.tup xs)->H' b=B (.tup xs))(rm:∀b o u,H b=B (.kA o u)->H' b=B (.kA o u))(su:∀b aK,H b=B (.vV aK)->∃more,H' b=B (.vV (aK++more)))(ns:∀m,s.heap.Ns X.env.locals m->h'.Ns X.env.locals m)(bR:f' X.prog X.w H' h')(aI:xM g'):Inv X a4 G H' {s with heap:=h',gens:=g',drawn:=d',toks:=t'}:=by
 have PZ:∀b o,X.gv.heap.get? b=B o->b≠X.env.locals:=λb o e=>gW (kW (dF e) D.ok.above);have Ei:∀b o,X.gv.heap.get? b=B o->b∉X.ex->b∉ch:=λb o e ag a0=>by
  rcases(rp b a0).1 with z|z
  .exact ag z
  exact absurd (kW (dF e) z) (r9 _)
 have P_:∀x c,X.env.cells.lookup x=B c->∀v,s.heap.IsCell c v->h'.IsCell c v:=λx c e v ⟨o,aU,hd⟩=>by
  have AA:c∉ch:=λz=>(rp c z).2.2.1 x c e Y;by_cases a7:c∈X.fs
  .obtain⟨aV,q⟩:=slot c o (D.ud x c e) a7 AA aU (D.k' x c e);exact⟨_,q,hd⟩
  exact⟨o,keep c o (D.ud x c e) a7 AA aU (D.k' x c e),hd⟩
 refine⟨D.ok,D.os,aI,⟨λb o e n a0 ag=>?_,λb o e n a0 ag=>?_,λb o e n ag=>?_,λb o e ag=>?_,λb xs e=>sr b xs (D.base.sr b xs e),λb o xs e=>rm b o xs (D.base.rm b o xs e),λb aK e=>?_⟩,?_,λx c e=>?_,?_,λx c e=>?_,λp ar=>?_,bR,D.len⟩
 .exact keep b o (PZ b o e) a0 (Ei b o e ag) (D.base.keep b o e n a0 ag) (D.base.free b o e n ag)
 .obtain⟨aV,aO⟩:=D.base.slot b o e n a0 ag;obtain⟨a1l,aT⟩:=slot b _ (PZ b o e) a0 (Ei b o e ag) aO (D.base.free b o e n ag);exact⟨a1l,aT⟩
 .obtain⟨gY,aO⟩:=D.base.there b o e ag;exact free b gY (Ei b o e ag) aO (D.base.free b o e n ag)
 .obtain⟨gY,aO⟩:=D.base.there b o e ag;exact there b gY (Ei b o e ag) aO
 .obtain⟨hq,aO⟩:=D.base.su b aK e;obtain⟨nM,aT⟩:=su b _ aO;exact⟨hq++nM,by rw[aT,Array.append_assoc]⟩
 .obtain⟨m,aH,aq⟩:=D.loc;refine⟨m,ns m aH,λi x v aO aT dX=>?_⟩;obtain⟨u,r,l⟩:=aq i x v aO aT dX;refine⟨u,r,?_⟩;obtain l|⟨k,c,e,z⟩:=l
  .exact .inl l
  exact .inr ⟨k,c,e,P_ x c e _ z⟩
 .obtain⟨v,z⟩:=D.cell x c e;exact⟨v,P_ x c e v z⟩
 .obtain⟨m,⟨o,_,_,aU,_⟩,_⟩:=D.loc;exact free _ o (λz=>(rp _ z).2.1 Y) aU D.free
 .obtain⟨v,o,aU,hd⟩:=D.cell x c e;exact free c o (λz=>(rp c z).2.2.1 x c e Y) aU (D.k' x c e)
 obtain⟨e,n,ne,lF,d⟩:=D.pin p ar;have AA:p.1∉ch:=λz=>(rp p.1 z).2.2.2 p ar Y;exact⟨keep p.1 p.2 ne lF AA e n,free p.1 p.2 AA e n,ne,lF,d⟩
theorem Inv.un(D:Inv X a4 G H s)(u:iV X.fs [] H H' s.heap h')(bR:f' X.prog X.w H' h'):Inv X a4 G H' {s with heap:=h',toks:=t'}:=by obtain⟨m,⟨o,_,_,aU,r⟩,_⟩:=id D.loc;obtain⟨_,dg⟩:=u.any aU D.free (by simp);exact D.step (g':=s.gens) (d':=s.drawn) (ch:=[]) (λ_ z=>nomatch z) (λb o _ a0 _ e n=>u.keep b o e n a0 (by simp)) (λb o _ a0 _ e n=>u.slot b o e n a0 (by simp)) (λb o _ e n=>u.free b o e n (by simp)) (λb o _ e=>u.there b o e (by simp)) u.sr u.rm u.su (λ_ hm=>by obtain⟨_,J5,J6,mn,gq⟩:=hm;rw[aU]at mn;cases mn;exact⟨_,J5,J6,dg,gq⟩) bR D.bare
theorem Inv.call{g':Array Io}{d':Im}{ch:List I}(D:Inv X a4 G H s)(u:iV (ml X.stack) ch H H' s.heap h')(bR:f' X.prog X.w H' h')(aI:xM g')(rp:∀b∈ch,(b∈X.ex∨X.gv.heap.objs.size<=b)/\b≠X.env.locals/\(∀x c,X.env.cells.lookup x=B c->c≠b)/\∀p∈X.cZ++a4,p.1≠b):Inv X a4 G H' {s with heap:=h',gens:=g',drawn:=d',toks:=t'}:=by obtain⟨m,⟨o,_,_,aU,r⟩,_⟩:=id D.loc;obtain⟨_,dg⟩:=u.any aU D.free λz=>(rp _ z).2.1 Y;exact D.step (ch:=ch) rp (λb o dg a0 a7 e n=>u.keep b o e n (λz=>(dx.mp (D.J3 b z)).elim dg a0) a7) (λb o _ _ a7 e n=>u.any e n a7) (λb o a7 e n=>u.free b o e n a7) (λb o a7 e=>u.there b o e a7) u.sr u.rm u.su (λ_ hm=>by obtain⟨_,J5,J6,mn,gq⟩:=hm;rw[aU]at mn;cases mn;exact⟨_,J5,J6,dg,gq⟩) bR aI
theorem Inv.turned{a':I}(D:Inv X a4 G H s)(k:∀b o,b≠a'->s.heap.get? b=B o->h'.get? b=B o)(aH:H a'=aa)(dg:a'≠X.env.locals)(O:a'∈X.ex∨X.gv.heap.objs.size<=a')(a5:∀x c,X.env.cells.lookup x=B c->c≠a')(aG:∀p∈X.cZ++a4,p.1≠a'):Inv X a4 G H {s with heap:=h',toks:=t'}:=by
 have ue:∀b u,H b=B u->b≠a':=λb u e z=>by rw[z,aH]at e;cases e
 refine D.step (g':=s.gens) (d':=s.drawn) (ch:=[a']) (λb a0=>?_) (λb o _ _ a7 e _=>k b o (λz=>a7 (by simp[z])) e) (λb o _ _ a7 e _=>⟨o.slots,k b o (λz=>a7 (by simp[z])) e⟩) (λ_ _ _ _ n=>n)
  (λb o a7 e=>⟨o,k b o (λz=>a7 (by simp[z])) e⟩) (λ_ _ e=>e) (λ_ _ _ e=>e) (λb _ e=>⟨#[],by rw[e];simp⟩) (λm hm=>?_) (λb u e=>?_) D.bare
 .have e:b=a':=by simpa using a0
  subst e;exact⟨O,dg,a5,aG⟩
 .obtain⟨o,b7,fS,aU,r⟩:=hm;exact⟨o,b7,fS,k _ o (ed dg) aU,r⟩
 refine(D.bR b u e).rk (λc v a7 q=>k c v ?_ q) (λ_ q=>q) λ_ _ q=>q;obtain z|z:=a7
 .rw[z];exact ue b u e
 exact ue c _ z
theorem Inv.tok(D:Inv X a4 G H s)(t:Nat):Inv X a4 G H {s with toks:=t}:=D.un (h':=s.heap) (t':=t) iV.refl D.bR
theorem Inv.kept(D:Inv X a4 G H s)(k:∀b u,s.heap.get? b=B u->h'.get? b=B u):Inv X a4 G H {s with heap:=h',toks:=t'}:=D.un (iV.kept k) (D.bR.kept k)
theorem Inv.laid(D:Inv X a4 G H s)(k:∀b u,s.heap.get? b=B u->h'.get? b=B u)(ar:s.heap.objs.size<=a)(new:h7 X.prog X.w (av H a o) h' a o):Inv X a4 G (av H a o) {s with heap:=h',toks:=t'}:=D.un (iV.laid k ar (D.bR.fresh ar)) (D.bR.laid k ar new)
theorem Inv.write{x e:I}(D:Inv X a4 G H s)(iU:rl (H x))(aF:e=x∨H e=B (.own x))(k:∀b u,b≠e->s.heap.get? b=B u->h'.get? b=B u)(ye:∃u,h'.get? e=B u)(new:h7 X.prog X.w (av H x o) h' x o):Inv X a4 G (av H x o) {s with heap:=h',toks:=t'}:=D.un (iV.write iU aF k ye) (D.bR.write iU aF k ye new)
theorem Inv.weak{aM:List (Option V)}(D:Inv X a4 G H s)(aq:aM.length=G.length)(w:∀(i:Nat) v,aM[i]? =B (B v)->G[i]? =B (B v)):Inv X a4 aM H s:=
 ⟨D.ok,D.os,D.bare,D.base,let⟨m,aH,iW⟩:=D.loc;⟨m,aH,λi x v aO aT dX=>iW i x v aO (w i v aT) dX⟩,D.cell,D.free,D.k',D.pin,D.bR,aq.trans D.len⟩
theorem Inv.P'{rq:List (I×bJ)}(D:Inv X a4 G H s)(h:∀p∈rq,s.heap.get? p.1=B p.2/\H p.1=aa/\p.1≠X.env.locals/\p.1∉X.fs/\∀v,p.2.data≠ .cell v):Inv X rq G H s:=
 ⟨D.ok,D.os,D.bare,D.base,D.loc,D.cell,D.free,D.k',λp ar=>(kv.mp ar).elim (λz=>D.pin p (se _ z)) (h p),D.bR,D.len⟩
theorem J7{N:List a8}(dD:N.Nodup){j:Nat}(a:N[i]? =B x)(b:N[j]? =B x):i=j:=by obtain⟨O,aO⟩:=ec.mp a;obtain⟨_,aT⟩:=ec.mp b;exact(List.getElem_inj dD).mp (aO.trans aT.symm)
theorem Q0{M:tW}{v:V}{Q:Unit->ay->Prop}(D:Inv X a4 G H s)(dD:X.N.Nodup)(hi:X.N[i]? =B x)(ag:Loc X.env.scope x)(r:RelV v u)(h:∀b3,Inv X a4 (G.set i (B v)) H b3->(∃a,DL a s.heap b3.heap/\(a=X.env.locals∨X.env.cells.lookup x=B a))->Q () b3)(hf:X.fn x=a9∨X.env.scope.names.lookup x=B .local:=by first|exact .inl rfl|exact .inr rfl|assumption):b8 M A (a0H X.env x u) Q E s:=by
 obtain⟨m,aH,aq⟩:=id D.loc;have a1m:(X.env.scope.kind== .class||(X.env.scope.kind== .module&&X.env.locals !=X.env.globals))=aJ:=by rw[D.ok.kind];rfl
 have Q1:i<G.length:=by rw[D.len];exact(ec.mp hi).1
 have ud:=D.ud;have Q2:∀{a:I}{h':br},(∃o,s.heap.get? a=B o/\H a=aa)->DL a s.heap h'->f' X.prog X.w H h':=fun{a h'} bf ax b cE e=>by
  obtain⟨_,_,uf⟩:=bf;refine(D.bR b cE e).rk (λc jb a7 q=>(ax.2 c ?_).trans q) (λ_ q=>q) λ_ _ q=>q;rintro rfl;obtain rfl|a7:=a7
  .rw[uf]at e;cases e
  rw[uf]at a7;cases a7
 obtain aA|aA:=ag
 .refine wpAny_storeName_local aA aH (λh' Ej ax=>?_) a1m;obtain⟨a1n,_,_,a1o,_⟩:=id aH;refine h _ ⟨D.ok,D.os,D.bare,⟨λb o e n a0 ag=>?_,λb o e n a0 ag=>?_,D.base.free,λb o e ag=>?_,D.base.sr,D.base.rm,D.base.su⟩,⟨_,Ej,λj y kB aO aT dX=>?_⟩,λy c e=>?_,D.free,D.k',λp ar=>?_,Q2 ⟨a1n,a1o,D.free⟩ ax,by simpa using D.len⟩ ⟨_,ax,.inl Y⟩
  .exact(ax.2 b (gW (kW (dF e) D.ok.above))).trans (D.base.keep b o e n a0 ag)
  .obtain⟨aV,aO⟩:=D.base.slot b o e n a0 ag;exact⟨aV,(ax.2 b (gW (kW (dF e) D.ok.above))).trans aO⟩
  .obtain⟨gY,aO⟩:=D.base.there b o e ag;exact⟨gY,(ax.2 b (gW (kW (dF e) D.ok.above))).trans aO⟩
  .by_cases bX:j=i
   .subst bX;rw[hi]at aO;cases aO;rw[I9 Q1]at aT;cases aT;exact⟨u,r,.inl ⟨aA,by simp⟩⟩
   rw[A7 (ed bX)]at aT;obtain⟨vY,gq,q⟩:=aq j y kB aO aT dX;refine⟨vY,gq,?_⟩;obtain⟨k,e⟩|⟨k,c,e,z⟩:=q
   .refine .inl ⟨k,?_⟩;have:y≠x:=λe=>bX (J7 dD aO (e ▸ hi));simp[this,e]
   exact .inr ⟨k,c,e,z.sameBut ax (ud y c e)⟩
  .obtain⟨jb,z⟩:=D.cell y c e;exact⟨jb,z.sameBut ax (ud y c e)⟩
  obtain⟨e,n,ne,lF,d⟩:=D.pin p ar;exact⟨(ax.2 p.1 ne).trans e,n,ne,lF,d⟩
 have J8:X.fn x=a9:=by
  obtain z|z:=hf
  .exact z
  rw[z]at aA;cases aA
 obtain⟨c,a7⟩:=D.ok.has x (.inl aA);obtain⟨jb,z⟩:=D.cell x c a7;refine wpAny_storeName_cell D.ok.kind aA a7 z (λh' oH ax=>?_);obtain⟨kd,Q3,a1p⟩:=id z;refine h {s with heap:=h'} ⟨D.ok,D.os,D.bare,⟨λb o e n a0 ag=>?_,λb o e n a0 ag=>?_,D.base.free,λb o e ag=>?_,D.base.sr,D.base.rm,D.base.su⟩,⟨m,aH.sameBut ax (ed (ud x c a7)),λj y kB aO aT dX=>?_⟩,λy e4 e=>?_,D.free,D.k',λp ar=>?_,Q2 ⟨kd,Q3,D.k' x c a7⟩ ax,by simpa using D.len⟩ ⟨c,ax,.inr a7⟩
 .exact(ax.2 b (gW (kW (dF e) (D.ok.sx x c J8 a7)))).trans (D.base.keep b o e n a0 ag)
 .obtain⟨aV,aO⟩:=D.base.slot b o e n a0 ag;exact⟨aV,(ax.2 b (gW (kW (dF e) (D.ok.sx x c J8 a7)))).trans aO⟩
 .obtain⟨gY,aO⟩:=D.base.there b o e ag;exact⟨gY,(ax.2 b (gW (kW (dF e) (D.ok.sx x c J8 a7)))).trans aO⟩
 .by_cases bX:j=i
  .subst bX;rw[hi]at aO;cases aO;rw[I9 Q1]at aT;cases aT;exact⟨u,r,.inr ⟨.inl aA,c,a7,oH⟩⟩
  rw[A7 (ed bX)]at aT;obtain⟨vY,gq,q⟩:=aq j y kB aO aT dX;refine⟨vY,gq,?_⟩;obtain q|⟨k,e4,e,mq⟩:=q
  .exact .inl q
  refine .inr ⟨k,e4,e,mq.sameBut ax ?_⟩;rintro rfl;exact bX (J7 dD aO (D.ok.inj _ _ _ e a7 ▸ hi))
 .by_cases Ek:e4=c
  .subst Ek;exact⟨_,oH⟩
  obtain⟨oI,g0⟩:=D.cell y e4 e;exact⟨oI,g0.sameBut ax Ek⟩
 obtain⟨e,n,ne,lF,d⟩:=D.pin p ar;refine⟨(ax.2 p.1 ?_).trans e,n,ne,lF,d⟩;intro q;rw[q,Q3]at e;have eQ:kd=p.2:=gX e;exact d jb (by rw[<-eQ];exact a1p)
theorem yg{M:tW}{v:V}{Q:Unit->ay->Prop}(D:Inv X a4 G H s)(dD:X.N.Nodup)(hi:X.N[i]? =B x)(ag:Loc X.env.scope x)(r:RelV v u)(h:∀b3,Inv X a4 (G.set i (B v)) H b3->Q () b3)(hf:X.fn x=a9∨X.env.scope.names.lookup x=B .local:=by first|exact .inl rfl|exact .inr rfl|assumption):b8 M A (a0H X.env x u) Q E s:=
 Q0 D dD hi ag r (λb3 el _=>h b3 el) hf
theorem Inv.El{b3:ay}{ch:List I}(D:Inv X a4 G H s)(aU:b3.os=s.os)(u:iV (ml X.stack) ch H H' s.heap b3.heap)(bR:f' X.prog X.w H' b3.heap)(aI:xM b3.gens)(rp:∀b∈ch,(b∈X.ex∨X.gv.heap.objs.size<=b)/\b≠X.env.locals/\(∀x c,X.env.cells.lookup x=B c->c≠b)/\∀p∈X.cZ++a4,p.1≠b):Inv X a4 G H' b3:=by obtain⟨_,g',d',t',gY⟩:=b3;have e:gY=s.os:=aU;subst e;exact D.call (g':=g') (t':=t') (d':=d') u bR aI rp
end
abbrev dN:=ae->Option I->ak->Prop
abbrev St:=List (Option V)
abbrev cR:=V->ak->Prop
abbrev b':=St->ak->cR->Prop
abbrev TT:=St->ak->(Bool->ak->Prop)->Prop
abbrev gE:=St->ak->(List V->ak->Prop)->Prop
structure Ends where
 c6:St->ak->Prop
 ic:cR
 gD:St->ak->Prop:=λ_ _=>False
 en:St->ak->Prop:=λ_ _=>False
abbrev er:=Ends->St->ak->Prop
def i0(X:bB)(a4:List (I×bJ))(G:St)(Q:cR)(u:ae)(b3:ay):Prop:=∃v H',Inv X a4 G H' b3/\RelV v u/\Q v H'
def J9(X:bB)(a4:List (I×bJ))(G:St)(Q:Bool->ak->Prop)(b:Bool)(b3:ay):Prop:=∃H',Inv X a4 G H' b3/\Q b H'
def a1q(X:bB)(a4:List (I×bJ))(G:St)(Q:List V->ak->Prop)(us:List ae)(b3:ay):Prop:=∃vs H',Inv X a4 G H' b3/\cB vs us/\Q vs H'
def m_(X:bB)(a4:List (I×bJ))(af:Ends)(f:Flow)(b3:ay):Prop:=
 match f with
 |.next=>∃aM H',Inv X a4 aM H' b3/\af.c6 aM H'
 |.brk=>∃aM H',Inv X a4 aM H' b3/\af.gD aM H'
 |.cont=>∃aM H',Inv X a4 aM H' b3/\af.en aM H'
 |.ret u=>∃v aM H',Inv X a4 aM H' b3/\RelV v u/\af.ic v H'
def bT(X:bB)(e:bP)(t:b'):Prop:=
 ∀(a4:List (I×bJ))(s:ay)(G:St)(H:ak)(Q:cR),Inv X a4 G H s->t G H Q->b8 (bq X.prog X.w) X.A (eval e X.env) (i0 X a4 G Q) X.bN s
def n0(X:bB)(e:bP)(t:TT):Prop:=
 ∀(a4:List (I×bJ))(s:ay)(G:St)(H:ak)(Q:Bool->ak->Prop),Inv X a4 G H s->t G H Q->b8 (bq X.prog X.w) X.A (isTrue e X.env (eval e X.env)) (J9 X a4 G Q) X.bN s
def jc(X:bB)(e:bP)(t:TT):Prop:=
 ∀(whole:hQ ae)(a4:List (I×bJ))(s:ay)(G:St)(H:ak)(Q:Bool->ak->Prop),Inv X a4 G H s->t G H Q->b8 (bq X.prog X.w) X.A (isTrue e X.env whole) (J9 X a4 G Q) X.bN s
variable{e:bP}
theorem jc.pt{t:TT}(h:jc X e t):n0 X e t:=h _
def hz(X:bB)(b7:List bP)(t:gE):Prop:=
 ∀(pos:Pos)(a4:List (I×bJ))(s:ay)(G:St)(H:ak)(Q:List V->ak->Prop),Inv X a4 G H s->t G H Q->b8 (bq X.prog X.w) X.A (spliced (lD pos (fC b7 X.env))) (a1q X a4 G Q) X.bN s
def jd(X:bB)(st:bH)(t:er):Prop:=
 ∀(a4:List (I×bJ))(s:ay)(G:St)(H:ak)(af:Ends),Inv X a4 G H s->t af G H->b8 (bq X.prog X.w) X.A (exec st X.env) (m_ X a4 af) X.bN s
def ie(X:bB)(st:List bH)(t:er):Prop:=
 ∀(a4:List (I×bJ))(s:ay)(G:St)(H:ak)(af:Ends),Inv X a4 G H s->t af G H->b8 (bq X.prog X.w) X.A (execs st X.env) (m_ X a4 af) X.bN s
theorem bW{bu:Type}{t:hQ bu}{Q e5:bu->ay->Prop}{M:tW}(h:b8 M A t Q E s)(iA:∀a s,Q a s->e5 a s):b8 M A t e5 E s:=mg h iA λ_ _ x=>x
variable{c0 cu:b'}{G:St}{pos:Pos}{Q:ae->ay->Prop}{op:xP}{c:bP}
section
theorem bin{a b:bP}(bf:bT X a c0)(a0:bT X b cu){R:V->V->ak->Prop}(D:Inv X a4 G H s)(h:c0 G H λx ai=>cu G ai λy au=>R x y au){bu:Type}{Q:bu->ay->Prop}{f:ae->ae->hQ bu}(hf:∀v u s2 x y au,Inv X a4 G au s2->RelV x v->RelV y u->R x y au->b8 (bq X.prog X.w) X.A (f v u) Q X.bN s2):b8 (bq X.prog X.w) X.A (eval a X.env) (λv du=>b8 (bq X.prog X.w) X.A (eval b X.env) (λu iX=>b8 (bq X.prog X.w) X.A (f v u) Q X.bN iX) X.bN du) X.bN s:=by refine bW (bf a4 s G H _ D h) λv s1 ⟨x,ai,aP,cv,bx⟩=>?_;refine bW (a0 a4 s1 G ai _ aP bx) λu s2 ⟨y,au,cL,dR,cw⟩=>?_;exact hf v u s2 x y au cL cv dR cw
def dr(i:Nat):b':=λG H Q=>∃v,G[i]? =B (B v)/\Q v H
def iB(v:V):b':=λ_ H Q=>Q v H
theorem a1r(dD:X.N[i]? =B x)(bk:yf X.env.scope x)(hd:(x==("__debug__" :a8))=aJ:=by decide)(l1:(x==("__classdict__" :a8))=aJ:=by decide):bT X (.Name x pos) (dr i):=by
 intro a4 s G H Q D h;obtain⟨v,e,h⟩:=h;obtain⟨m,aH,aq⟩:=D.loc;obtain⟨u,r,l⟩:=aq i x v dD e bk;have fin:i0 X a4 G Q u s:=⟨v,H,D,r,h⟩;obtain⟨aA,hm⟩|⟨aA,c,a7,nN⟩:=l
 .exact a0J (ajy D.ok.kind aA aH hm fin) hd
 obtain aA|aA:=aA
 .exact a0J (ajx D.ok.kind aA a7 nN fin) hd
 exact a0J (wpAny_loadName_free D.ok.kind aA a7 nN fin l1) hd
theorem cb{i j pos}:bT X (.Constant (.int i) j pos) (iB (.int i)):=λ_ _ _ H _ D h=>wpAny_Constant_int ⟨.int i,H,D.tok _,⟨_,Y⟩,h⟩
theorem qm{b j pos}:bT X (.Constant (.bool b) j pos) (iB (.c1 b)):=λ_ _ _ H _ D h=>Constant_bool ⟨.c1 b,H,D,Y,h⟩
theorem AB{j pos}:bT X (.Constant .none j pos) (iB .bS):=λ_ _ _ H _ D h=>a03 ⟨.bS,H,D,Y,h⟩
theorem ee{x j pos}:bT X (.Constant (.str x) j pos) (iB (.str x)):=λ_ _ _ H _ D h=>Calls.Constant_str ⟨.str x,H,D.tok _,⟨_,Y⟩,h⟩
def hA(X:bB)(x:a8):Prop:=X.env.kindOf x=B .globalImplicit
theorem oJ(D:Inv X a4 G H s)(aI:hA X x)(hm:X.a6 x=B u)(h:Q u s)(hd:(x==("__debug__" :a8))=aJ:=by decide):b8 (bq X.prog X.w) X.A (eval (.Name x pos) X.env) Q E s:=
 aiv D.ok.kind aI (Calls.loadGlobal_global (by rw[D.ok.glob];exact D.mod.glob.keeps D.gD) hm h) hd
theorem vZ(D:Inv X a4 G H s)(aI:hA X x)(hm:X.a6 x=aa)(bk:DU x=B u)(h:Q u s)(aH:x≠"__name__" :=by decide)(hd:(x==("__debug__" :a8))=aJ:=by decide):b8 (bq X.prog X.w) X.A (eval (.Name x pos) X.env) Q E s:=by obtain⟨_,O,a5⟩:=D.mod.blt;exact aiv D.ok.kind aI (Calls.loadGlobal_builtin (by rw[D.ok.glob];exact D.mod.glob.keeps D.gD) hm (by rw[D.ok.blt];exact O.keeps D.gD) ((a5 x aH).trans bk) h) hd
variable{a b:bP}
def Ja(X:bB)(op:xP)(a b:bP)(t:b'):Prop:=
 ∀(a4:List (I×bJ))(s:ay)(G:St)(H:ak)(Q:cR),Inv X a4 G H s->t G H Q->b8 (bq X.prog X.w) X.A (eval a X.env) (λv du=>b8 (bq X.prog X.w) X.A (eval b X.env) (λu iX=>b8 (bq X.prog X.w) X.A (mV op v u) (i0 X a4 G Q) X.bN iX) X.bN du) X.bN s
theorem a1s(b:bP)(h:op≠ .In)(a5:op≠ .NotIn):Al op b=aJ:=by
 have aO:(op==aiw)=aJ:=by cases op<;>first|rfl|exact absurd Y h
 have aT:(op==aix)=aJ:=by cases op<;>first|rfl|exact absurd Y a5
 cases b<;>simp[Al,aO,aT]
def a1t(c0:b'):b':=λG H Q=>c0 G H λx ai=>Q (.c1 (decide (x=.bS))) ai
def a1u(c0:b'):b':=λG H Q=>c0 G H λx ai=>Q (.c1 (!decide (x=.bS))) ai
theorem RelV.Q4{x:V}{v:ae}(r:RelV x v):(v==eK)=decide (x=.bS):=by cases x with|bS=>cases r;rfl|c1 _=>cases r;rfl|int _=>obtain⟨t,rfl⟩:=r;rfl|str _=>obtain⟨t,rfl⟩:=r;rfl|lE _=>obtain⟨t,rfl⟩:=r;rfl|Ay _=>obtain⟨t,rfl⟩:=r;rfl|ref _=>cases r;rfl|ty _=>cases r;rfl
theorem Q5{j iY}(bf:bT X a c0):Ja X .Is a (.Constant .none j iY) (a1t c0):=by intro a4 s G H Q D h;refine bW (bf a4 s G H _ D h) λv _ ⟨x,ai,aP,cv,bx⟩=>?_;exact a03 (is_none_gen ⟨.c1 _,ai,aP,by rw[cv.Q4];rfl,bx⟩)
theorem a1v{j iY}(bf:bT X a c0):Ja X .IsNot a (.Constant .none j iY) (a1u c0):=by intro a4 s G H Q D h;refine bW (bf a4 s G H _ D h) λv _ ⟨x,ai,aP,cv,bx⟩=>?_;exact a03 (isnot_none_gen ⟨.c1 _,ai,aP,by rw[cv.Q4];rfl,bx⟩)
def Em(t:b'):TT:=λG H Q=>t G H λx ai=>∃c,x=.c1 c/\Q c ai
theorem Jb{t:b'}(h:Ja X op a b t)(O:Al op b=aJ:=by first|exact a1s _ (by decide) (by decide)|rfl):n0 X (.Compare a [op] [b] pos) (Em t):=by intro a4 s G H Q D hw;refine aju (bW (h a4 s G H _ D hw) λv _ O=>bW O λu _ a5=>bW a5 λc _ ⟨x,ai,aP,cv,bx⟩=>?_) O;obtain⟨d,rfl,q⟩:=bx;cases cv;exact u6 ⟨ai,aP,q⟩
theorem je{t:b'}(h:bT X e t)(aF:∀whole,isTrue e X.env whole=(do let v <-whole;u3 e.pos;rd [v] (truthy v)):=by intro _;rfl):n0 X e (Em t):=by intro a4 s G H Q D hw;refine isTrue_plain (bW (h a4 s G H _ D hw) λv _ ⟨x,ai,aP,cv,bx⟩=>?_) (aF _);obtain⟨d,rfl,q⟩:=bx;cases cv;exact u6 ⟨ai,aP,q⟩
variable{pH En:TT}{rest:List bP}
def Jc(t u:TT):TT:=λG H Q=>t G H λc ai=>if c=a9 then u G ai Q else Q aJ ai
def Jd(t u:TT):TT:=λG H Q=>t G H λc ai=>if c=a9 then Q a9 ai else u G ai Q
def a1w(t:TT):TT:=λG H Q=>t G H λc ai=>Q (!c) ai
theorem pI(bf:n0 X a pH):jc X (.BoolOp .And [a] pos) pH:=by intro _ a4 s G H Q D h;refine isTrue_and (bW (bf a4 s G H Q D h) λc _ e=>?_);cases c with|true=>exact isTrue_and_nil e|false=>exact e
theorem Je(bf:n0 X a pH):jc X (.BoolOp .Or [a] pos) pH:=by intro _ a4 s G H Q D h;refine isTrue_or (bW (bf a4 s G H Q D h) λc _ e=>?_);cases c with|false=>exact isTrue_or_nil e|true=>exact e
theorem nO(bf:n0 X a pH)(a0:jc X (.BoolOp .And (b::rest) pos) En):jc X (.BoolOp .And (a::b::rest) pos) (Jc pH En):=by intro AD a4 s G H Q D h;refine isTrue_and (bW (bf a4 s G H _ D h) λc s1 ⟨ai,aP,bx⟩=>?_);cases c with|true=>exact a0 AD a4 s1 G ai Q aP bx|false=>exact⟨ai,aP,bx⟩
theorem Eo(bf:n0 X a pH)(a0:jc X (.BoolOp .Or (b::rest) pos) En):jc X (.BoolOp .Or (a::b::rest) pos) (Jd pH En):=by intro AD a4 s G H Q D h;refine isTrue_or (bW (bf a4 s G H _ D h) λc s1 ⟨ai,aP,bx⟩=>?_);cases c with|true=>exact⟨ai,aP,bx⟩|false=>exact a0 AD a4 s1 G ai Q aP bx
theorem v_(bf:n0 X a pH):n0 X (.UnaryOp .Not a pos) (a1w pH):=by intro a4 s G H Q D h;exact isTrue_not (bf a4 s G H (λc ai=>Q (!c) ai) D h)
def a1x(c0 cu:b'):b':=λG H Q=>c0 G H λx ai=>∃c,x=.c1 c/\if c=a9 then cu G ai Q else Q (.c1 aJ) ai
def Q6(c0 cu:b'):b':=λG H Q=>c0 G H λx ai=>∃c,x=.c1 c/\if c=a9 then Q (.c1 a9) ai else cu G ai Q
theorem pJ{op}{t:b'}(h:bT X a t):bT X (.BoolOp op [a] pos) t:=λa4 s G H Q D hw=>BoolOp_one (h a4 s G H Q D hw)
theorem Ep(bf:bT X a c0)(a0:bT X (.BoolOp .And (b::rest) pos) cu):bT X (.BoolOp .And (a::b::rest) pos) (a1x c0 cu):=by intro a4 s G H Q D h;refine BoolOp_and (bW (bf a4 s G H _ D h) λv s1 ⟨x,ai,aP,cv,bx⟩=>?_);obtain⟨c,rfl,bx⟩:=bx;cases cv;refine u6 ?_;cases c with|true=>exact a0 a4 s1 G ai Q aP bx|false=>exact⟨.c1 aJ,ai,aP,rfl,bx⟩
theorem oK(bf:bT X a c0)(a0:bT X (.BoolOp .Or (b::rest) pos) cu):bT X (.BoolOp .Or (a::b::rest) pos) (Q6 c0 cu):=by intro a4 s G H Q D h;refine BoolOp_or (bW (bf a4 s G H _ D h) λv s1 ⟨x,ai,aP,cv,bx⟩=>?_);obtain⟨c,rfl,bx⟩:=bx;cases cv;refine u6 ?_;cases c with|false=>exact a0 a4 s1 G ai Q aP bx|true=>exact⟨.c1 a9,ai,aP,rfl,bx⟩
def Q7(t:TT)(c0 cu:b'):b':=λG H Q=>t G H λc ai=>if c=a9 then c0 G ai Q else cu G ai Q
theorem Q8(a7:n0 X c pH)(bf:bT X a c0)(a0:bT X b cu):bT X (.IfExp c a b pos) (Q7 pH c0 cu):=by intro a4 s G H Q D h;refine wpAny_IfExp (bW (a7 a4 s G H _ D h) λd s1 ⟨ai,aP,bx⟩=>?_);cases d with|true=>exact bf a4 s1 G ai Q aP bx|false=>exact a0 a4 s1 G ai Q aP bx
end
def bp(K:bj)(H:ak)(a:I)(xs:List V):Prop:=
 f9 H a (.lst xs)∨∃(o:bJ)(b6:Array ae)(n:Nat),K.lookup a=B o/\o.cls=.type "list"/\o.dict=aa/\o.data=.seq b6 n/\b6.size<=cM/\cB xs b6.toList
def dq(K:bj)(H:ak)(a:I)(xs:List V):Prop:=
 f9 H a (.tup xs)∨∃(o:bJ)(b6:Array ae)(n:Nat),K.lookup a=B o/\o.cls=.type "tuple"/\o.data=.seq b6 n/\b6.size<=cM/\cB xs b6.toList
def a1y:ae->Option V
 |.none=>B .bS
 |.bool b=>B (.c1 b)
 |.int i _=>B (.int i)
 |.str x _=>B (.str x)
 |.bytes b _=>B (.lE b)
 |.float b _=>B (.Ay b)
 |.ref a=>B (.ref a)
 |.type n=>B (.ty n)
 |_=>aa
theorem RelV.abs{x:V}(r:RelV x u):a1y u=B x:=by cases x with|bS=>cases r;rfl|c1 _=>cases r;rfl|int _=>obtain⟨t,rfl⟩:=r;rfl|str _=>obtain⟨t,rfl⟩:=r;rfl|lE _=>obtain⟨t,rfl⟩:=r;rfl|Ay _=>obtain⟨t,rfl⟩:=r;rfl|ref _=>cases r;rfl|ty _=>cases r;rfl
theorem RelV.inj{x y:V}(r:RelV x u)(q:RelV y u):x=y:=gX (r.abs.symm.trans q.abs)
theorem cB.inj:∀{xs ys:List V}{us:List ae},cB xs us->cB ys us->xs=ys
 |_,_,_,.nil,.nil=>rfl
 |_,_,_,.cons r t,.cons gq t'=>by rw[r.inj gq,cB.inj t t']
variable{K:bj}
section
variable{ys:List V}
theorem bp.of(h:H a=B (.lst xs)):bp K H a xs:=.inl (.inl h)
theorem dq.of(h:H a=B (.tup xs)):dq K H a xs:=.inl (.inl h)
theorem Inv.list(D:Inv X a4 G H s)(h:bp X.K H a xs):∃b6:List ae,cB xs b6/\PlainL s.heap a b6.toArray/\xs.length<=cM:=by
 obtain h|⟨o,b6,n,aA,a7,hd,ax,aR,r⟩:=h
 .obtain⟨z,b6,n,r,e⟩:=h.ok D.bR;exact⟨b6,r,⟨_,n,e,Y,Y,Y⟩,z⟩
 refine⟨b6.toList,r,⟨o,n,D.gQ a o aA,a7,hd,by simpa using ax⟩,?_⟩;have e:=r.length;simp only[Zu]at e;omega
theorem Inv.tuple(D:Inv X a4 G H s)(h:dq X.K H a xs):∃b6:List ae,cB xs b6/\DJ s.heap a b6.toArray/\xs.length<=cM:=by
 obtain h|⟨o,b6,n,aA,a7,ax,aR,r⟩:=h
 .obtain⟨z,b6,r,p⟩:=h.ok D.bR;exact⟨b6,r,p,z⟩
 refine⟨b6.toList,r,⟨o,D.gQ a o aA,a7,n,by simpa using ax⟩,?_⟩;have e:=r.length;simp only[Zu]at e;omega
theorem Inv.yh(D:Inv X a4 G H s)(h:bp X.K H a xs)(h':bp X.K H a ys):xs=ys:=by
 obtain⟨b6,r,⟨o,n,e,_,_,d⟩,_⟩:=D.list h;obtain⟨n1,gq,⟨_,_,d7,_,_,d'⟩,_⟩:=D.list h';rw[e]at d7;cases d7;rw[d]at d';injection d' with oL _;have:b6=n1:=by simpa using f_ Zv oL
 subst this;exact r.inj gq
theorem Inv.a1z(D:Inv X a4 G H s)(h:dq X.K H a xs)(h':dq X.K H a ys):xs=ys:=by
 obtain⟨b6,r,⟨o,e,_,n,d⟩,_⟩:=D.tuple h;obtain⟨n1,gq,⟨_,d7,_,_,d'⟩,_⟩:=D.tuple h';rw[e]at d7;cases d7;rw[d]at d';injection d' with oL _;have:b6=n1:=by simpa using f_ Zv oL
 subst this;exact r.inj gq
end
abbrev bB.rt(X:bB)(E:ae->ay->Prop):bB:={X with bN:=E}
abbrev bB.AE(X:bB):bB:=X.rt λ_ _=>False
theorem bB.Ok.rt(ok:X.Ok)(E:ae->ay->Prop):(X.rt E).Ok:=
 ⟨ok.mod,ok.kind,ok.glob,ok.blt,ok.above,ok.inj,ok.has,ok.sx,ok.hd,ok.frames,ok.uc,ok.rn,ok.bs,ok.mm,ok.sy,ok.ro,ok.k_,ok.oG⟩
theorem bB.Ok.ug(ok:(X.rt E).Ok):X.Ok:=
 ⟨ok.mod,ok.kind,ok.glob,ok.blt,ok.above,ok.inj,ok.has,ok.sx,ok.hd,ok.frames,ok.uc,ok.rn,ok.bs,ok.mm,ok.sy,ok.ro,ok.k_,ok.oG⟩
variable{af:Ends}
theorem Inv.rt(D:Inv X a4 G H s)(E:ae->ay->Prop):Inv (X.rt E) a4 G H s:=⟨D.ok.rt E,D.os,D.bare,D.base,D.loc,D.cell,D.free,D.k',D.pin,D.bR,D.len⟩
theorem Inv.ug(D:Inv (X.rt E) a4 G H s):Inv X a4 G H s:=⟨D.ok.ug,D.os,D.bare,D.base,D.loc,D.cell,D.free,D.k',D.pin,D.bR,D.len⟩
theorem m_.ug{f:Flow}{b3:ay}(h:m_ (X.rt E) a4 af f b3):m_ X a4 af f b3:=by cases f with|next=>obtain⟨aM,H',D,q⟩:=h;exact⟨aM,H',D.ug,q⟩|brk=>obtain⟨aM,H',D,q⟩:=h;exact⟨aM,H',D.ug,q⟩|cont=>obtain⟨aM,H',D,q⟩:=h;exact⟨aM,H',D.ug,q⟩|ret u=>obtain⟨v,aM,H',D,r,q⟩:=h;exact⟨v,aM,H',D.ug,r,q⟩
theorem ie.AE{st:List bH}{t:er}(h:ie X.AE st t):ie X st t:=λa4 s G H af D hw=>mg (h a4 s G H af (D.rt _) hw) (λ_ _ q=>q.ug) λ_ _ z=>hk z
variable{bY:b'}
section
variable{st:bH}{rest:List bH}{t u:er}
def AF:er:=λaf G H=>af.c6 G H
def nP(t u:er):er:=λaf G H=>t {af with c6:=u af} G H
theorem d8:ie X [] AF:=λ_ _ G H _ D h=>vQ ⟨G,H,D,h⟩
theorem aC(O:jd X st t)(a5:ie X rest u):ie X (st::rest) (nP t u):=by intro a4 s G H af D h;refine a0M (bW (O a4 s G H {af with c6:=u af} D h) λf s1 q=>?_);cases f with|next=>obtain⟨aM,H',el,q⟩:=q;exact a5 a4 s1 aM H' af el q|ret v=>exact q|brk=>exact q|cont=>exact q
theorem aX(O:jd X st t):ie X [st] t:=by intro a4 s G H af D h;refine a0M (bW (O a4 s G H af D h) λf _ q=>?_);cases f with|next=>exact vQ q|ret v=>exact q|brk=>exact q|cont=>exact q
def a1A:er:=λaf G H=>af.gD G H
theorem Q9:jd X (.Break pos) a1A:=λ_ _ G H _ D h=>wpAny_Break ⟨G,H,D,h⟩
theorem Inv.quiet(D:Inv X a4 G H s):interactive X.env=aJ:=by simp[interactive,D.ok.kind]
def AG(bY:b'):er:=λaf G H=>bY G H λ_ ai=>af.c6 G ai
theorem e6(aF:bT X e bY)(ax:sm e aa pos.line X.env=pure aJ:=by rfl):jd X (.Expr e pos) (AG bY):=by intro a4 s G H _ D h;exact wpAny_Expr_any (bW (aF a4 s G H _ D h) λv _ ⟨x,ai,aP,_,bx⟩=>⟨G,ai,aP,bx⟩) D.quiet ax
def oM(bY:b'):er:=λaf G H=>bY G H af.ic
theorem bG(aF:bT X e bY):jd X (.Return (B e) pos) (oM bY):=by intro a4 s G H _ D h;exact wpAny_Return_some (bW (aF a4 s G H _ D h) λv _ ⟨x,ai,aP,cv,bx⟩=>⟨x,G,ai,aP,cv,bx⟩)
def Jf(c:TT)(t u:er):er:=λaf G H=>c G H λb ai=>if b=a9 then t af G ai else u af G ai
theorem d3{a b:List bH}{kC:TT}(a7:n0 X c kC)(bf:ie X a t)(a0:ie X b u):jd X (.If c a b pos) (Jf kC t u):=by intro a4 s G H af D h;refine wpAny_If (bW (a7 a4 s G H _ D h) λd s1 ⟨ai,aP,bx⟩=>?_);cases d with|true=>exact bf a4 s1 G ai af aP bx|false=>exact a0 a4 s1 G ai af aP bx
end
abbrev gR:=V->St->ak->(St->ak->Prop)->Prop
abbrev sz:=List V->St->ak->(St->ak->Prop)->Prop
def oN(X:bB)(yi:bP)(t:gR):Prop:=
 ∀(a4:List (I×bJ))(s:ay)(G:St)(H:ak)(v:V)(u:ae)(Q:St->ak->Prop),Inv X a4 G H s->RelV v u->t v G H Q->b8 (bq X.prog X.w) X.A (xT yi X.env u) (λ_ b3=>∃aM H',Inv X a4 aM H' b3/\Q aM H') X.bN s
def AH(X:bB)(ts:List bP)(t:sz):Prop:=
 ∀(a4:List (I×bJ))(s:ay)(G:St)(H:ak)(vs:List V)(us:List ae)(Q:St->ak->Prop),Inv X a4 G H s->cB vs us->t vs G H Q->b8 (bq X.prog X.w) X.A (aj8 ((sk ts X.env).map (·.2)) us) (λ_ b3=>∃aM H',Inv X a4 aM H' b3/\Q aM H') X.bN s
abbrev Jg:=V->V->V->ak->(ak->Prop)->Prop
def Qa(X:bB)(t:Jg):Prop:=
 ∀(a4:List (I×bJ))(s:ay)(G:St)(H:ak)(o i v:V)(fJ c8 u:ae)(Q:ak->Prop),Inv X a4 G H s->RelV o fJ->RelV i c8->RelV v u->t o i v H Q->b8 (bq X.prog X.w) X.A (setItem fJ c8 u) (λ_ b3=>∃H',Inv X a4 G H' b3/\Q H') X.bN s
abbrev Jh:=V->V->ak->cR->Prop
def a1B(X:bB)(op:Iu)(t:Jh):Prop:=
 ∀(a4:List (I×bJ))(s:ay)(G:St)(H:ak)(x y:V)(v u:ae)(Q:cR),Inv X a4 G H s->RelV x v->RelV y u->t x y H Q->b8 (bq X.prog X.w) X.A (IC op v u) (i0 X a4 G Q) X.bN s
variable{b7:List bP}{k:Nat}{tg:bP}
def mr(i:Nat):gR:=λv G H Q=>Q (G.set i (B v)) H
theorem g_(dD:X.N.Nodup)(hi:X.N[i]? =B x:=by rfl)(ag:Loc X.env.scope x:=by first|exact sg rfl|exact Ii rfl)(hf:X.fn x=a9∨X.env.scope.names.lookup x=B .local:=by first|exact .inl rfl|exact .inr rfl|assumption):oN X (.Name x pos) (mr i):=by intro _ s G H v u Q D r h;exact ajr (yg D dD hi ag r (λ_ el=>⟨_,H,el,h⟩) hf)
def a1C:sz:=λvs G H Q=>vs=[]/\Q G H
def a1D(t:gR)(u:sz):sz:=λvs G H Q=>∃v r,vs=v::r/\t v G H λaM H'=>u r aM H' Q
theorem Ji:AH X [] a1C:=by intro _ s G H _ _ Q D r h;obtain⟨e,h⟩:=h;subst e;cases r;exact assignInOrder_nil ⟨G,H,D,h⟩
theorem yj{t:gR}{u:sz}(O:oN X e t)(a5:AH X b7 u)(ax:(sk (e::b7) X.env).map (·.2)=xT e X.env::(sk b7 X.env).map (·.2):=by rfl):AH X (e::b7) (a1D t u):=by intro a4 s G H _ _ Q D r h;obtain⟨v,_,aO,h⟩:=h;subst aO;cases r with|cons r iC=>rw[ax];refine assignInOrder_cons (bW (O a4 s G H _ _ _ D r h) λ_ s1 ⟨yk,ai,aP,bx⟩=>?_);exact a5 a4 s1 yk ai _ _ Q aP iC bx
def Qb(K:bj)(n:Nat)(t:sz):gR:=λv G H Q=>∃a xs,v=.ref a/\dq K H a xs/\xs.length=n/\t xs G H Q
theorem Qc{t:sz}{n:Nat}(a7:X.calm=a9)(h:AH X b7 t)(aH:(sk b7 X.env).length=n:=by rfl)(ft:(sk b7 X.env).findIdx? (·.1)=aa:=by rfl):oN X (.Tuple b7 k pos) (Qb X.K n t):=by intro a4 s G H v u Q D r hw;obtain⟨a,xs,aO,aQ,aq,hw⟩:=hw;subst aO;cases r;obtain⟨_,cA,ba,_⟩:=D.tuple aQ;refine assign_Tuple_tuple (D.ok.hd a7) ba (by simp[aH,<-aq,cA.length]) ft λh' ag=>?_;have aP:Inv X a4 G H {s with heap:=h'}:=D.kept (t':=s.toks) λb o e=>ag b o (gW (dF e)) e;exact h a4 _ G H xs _ Q aP (by simpa using cA) hw
def a1E(to oO:b')(t:Jg):gR:=λv G H Q=>to G H λo ai=>oO G ai λi au=>t o i v au λbc=>Q G bc
theorem Er{o i:bP}{to oO:b'}{t:Jg}(aU:bT X o to)(hi:bT X i oO)(ax:Qa X t)(bf:∀v,xT (.Subscript o i pos) X.env v=(do
   let fJ <-rd [v] (eval o X.env)
   let c8 <-rd [v,fJ] (eval i X.env)
   u3 pos
   rd [v,fJ,c8] (setItem fJ c8 v)
   release [v,fJ,c8] []):=by intro _;rfl):oN X (.Subscript o i pos) (a1E to oO t):=by
 intro a4 s G H v u Q D r h;rw[bf];refine bC (rf (bW (aU a4 s G H _ D h) λfJ s1 ⟨x,ai,aP,cv,bx⟩=>?_));refine bC (rf (bW (hi a4 s1 G ai _ aP bx) λc8 s2 ⟨y,au,cL,dR,cw⟩=>?_));refine bC (rh (bC (rf (bW (ax a4 s2 G au x y v fJ c8 u _ cL cv dR r cw) λ_ _ ⟨bc,dG,h1⟩=>?_))));exact wpAny_release ⟨G,bc,dG,h1⟩
def oP(bY:b')(g:gR):er:=λaf G H=>bY G H λx ai=>g x G ai af.c6
theorem Es{g:gR}(aF:bT X e bY)(aI:oN X tg g)(ax:swapsWithSole [tg] e pos.line X.env=pure aJ:=by rfl)(hw:swappedStores [tg] e X.env=pure aa:=by rfl)(O:(sk [tg] X.env).map (·.2)=[xT tg X.env]:=by rfl):jd X (.Assign [tg] e pos) (oP bY g):=by intro a4 s G H _ D h;refine wpAny_Assign_stores (bW (aF a4 s G H _ D h) λv s1 ⟨x,ai,aP,cv,bx⟩=>?_) ax hw;rw[O];exact bW (aI a4 s1 G ai x v _ aP cv bx) λ_ _ q=>q
theorem a1F{iY:Pos}(dD:X.N.Nodup)(hi:X.N[i]? =B x)(ag:Loc X.env.scope x)(aF:bT X e bY)(ax:sm e (B (.Name x iY)) pos.line X.env=pure aJ:=by rfl)(hf:X.fn x=a9∨X.env.scope.names.lookup x=B .local:=by first|exact .inl rfl|exact .inr rfl|assumption):
  jd X (.Assign [.Name x iY] e pos) (oP bY (mr i)):=by
 intro a4 s G H _ D h;refine ajq (bW (aF a4 s G H _ D h) λv _ ⟨y,ai,aP,cv,bx⟩=>?_) ax;exact yg aP dD hi ag cv (λ_ cL=>⟨_,ai,cL,bx⟩) hf
theorem cx{iY:Pos}(dD:X.N.Nodup)(aF:bT X e bY)(hi:X.N[i]? =B x:=by rfl)(ag:Loc X.env.scope x:=by first|exact sg rfl|exact Ii Y)(ax:sm e (B (.Name x iY)) pos.line X.env=pure aJ:=by rfl)(hf:X.fn x=a9∨X.env.scope.names.lookup x=B .local:=by first|exact .inl rfl|exact .inr rfl|assumption):jd X (.Assign [.Name x iY] e pos) (oP bY (mr i)):=a1F dD hi ag aF ax hf
def a1G(i:Nat)(bY:b')(oO:Jh):er:=λaf G H=>∃x,G[i]? =B (B x)/\bY G H λy ai=>oO x y ai λz au=>af.c6 (G.set i (B z)) au
theorem v'{op:Iu}{oO:Jh}{iY:Pos}(dD:X.N.Nodup)(hi:X.N[i]? =B x)(ag:Loc X.env.scope x)(aF:bT X e bY)(aU:a1B X op oO)(hf:X.fn x=a9∨X.env.scope.names.lookup x=B .local:=by first|exact .inl rfl|exact .inr rfl|assumption):
  jd X (.AugAssign (.Name x iY) op e pos) (a1G i bY oO):=by
 intro a4 s G H af D h;obtain⟨v,aO,h⟩:=h;obtain⟨m,aH,aq⟩:=D.loc;have a1H:yf X.env.scope x:=by obtain k|k:=ag;exact .inl k;exact .inr (.inl k)
 obtain⟨u,r,l⟩:=aq i x v hi aO a1H;refine wpAny_AugAssign_Name ?_;have go:b8 (bq X.prog X.w) X.A (eval e X.env) (λw iX=>b8 (bq X.prog X.w) X.A (IC op u w) (λr oQ=>b8 (bq X.prog X.w) X.A (a0H X.env x r) (λ_=>m_ X a4 af .next) X.bN oQ) X.bN iX) X.bN s:=by refine bW (aF a4 s G H _ D h) λw s1 ⟨y,ai,aP,cv,bx⟩=>?_;refine bW (aU a4 s1 G ai v y u w _ aP r cv bx) λz _ ⟨_,au,cL,dR,cw⟩=>?_;exact yg cL dD hi ag dR (λ_ dG=>⟨_,au,dG,cw⟩) hf
 obtain⟨aA,hm⟩|⟨aA,c,a7,nN⟩:=l
 .exact ajy D.ok.kind aA aH hm go
 obtain aA|aA:=aA
 .exact ajx D.ok.kind aA a7 nN go
 obtain k|k:=ag
 .have:X.env.scope.names.lookup x=B .free:=aA;rw[k]at this;cases this
 have:X.env.scope.names.lookup x=B .free:=aA;rw[k]at this;cases this
def Qe(c:TT)(cu:er):er:=λaf G H=>∃W:Nat->St->ak->Prop,(∃m,W m G H)/\∀m G H,W m G H->c G H λb ai=>if b=a9 then∃N:St->ak->Prop,(∀aM H',N aM H'->∃m',m'<m/\W m' aM H')/\cu {af with c6:=N,en:=N,gD:=af.c6} G ai else af.c6 G ai
theorem w0{body:List bH}{kC:TT}{cu:er}(ar:a0j (bq X.prog X.w) X.A X.env X.bN)(a7:n0 X c kC)(a0:ie X body cu):jd X (.While c body [] pos) (Qe kC cu):=by
 intro a4 s G H _ D h;obtain⟨W,⟨i1,ig⟩,turn⟩:=h;refine wpAny_While (codeAny_whileLoop (λn b3=>∃aM H',Inv X a4 aM H' b3/\W n aM H') ?_ i1 ⟨G,H,D,ig⟩);rintro n s1 ⟨yk,ai,aP,lG⟩;refine rg ar (bW (a7 a4 s1 yk ai _ aP (turn n yk ai lG)) λb s2 ⟨au,cL,cw⟩=>?_);cases b with
 |true=>obtain⟨N,dD,cw⟩:=cw;rw[aZ Y];refine rg ar (bW (a0 a4 s2 yk au _ cL cw) λf _ h1=>?_);cases f with|next=>obtain⟨lH,bc,dG,g9⟩:=h1;obtain⟨m',hm,n2⟩:=dD lH bc g9;exact⟨m',hm,lH,bc,dG,n2⟩|cont=>obtain⟨lH,bc,dG,g9⟩:=h1;obtain⟨m',hm,n2⟩:=dD lH bc g9;exact⟨m',hm,lH,bc,dG,n2⟩|brk=>exact h1|ret v=>exact h1
 |false=>rw[aL hX];exact vQ ⟨yk,au,cL,cw⟩
structure jC where
 go:Nat->ak->Prop
 jO:Nat->ak->V->ak->Prop
 stop:Nat->ak->Prop
def kD(X:bB)(a4:List (I×bJ))(H:ak)(b:I):Prop:=
 H b=aa/\b≠X.env.locals/\b∉X.fs/\(b∈X.ex∨X.gv.heap.objs.size<=b)/\(∀x c,X.env.cells.lookup x=B c->c≠b)/\∀p∈X.cZ++a4,p.1≠b
theorem Inv.qn(D:Inv X a4 G H s)(a0:s.heap.objs.size<=b)(aH:H' b=aa):kD X a4 H' b:=by
 refine⟨aH,xK (kW D.lt a0),D.a1k a0,.inr (dC D.l0 a0),λx c e z=>?_,λp ar z=>?_⟩
 .obtain⟨v,q⟩:=D.cell x c e;exact absurd (kW q.lt (by rw[z];exact a0)) (r9 _)
 exact absurd (kW (dF (D.pin p ar).1) (by rw[z];exact a0)) (r9 _)
structure ru (P:bQ) (w:bI) (K:bj) (tg:bP) (d4:jC) (bO:List I) (a':I) (tn:Nat->br->Prop):Prop where
 mem:a'∈bO
 obj:∀i h,tn i h->∀b∈bO,∃o,h.get? b=B o/\∀v,o.data≠ .cell v
 keep:∀i h h',tn i h->(∀b∈bO,∀o,h.get? b=B o->h'.get? b=B o)->tn i h'
 item:∀(X:bB),X.prog=P->X.w=w->X.K=K->X.calm=a9->∀(i:Nat)(a4:List (I×bJ))(s:ay)(G:St)(H:ak)(E:ae->ay->Prop),Inv X a4 G H s->(∀b∈bO,kD X a4 H b)->tn i s.heap->d4.go i H->
  b8 (bq P w) X.A (pB (.ref a')) (λr s1=>∃u,r=B u/\
   b8 (bq P w) X.A (ID tg (.ref a') u) (λ_ s2=>∃x H',Inv X a4 G H' s2/\RelV x u/\d4.jO i H x H'/\tn (i+1) s2.heap/\∀b∈bO,H' b=aa) E s1) E s
 done:∀(X:bB),X.prog=P->X.w=w->X.K=K->X.calm=a9->∀(i:Nat)(a4:List (I×bJ))(s:ay)(G:St)(H:ak)(E:ae->ay->Prop),Inv X a4 G H s->(∀b∈bO,kD X a4 H b)->tn i s.heap->d4.stop i H->
  b8 (bq P w) X.A (pB (.ref a')) (λr s1=>r=aa/\Inv X a4 G H s1) E s
 self:∀(A:d9)(i:Nat)(s:ay)(Q:ae->ay->Prop)(E:ae->ay->Prop),tn i s.heap->Q (.ref a') s->b8 (bq P w) A (DY (.ref a')) Q E s
abbrev TI:=St->ak->(jC->ak->Prop)->Prop
def Et(X:bB)(a4:List (I×bJ))(G:St)(tg:bP)(R:jC->ak->Prop)(w1:ae)(s2:ay):Prop:=
 ∃(a':I)(bO:List I)(tn:Nat->br->Prop)(d4:jC)(H':ak),w1=.ref a'/\Inv X a4 G H' s2/\ru X.prog X.w X.K tg d4 bO a' tn/\tn 0 s2.heap/\(∀b∈bO,kD X a4 H' b)/\R d4 H'
def qo(X:bB)(tg fj:bP)(gF:TI):Prop:=
 ∀(a4:List (I×bJ))(s:ay)(G:St)(H:ak)(R:jC->ak->Prop),Inv X a4 G H s->gF G H R->b8 (bq X.prog X.w) X.A (eval fj X.env) (λv s1=>b8 (bq X.prog X.w) X.A (DY v) (Et X a4 G tg R) X.bN s1) X.bN s
theorem yl{M:tW}{a':I}{o:bJ}{n:String}{vs:Array ae}{Q:Unit->ay->Prop}(aU:s.heap.get? a'=B o)(a7:o.cls=.type n)(hd:o.data=.fields vs)(aH:["enumerate","zip","dict_itemiterator","dict_reverseitemiterator","odict_iterator","itertools.zip_longest","itertools.pairwise"].contains n=aJ)(iA:Q () s):b8 M A (ID tg (.ref a') u) Q E s:=by
  unfold ID;cases tg<;>first
    |exact eC iA
    |(cases u<;>first|exact eC iA|(refine bC (wpAny_load aU ?_);rw[a7,hd];show b8 M A (if(["enumerate","zip","dict_itemiterator","dict_reverseitemiterator","odict_iterator","itertools.zip_longest","itertools.pairwise"].contains n&&vs[0]? ==B (iz _))=a9 then _ else _) Q E s;rw[aL (by intro h;rw[aH,I2]at h;cases h)];exact eC iA))
def uh(K:bj)(a:I):jC:=
 ⟨λi H=>∃xs x,bp K H a xs/\xs[i]? =B x,λi H x H'=>H'=H/\∀xs,bp K H a xs->xs[i]? =B x,λi H=>∃xs,bp K H a xs/\xs.length<=i⟩
def ui(K:bj)(a:I):jC:=
 ⟨λi H=>∃xs x,dq K H a xs/\xs[i]? =B x,λi H x H'=>H'=H/\∀xs,dq K H a xs->xs[i]? =B x,λi H=>∃xs,dq K H a xs/\xs.length<=i⟩
def sA(lo:Int)(n:Nat):jC:=⟨λi _=>i<n,λi H x H'=>H'=H/\x=.int (lo+i),λi _=>n<=i⟩
theorem a1I(a a':I):ru P w K tg (uh K a) [a'] a' (λi h=>h.IsListIter a' a i) where
 mem:=by simp
 obj:=λi h st b a0=>by
  have e:b=a':=by simpa using a0
  subst e;obtain⟨o,e,c,d⟩:=st;exact⟨o,e,λv z=>by rw[d]at z;cases z⟩
 keep:=λi h h' st k=>st.at λo e=>k a' (by simp) o e
 item:=by intro X bK hw fu a7 i a4 s G H E D hf st aI;subst bK hw fu;obtain⟨xs,x,aQ,ag⟩:=aI;obtain⟨b6,cA,p,aR⟩:=D.list aQ;obtain⟨u,bz,h8⟩:=cA.get ag;obtain⟨fT,dS,f2,dw,fa,fb⟩:=hf a' (by simp);refine wpAny_pyNext_list_item st p.isList (x:=u) (by simpa using bz) λh' lI cF=>?_;have aP:Inv X a4 G H {s with heap:=h'}:=D.turned (t':=s.toks) (λb o a0 e=>(cF.2 b a0).trans e) fT dS dw fa fb;obtain⟨o,e,c,d⟩:=id lI;exact⟨u,Y,yl (s:={s with heap:=h'}) e c d (by decide) ⟨x,H,aP,h8,⟨Y,λ_ bl=>by rw[D.yh bl aQ];exact ag⟩,lI,λb a0=>(hf b a0).1⟩⟩
 done:=by intro X bK hw fu a7 i a4 s G H E D hf st aI;subst bK hw fu;obtain⟨xs,aQ,ag⟩:=aI;obtain⟨b6,cA,p,aR⟩:=D.list aQ;obtain⟨fT,dS,f2,dw,fa,fb⟩:=hf a' (by simp);have aq:=cA.length;exact wpAny_pyNext_list_end (D.ok.hd a7) st p.isList (by simp;omega) λh' h9=>⟨Y,D.turned (t':=s.toks) (λb o a0 e=>h9 b o a0 e) fT dS dw fa fb⟩
 self:=λ_ _ _ _ _ st h=>wpAny_pyIter_listiter st h
theorem a1J(a a':I):ru P w K tg (ui K a) [a'] a' (λi h=>h.IsTupleIter a' a i) where
 mem:=by simp
 obj:=λi h st b a0=>by
  have e:b=a':=by simpa using a0
  subst e;obtain⟨o,e,c,d⟩:=st;exact⟨o,e,λv z=>by rw[d]at z;cases z⟩
 keep:=λi h h' st k=>st.at λo e=>k a' (by simp) o e
 item:=by intro X bK hw fu a7 i a4 s G H E D hf st aI;subst bK hw fu;obtain⟨xs,x,aQ,ag⟩:=aI;obtain⟨b6,cA,p,aR⟩:=D.tuple aQ;obtain⟨u,bz,h8⟩:=cA.get ag;obtain⟨fT,dS,f2,dw,fa,fb⟩:=hf a' (by simp);refine ajG st (show s.heap.IsTuple a b6.toArray from p) (x:=u) (by simpa using bz) λh' lI cF=>?_;have aP:Inv X a4 G H {s with heap:=h'}:=D.turned (t':=s.toks) (λb o a0 e=>(cF.2 b a0).trans e) fT dS dw fa fb;obtain⟨o,e,c,d⟩:=id lI;exact⟨u,Y,yl (s:={s with heap:=h'}) e c d (by decide) ⟨x,H,aP,h8,⟨Y,λ_ bl=>by rw[D.a1z bl aQ];exact ag⟩,lI,λb a0=>(hf b a0).1⟩⟩
 done:=by intro X bK hw fu a7 i a4 s G H E D hf st aI;subst bK hw fu;obtain⟨xs,aQ,ag⟩:=aI;obtain⟨b6,cA,p,aR⟩:=D.tuple aQ;obtain⟨fT,dS,f2,dw,fa,fb⟩:=hf a' (by simp);have aq:=cA.length;exact wpAny_pyNext_tuple_end (D.ok.hd a7) st (show s.heap.IsTuple a b6.toArray from p) (by simp;omega) λh' h9=>⟨Y,D.turned (t':=s.toks) (λb o a0 e=>h9 b o a0 e) fT dS dw fa fb⟩
 self:=λ_ _ _ _ _ st h=>ajE st h
theorem a1K(a':I)(lo:Int)(n:Nat):ru P w K tg (sA lo n) [a'] a' (λi h=>Pj h a' (lo+(i:Nat)*1) ((n:Int)-(i:Nat)) 1) where
 mem:=by simp
 obj:=λi h st b a0=>by
  have e:b=a':=by simpa using a0
  subst e;exact⟨_,st,λv z=>by have mq:Data.fields _=Data.cell v:=z;cases mq⟩
 keep:=λi h h' st k=>k a' (by simp) _ st
 item:=by intro X bK hw fu a7 i a4 s G H E D hf st aI;subst bK hw fu;obtain⟨fT,dS,f2,dw,fa,fb⟩:=hf a' (by simp);have W:=aj5 (prog:=X.prog) (w:=X.w) (D.ok.hd a7) a' lo 1 n;refine W.item i s _ _ aI st λv h' tk bk lI c7=>?_;obtain⟨t,rfl⟩:=bk;have aP:Inv X a4 G H {s with heap:=h',toks:=tk}:=D.turned (λb o a0 e=>c7 b o (by simpa using a0) e) fT dS dw fa fb;refine⟨_,Y,yl (s:={s with heap:=h',toks:=tk}) (n:="range_iterator") lI Y Y (by decide) ⟨.int (lo+i),H,aP,⟨t,?_⟩,⟨Y,Y⟩,lI,λb a0=>(hf b a0).1⟩⟩;rw[Int.mul_one]
 done:=by intro X bK hw fu a7 i a4 s G H E D hf st aI;subst bK hw fu;obtain⟨fT,dS,f2,dw,fa,fb⟩:=hf a' (by simp);exact ajF (D.ok.hd a7) st (by have:n<=i:=aI;omega) λh' h9=>⟨Y,D.turned (t':=s.toks) (λb o a0 e=>h9 b o a0 e) fT dS dw fa fb⟩
 self:=λ_ _ _ _ _ st h=>ajD st h
variable{p:Pos}
def Qg(K:bj)(dU:b'):TI:=λG H R=>dU G H λx ai=>∃a,x=.ref a/\(∃xs,bp K ai a xs)/\R (uh K a) ai
def a1L(K:bj)(dU:b'):TI:=λG H R=>dU G H λx ai=>∃a,x=.ref a/\(∃xs,dq K ai a xs)/\R (ui K a) ai
theorem nQ{l:bP}{dU:b'}(aq:bT X l dU):qo X tg l (Qg X.K dU):=by
 intro a4 s G H R D h;refine bW (aq a4 s G H _ D h) λv s1 ⟨x,ai,aP,cv,bx⟩=>?_;obtain⟨a,e,⟨_,aQ⟩,q⟩:=bx;subst e;cases cv;obtain⟨_,_,p,_⟩:=aP.list aQ;refine a0S p.isList ?_;refine⟨s1.heap.objs.size,[s1.heap.objs.size],_,_,ai,Y,aP.kept (t':=s1.toks) λb o e=>e9 _ e,a1I a _,⟨_,hP _ Y,Y,Y⟩,λb a0=>?_,q⟩;have e:b=s1.heap.objs.size:=by simpa using a0
 subst e;exact aP.qn (cO _) (aP.bR.fresh (cO _))
theorem Jj{l:bP}{dU:b'}(aq:bT X l dU):qo X tg l (a1L X.K dU):=by
 intro a4 s G H R D h;refine bW (aq a4 s G H _ D h) λv s1 ⟨x,ai,aP,cv,bx⟩=>?_;obtain⟨a,e,⟨_,aQ⟩,q⟩:=bx;subst e;cases cv;obtain⟨b6,_,p,_⟩:=aP.tuple aQ;refine IK (show s1.heap.IsTuple a b6.toArray from p) ?_;refine⟨s1.heap.objs.size,[s1.heap.objs.size],_,_,ai,Y,aP.kept (t':=s1.toks) λb o e=>e9 _ e,a1J a _,⟨_,hP _ Y,Y,Y⟩,λb a0=>?_,q⟩;have e:b=s1.heap.objs.size:=by simpa using a0
 subst e;exact aP.qn (cO _) (aP.bR.fresh (cO _))
theorem a1M{R:jC->ak->Prop}{lo hi:Int}{t u v:jy}{tk:Nat}(D:Inv X a4 G H s)(O: -(2^62)<=lo)(a5:lo<2^62)(aG: -(2^62)<=hi)(cG:hi<2^62)(q:R (sA lo (hi-lo).toNat) H):b8 (bq X.prog X.w) X.A (DY (.ref s.heap.objs.size)) (Et X a4 G tg R) E {s with heap:=s.heap.push {cls:=.type "range",data:=.fields #[.int lo t,.int hi u,.int 1 v]},toks:=tk}:=by
 refine ajC (aiL ..) (small_one O a5 aG cG) ?_;have aP:Inv X a4 G H {s with heap:=s.heap.push {cls:=.type "range",data:=.fields #[.int lo t,.int hi u,.int 1 v]},toks:=tk}:=D.kept λb o e=>e9 _ e;refine⟨(s.heap.push {cls:=.type "range",data:=.fields #[.int lo t,.int hi u,.int 1 v]}).objs.size,[(s.heap.push {cls:=.type "range",data:=.fields #[.int lo t,.int hi u,.int 1 v]}).objs.size],_,_,H,Y,aP.kept (t':=tk) λb o e=>e9 _ e,a1K _ lo (hi-lo).toNat,?_,λb a0=>?_,q⟩
 .have aO:lo+((0:Nat):Int)*1=lo:=by simp
  have aT:(((hi-lo).toNat:Nat):Int)-((0:Nat):Int)=a08 lo hi 1:=by rw[rangeSize_one];split<;>omega
  show Pj _ _ (lo+((0:Nat):Int)*1) ((((hi-lo).toNat:Nat):Int)-((0:Nat):Int)) 1;rw[aO,aT];exact hP _ Y
 have e:b=(s.heap.push {cls:=.type "range",data:=.fields #[.int lo t,.int hi u,.int 1 v]}).objs.size:=by simpa using a0
 subst e;exact aP.qn (cO _) (aP.bR.fresh (cO _))
def a1N(c0:gE):TI:=λG H R=>c0 G H λvs ai=>∃j:Int,vs=[.int j]/\ -(2^62)<=j/\j<2^62/\R (sA 0 j.toNat) ai
theorem AI{a:bP}{c0:gE}(aI:hA X "range")(hm:X.a6 "range" =aa)(bf:hz X [a] c0)(ax:fC [a] X.env=[(aJ,eval a X.env)]:=by rfl):qo X tg (.Call (.Name "range" p) [a] [] pos) (a1N c0):=by intro a4 s G H R D h;refine Il (vZ D aI hm boot_range (DK (bW (bf pos a4 s G H _ D h) λ_ _ ⟨_,_,aP,cv,bx⟩=>?_) ax Y));obtain⟨j,e,bx,cw,q⟩:=bx;subst e;cases cv with|cons r iC=>cases iC;obtain⟨t,rfl⟩:=r;exact call_range_1 (a1M aP (by omega) (by omega) bx cw (by simpa using q))
def Qh(gF:TI)(g:gR)(cu:er):er:=λaf G H=>gF G H λd4 ai=>∃W:Nat->Nat->St->ak->Prop,(∃m,W 0 m G ai)/\∀i m G H,W i m G H->(d4.stop i H/\af.c6 G H)∨(d4.go i H/\∃N:St->ak->Prop,(∀aM H',N aM H'->∃m',m'<m/\W (i+1) m' aM H')/\∀x H',d4.jO i H x H'->g x G H' λcP au=>cu {af with c6:=N,en:=N,gD:=af.c6} cP au)
def w2(bO:List I)(h:br):List (I×bJ):=bO.filterMap λb=>(h.get? b).map λo=>(b,o)
theorem ym{bO:List I}{o:bJ}(a0:b∈bO)(e:h.get? b=B o):(b,o)∈w2 bO h:=vE.mpr ⟨b,a0,by rw[e];rfl⟩
theorem a1O{bO:List I}{p:I×bJ}(ar:p∈w2 bO h):p.1∈bO/\h.get? p.1=B p.2:=by obtain⟨b,a0,e⟩:=vE.mp ar;cases q:h.get? b with|none=>rw[q]at e;cases e|some o=>rw[q]at e;have d7:(b,o)=p:=gX e;subst d7;exact⟨a0,q⟩
theorem Inv.pinned{bO:List I}(D:Inv X a4 G H s)(hf:∀b∈bO,kD X a4 H b)(aU:∀b∈bO,∃o,s.heap.get? b=B o/\∀v,o.data≠ .cell v):Inv X (a4++w2 bO s.heap) G H s:=
 D.P' λp ar=>(kv.mp ar).elim (λz=>D.pin p (ox _ z)) λz=>by obtain⟨a0,e⟩:=a1O z;obtain⟨fT,dS,f2,_⟩:=hf p.1 a0;obtain⟨o,d7,d⟩:=aU p.1 a0;rw[e]at d7;cases d7;exact⟨e,fT,dS,f2,d⟩
theorem Inv.uj{pl:List (I×bJ)}(D:Inv X (a4++pl) G H s):Inv X a4 G H s:=D.P' λp ar=>D.pin p (ox _ (se _ ar))
theorem nR{fj:bP}{body:List bH}{gF:TI}{g:gR}{cu:er}(ar:a0j (bq X.prog X.w) X.A X.env X.bN)(a7:X.calm=a9)(hi:qo X tg fj gF)(aI:oN X tg g)(a0:ie X body cu)(ax:∀x,Am fj X.env x=pure x:=by intro _;rfl):jd X (.For tg fj body [] pos) (Qh gF g cu):=by
 intro a4 s G H _ D h;refine wpAny_For (bW (hi a4 s G H _ D h) λv _ O=>bW O λ_ _ a5=>?_) ax;obtain⟨_,bO,tn,_,au,e,cL,T,nS,f2,W,⟨i1,ig⟩,turn⟩:=a5;subst e;have n3:∀{H':ak},(∀b∈bO,H' b=aa)->∀b∈bO,kD X a4 H' b:=λaH b a0=>⟨aH b a0,(f2 b a0).2⟩;refine ajd (λn b3=>∃i aM H',Inv X a4 aM H' b3/\tn i b3.heap/\(∀b∈bO,H' b=aa)/\W i n aM H') ?_ i1 ⟨0,G,au,cL,nS,λb a0=>(f2 b a0).1,ig⟩;rintro n bE ⟨i,lH,bc,dG,sC,AJ,n2⟩;obtain⟨stop,Jk⟩|⟨go,N,dD,step⟩:=turn i n lH bc n2
 .refine rg ar (bW (T.done X Y Y Y a7 i a4 bE lH bc X.bN dG (n3 AJ) sC stop) λr s4 ⟨ah,fU⟩=>?_);subst ah;exact vQ ⟨lH,bc,fU,Jk⟩
 refine rg ar (bW (T.item X Y Y Y a7 i a4 bE lH bc X.bN dG (n3 AJ) sC go) λr s4 ⟨u,ah,cG⟩=>?_);subst ah;refine rg ar (bW cG λ_ fV ⟨x,c_,jf,AK,Jl,oR,w3⟩=>?_);have Jm:=jf.pinned (n3 w3) (T.obj _ _ oR);refine rg ar (bW (aI _ fV lH c_ x u _ Jm AK (step x c_ Jl)) λ_ eR ⟨Jn,fK,jg,Jo⟩=>?_);refine rg ar (bW (a0 _ eR Jn fK _ jg Jo) λf jP lJ=>?_);have DT:∀{jh:St}{fm:ak},Inv X (a4++w2 bO fV.heap) jh fm jP->N jh fm->∃m,m<n/\∃i aM H',Inv X a4 aM H' jP/\tn i jP.heap/\(∀b∈bO,H' b=aa)/\W i m aM H':=fun{jh fm} fL n4=>by obtain⟨m',hm,Eu⟩:=dD jh fm n4;refine⟨m',hm,i+1,jh,fm,fL.uj,T.keep _ _ _ oR λb a0 o e=>(fL.pin (b,o) (ox _ (ox _ (ym a0 e)))).1,λb a0=>?_,Eu⟩;obtain⟨o,e,d⟩:=T.obj _ _ oR b a0;exact(fL.pin (b,o) (ox _ (ox _ (ym a0 e)))).2.1
 cases f with|next=>obtain⟨jh,fm,fL,n4⟩:=lJ;exact DT fL n4|cont=>obtain⟨jh,fm,fL,n4⟩:=lJ;exact DT fL n4|brk=>obtain⟨jh,fm,fL,lJ⟩:=lJ;exact⟨jh,fm,fL.uj,lJ⟩|ret v=>obtain⟨Jp,jh,fm,fL,w4,lJ⟩:=lJ;exact⟨Jp,jh,fm,fL.uj,w4,lJ⟩
theorem yn{g:gR}{cu:er}(Pv:Nat->St->ak->Prop)(b9:Pv 0 G H)(aq:∀i G H,i<=xs.length->Pv i G H->bp K H a xs)(ax:∀i x G H,xs[i]? =B x->Pv i G H->g x G H λcP au=>cu {af with c6:=Pv (i+1),en:=Pv (i+1),gD:=af.c6} cP au)(hd:∀G H,Pv xs.length G H->af.c6 G H):∃W:Nat->Nat->St->ak->Prop,(∃m,W 0 m G H)/\∀i m G H,W i m G H->((uh K a).stop i H/\af.c6 G H)∨((uh K a).go i H/\∃N:St->ak->Prop,(∀aM H',N aM H'->∃m',m'<m/\W (i+1) m' aM H')/\∀x H',(uh K a).jO i H x H'->g x G H' λcP au=>cu {af with c6:=N,en:=N,gD:=af.c6} cP au):=by
 refine⟨λi m G H=>m=xs.length-i/\i<=xs.length/\Pv i G H,⟨xs.length,by simp,ek _,b9⟩,?_⟩;rintro i m G H ⟨rfl,hi,p⟩;have q:=aq i G H hi p;by_cases c4:i<xs.length
 .refine .inr ⟨⟨xs,xs[i],q,by simp[c4]⟩,Pv (i+1),λaM H' fM=>⟨xs.length-(i+1),by omega,Y,c4,fM⟩,λx H' y=>?_⟩;obtain⟨e,y⟩:=y;subst e;exact ax i x G _ (y xs q) p
 have e:i=xs.length:=by omega
 subst e;exact .inl ⟨⟨xs,q,cO _⟩,hd G H p⟩
theorem Qi{g:gR}{cu:er}(Pv:Nat->St->ak->Prop)(b9:Pv 0 G H)(aq:∀i G H,i<=xs.length->Pv i G H->dq K H a xs)(ax:∀i x G H,xs[i]? =B x->Pv i G H->g x G H λcP au=>cu {af with c6:=Pv (i+1),en:=Pv (i+1),gD:=af.c6} cP au)(hd:∀G H,Pv xs.length G H->af.c6 G H):∃W:Nat->Nat->St->ak->Prop,(∃m,W 0 m G H)/\∀i m G H,W i m G H->((ui K a).stop i H/\af.c6 G H)∨((ui K a).go i H/\∃N:St->ak->Prop,(∀aM H',N aM H'->∃m',m'<m/\W (i+1) m' aM H')/\∀x H',(ui K a).jO i H x H'->g x G H' λcP au=>cu {af with c6:=N,en:=N,gD:=af.c6} cP au):=by
 refine⟨λi m G H=>m=xs.length-i/\i<=xs.length/\Pv i G H,⟨xs.length,by simp,ek _,b9⟩,?_⟩;rintro i m G H ⟨rfl,hi,p⟩;have q:=aq i G H hi p;by_cases c4:i<xs.length
 .refine .inr ⟨⟨xs,xs[i],q,by simp[c4]⟩,Pv (i+1),λaM H' fM=>⟨xs.length-(i+1),by omega,Y,c4,fM⟩,λx H' y=>?_⟩;obtain⟨e,y⟩:=y;subst e;exact ax i x G _ (y xs q) p
 have e:i=xs.length:=by omega
 subst e;exact .inl ⟨⟨xs,q,cO _⟩,hd G H p⟩
theorem Qj{lo:Int}{n:Nat}{g:gR}{cu:er}(Pv:Nat->St->ak->Prop)(b9:Pv 0 G H)(ax:∀i G H,i<n->Pv i G H->g (.int (lo+i)) G H λcP au=>cu {af with c6:=Pv (i+1),en:=Pv (i+1),gD:=af.c6} cP au)(hd:∀G H,Pv n G H->af.c6 G H):∃W:Nat->Nat->St->ak->Prop,(∃m,W 0 m G H)/\∀i m G H,W i m G H->((sA lo n).stop i H/\af.c6 G H)∨((sA lo n).go i H/\∃N:St->ak->Prop,(∀aM H',N aM H'->∃m',m'<m/\W (i+1) m' aM H')/\∀x H',(sA lo n).jO i H x H'->g x G H' λcP au=>cu {af with c6:=N,en:=N,gD:=af.c6} cP au):=by
 refine⟨λi m G H=>m=n-i/\i<=n/\Pv i G H,⟨n,by simp,ek _,b9⟩,?_⟩;rintro i m G H ⟨rfl,hi,p⟩;by_cases c4:i<n
 .refine .inr ⟨c4,Pv (i+1),λaM H' fM=>⟨n-(i+1),by omega,Y,c4,fM⟩,λx H' y=>?_⟩;obtain⟨e,y⟩:=y;subst e y;exact ax i G _ c4 p
 have e:i=n:=by omega
 subst e;exact .inl ⟨cO _,hd G H p⟩
theorem AL{c:TT}{cu:er}(Pv:St->ak->Prop)(AM:St->ak->Nat)(b9:Pv G H)(ax:∀G H,Pv G H->c G H λb ai=>if b=a9 then cu {af with c6:=λaM H'=>Pv aM H'/\AM aM H'<AM G H,en:=λaM H'=>Pv aM H'/\AM aM H'<AM G H,gD:=af.c6} G ai else af.c6 G ai)(mono:∀G H Q e5,(∀b ai,Q b ai->e5 b ai)->c G H Q->c G H e5):Qe c cu af G H:=by refine⟨λm G H=>m=AM G H/\Pv G H,⟨_,Y,b9⟩,?_⟩;rintro m G H ⟨rfl,p⟩;refine mono G H _ _ (λb ai q=>?_) (ax G H p);cases b with|true=>exact⟨_,λaM H' ⟨fM,l⟩=>⟨_,l,rfl,fM⟩,q⟩|false=>exact q
abbrev ke:=V->V->ak->cR->Prop
def hr(X:bB)(f:ae->ae->hQ ae)(r:ke):Prop:=
 ∀(a4:List (I×bJ))(s:ay)(G:St)(H:ak)(x y:V)(v u:ae)(Q:cR),Inv X a4 G H s->RelV x v->RelV y u->r x y H Q->b8 (bq X.prog X.w) X.A (f v u) (i0 X a4 G Q) X.bN s
def Jq(X:bB)(f:ae->hQ ae)(r:V->ak->cR->Prop):Prop:=
 ∀(a4:List (I×bJ))(s:ay)(G:St)(H:ak)(x:V)(v:ae)(Q:cR),Inv X a4 G H s->RelV x v->r x H Q->b8 (bq X.prog X.w) X.A (f v) (i0 X a4 G Q) X.bN s
def pK(X:bB)(f:ae)(r:List V->ak->cR->Prop):Prop:=
 ∀(a4:List (I×bJ))(s:ay)(G:St)(H:ak)(xs:List V)(us:List ae)(Q:cR),Inv X a4 G H s->cB xs us->r xs H Q->b8 (bq X.prog X.w) X.A (mU f us) (i0 X a4 G Q) X.bN s
def pL(r:ke)(c0 cu:b'):b':=λG H Q=>c0 G H λx ai=>cu G ai λy au=>r x y au Q
def a1P(r:V->ak->cR->Prop)(c0:b'):b':=λG H Q=>c0 G H λx ai=>r x ai Q
def Ew(C:Int->Int->Prop)(g:Int->Int->V):ke:=λx y H Q=>∃i j,x=.int i/\y=.int j/\C i j/\Q (g i j) H
def mu(g:Int->Int->V):ke:=λx y H Q=>∃i j,x=.int i/\y=.int j/\Q (g i j) H
def Qk(g:Int->V):V->ak->cR->Prop:=λx H Q=>∃i,x=.int i/\Q (g i) H
variable{f:ae->ae->hQ ae}
section
variable{a b:bP}{kC:b'}
theorem Jr(bf:bT X a c0)(a0:bT X b cu){R:V->V->ak->Prop}(D:Inv X a4 G H s)(h:c0 G H λx ai=>cu G ai λy au=>R x y au)(hf:∀v u s2 x y au,Inv X a4 G au s2->RelV x v->RelV y u->R x y au->b8 (bq X.prog X.w) X.A (f v u) Q X.bN s2):b8 (bq X.prog X.w) X.A (eval a X.env) (λv du=>b8 (bq X.prog X.w) X.A (eval b X.env) (λu iX=>b8 (bq X.prog X.w) X.A (f v u) Q X.bN iX) X.bN du) X.bN s:=by refine bW (bf a4 s G H _ D h) λv s1 ⟨x,ai,aP,cv,bx⟩=>?_;refine bW (a0 a4 s1 G ai _ aP bx) λu s2 ⟨y,au,cL,dR,cw⟩=>?_;exact hf v u s2 x y au cL cv dR cw
theorem da{op:Iu}{r:ke}(aU:hr X (sl op) r)(bf:bT X a c0)(a0:bT X b cu):bT X (.BinOp a op b pos) (pL r c0 cu):=by intro a4 s G H Q D h;exact wpAny_BinOp (Jr bf a0 D h λv u s2 x y au cL cp cC q=>aU a4 s2 G au x y v u Q cL cp cC q)
theorem AN{op:UnaryOp}{r:V->ak->cR->Prop}(aU:Jq X (unaryOp op) r)(bf:bT X a c0):bT X (.UnaryOp op a pos) (a1P r c0):=by intro a4 s G H Q D h;exact UnaryOp_ (bW (bf a4 s G H _ D h) λv s1 ⟨x,ai,aP,cv,bx⟩=>aU a4 s1 G ai x v Q aP cv bx)
theorem Js{C:Int->Int->Prop}{g:Int->Int->Int}(qh:∀(i j:Int)(t u:jy)(s:ay)(Q:ae->ay->Prop)(E:ae->ay->Prop),C i j->Q (.int (g i j) s.toks) {s with toks:=s.toks+1}->b8 (bq X.prog X.w) X.A (f (.int i t) (.int j u)) Q E s):hr X f (Ew C λi j=>.int (g i j)):=by intro _ s G H x y v u Q D cp cC h;obtain⟨i,j,rfl,rfl,a7,q⟩:=h;obtain⟨t,rfl⟩:=cp;obtain⟨t',rfl⟩:=cC;exact qh i j t t' s _ _ a7 ⟨.int (g i j),H,D.tok _,⟨_,Y⟩,q⟩
theorem Ex{g:Int->Int->Int}(qh:∀(i j:Int)(t u:jy)(s:ay)(Q:ae->ay->Prop)(E:ae->ay->Prop),Q (.int (g i j) s.toks) {s with toks:=s.toks+1}->b8 (bq X.prog X.w) X.A (f (.int i t) (.int j u)) Q E s):hr X f (mu λi j=>.int (g i j)):=by intro _ s G H x y v u Q D cp cC h;obtain⟨i,j,rfl,rfl,q⟩:=h;obtain⟨t,rfl⟩:=cp;obtain⟨t',rfl⟩:=cC;exact qh i j t t' s _ _ ⟨.int (g i j),H,D.tok _,⟨_,Y⟩,q⟩
theorem Ey{g:Int->Int->Bool}(qh:∀(i j:Int)(t u:jy)(s:ay)(Q:ae->ay->Prop)(E:ae->ay->Prop),Q (.bool (g i j)) s->b8 (bq X.prog X.w) X.A (f (.int i t) (.int j u)) Q E s):hr X f (mu λi j=>.c1 (g i j)):=by intro _ s G H x y v u Q D cp cC h;obtain⟨i,j,rfl,rfl,q⟩:=h;obtain⟨t,rfl⟩:=cp;obtain⟨t',rfl⟩:=cC;exact qh i j t t' s _ _ ⟨.c1 (g i j),H,D,Y,q⟩
def a1Q(i j:Int):Prop:=0<j/\j<1073741824
def Jt(i j:Int):Prop:=(-(2^64)<i/\i<2^64)∨(-(2^64)<j/\j<2^64)
theorem Jt.ok{i j:Int}(h:Jt i j):IntMulOk i j:=by
 obtain⟨O,a5⟩|⟨O,a5⟩:=h
 .exact .of_left (ajh O a5)
 exact .of_right (ajh O a5)
theorem nT:hr X (sl .Add) (mu λi j=>.int (i+j)):=Ex λ_ _ _ _ _ _ _ q=>add_int q
theorem nU:hr X (sl .Sub) (mu λi j=>.int (i-j)):=Ex λ_ _ _ _ _ _ _ q=>sub_int q
theorem w5:hr X (sl .Mult) (Ew Jt λi j=>.int (i*j)):=Js λ_ _ _ _ _ _ _ a7 q=>mul_int q a7.ok
theorem Ez:hr X (sl .FloorDiv) (Ew a1Q λi j=>.int (i/j)):=Js λi j _ _ _ _ _ a7 q=>by have O:(0:Int)<j:=a7.1;have a5:j<1073741824:=a7.2;exact floordiv_int (by omega) (by rw[Int.fdiv_eq_ediv_of_nonneg i (by omega)];exact q) (.inl (ais (by omega)))
theorem EA:hr X (sl .Mod) (Ew (λ_ j=>0<j) λi j=>.int (i%j)):=Js λi j _ _ _ _ _ a7 q=>by have O:(0:Int)<j:=a7;exact mod_int' (by omega) (by rw[Int.fmod_eq_emod_of_nonneg i (by omega)];exact q)
theorem a1R:hr X (sl .BitAnd) (mu λi j=>.int (a0a i j)):=Ex λ_ _ _ _ _ _ _ q=>and_int q
theorem EB:hr X (IC .Add) (mu λi j=>.int (i+j)):=Ex λ_ _ _ _ _ _ _ q=>ain q
theorem a1S{f:ae->hQ ae}{g:Int->Int}(qh:∀(i:Int)(t:jy)(s:ay)(Q:ae->ay->Prop)(E:ae->ay->Prop),Q (.int (g i) s.toks) {s with toks:=s.toks+1}->b8 (bq X.prog X.w) X.A (f (.int i t)) Q E s):Jq X f (Qk λi=>.int (g i)):=by intro _ s G H x v Q D cp h;obtain⟨i,rfl,q⟩:=h;obtain⟨t,rfl⟩:=cp;exact qh i t s _ _ ⟨.int (g i),H,D.tok _,⟨_,Y⟩,q⟩
theorem AO:Jq X (unaryOp .USub) (Qk λi=>.int (-i)):=a1S λ_ _ _ _ _ q=>neg_int q
end
def Ql:V->V->Bool
 |.bS,.bS=>a9|.bS,.int _=>a9|.int _,.bS=>a9|.bS,.c1 _=>a9|.c1 _,.bS=>a9|.bS,.str _=>a9|.str _,.bS=>a9
 |.int _,.int _=>a9|.c1 _,.c1 _=>a9|.str _,.str _=>a9|.lE _,.lE _=>a9
 |.int _,.str _=>a9|.str _,.int _=>a9|.c1 _,.str _=>a9|.str _,.c1 _=>a9
 |_,_=>aJ
def Ju:ke:=λx y H Q=>Ql x y=a9/\Q (.c1 (decide (x=y))) H
def a1T:ke:=λx y H Q=>Ql x y=a9/\Q (.c1 (!decide (x=y))) H
theorem nV{i j:Int}:decide (V.int i=V.int j)=(i==j):=by rw[hM];simp
theorem Qm{i j:Bool}:decide (V.c1 i=V.c1 j)=(i==j):=by rw[hM];simp
theorem Qn{i j:a8}:decide (V.str i=V.str j)=(i==j):=by rw[hM];simp
theorem Qo{i j:Array UInt8}:decide (V.lE i=V.lE j)=(i.toList==j.toList):=by rw[hM];cases i;cases j;simp
section
variable{a b:bP}{kC:b'}
theorem ha{Q:cR}{k kE:Bool}(D:Inv X a4 G H s)(q:Q (.c1 k) H)(e:k=kE):i0 X a4 G Q (.bool kE) s:=by subst e;exact⟨.c1 k,H,D,Y,q⟩
theorem dz:hr X (mV .Eq) Ju:=by
 intro _ s G H x y v u Q D cp cC h;obtain⟨ax,q⟩:=h;cases x with
 |bS=>cases cp;cases y with|bS=>cases cC;exact alu (ha D q (by simp))|c1 j=>cases cC;exact alr (ha D q (by simp))|int j=>obtain⟨t',rfl⟩:=cC;exact als (ha D q (by simp))|str j=>obtain⟨t',rfl⟩:=cC;exact alv (ha D q (by simp))|_=>exact absurd (show aJ=a9 from ax) hX
 |c1 i=>cases cp;cases y with|bS=>cases cC;exact alp (ha D q (by simp))|c1 j=>cases cC;exact eq_bool (ha D q Qm)|str j=>obtain⟨t',rfl⟩:=cC;exact alg (ha D q (by simp))|_=>exact absurd (show aJ=a9 from ax) hX
 |int i=>obtain⟨t,rfl⟩:=cp;cases y with|bS=>cases cC;exact alq (ha D q (by simp))|int j=>obtain⟨t',rfl⟩:=cC;exact eq_int (ha D q nV)|str j=>obtain⟨t',rfl⟩:=cC;exact alh (ha D q (by simp))|_=>exact absurd (show aJ=a9 from ax) hX
 |str i=>obtain⟨t,rfl⟩:=cp;cases y with|bS=>cases cC;exact alw (ha D q (by simp))|c1 j=>cases cC;exact ali (ha D q (by simp))|int j=>obtain⟨t',rfl⟩:=cC;exact alj (ha D q (by simp))|str j=>obtain⟨t',rfl⟩:=cC;exact eq_str (ha D q Qn)|_=>exact absurd (show aJ=a9 from ax) hX
 |lE i=>obtain⟨t,rfl⟩:=cp;cases y with|lE j=>obtain⟨t',rfl⟩:=cC;exact PySem.W.eq_bytes (ha D q Qo)|_=>exact absurd (show aJ=a9 from ax) hX
 |_=>cases y<;>exact absurd (show aJ=a9 from ax) hX
theorem nW:hr X (mV .NotEq) a1T:=by
 intro _ s G H x y v u Q D cp cC h;obtain⟨ax,q⟩:=h;cases x with
 |bS=>cases cp;cases y with|bS=>cases cC;exact alB (ha D q (by simp))|c1 j=>cases cC;exact alz (ha D q (by simp))|int j=>obtain⟨t',rfl⟩:=cC;exact alA (ha D q (by simp))|str j=>obtain⟨t',rfl⟩:=cC;exact alC (ha D q (by simp))|_=>exact absurd (show aJ=a9 from ax) hX
 |c1 i=>cases cp;cases y with|bS=>cases cC;exact alx (ha D q (by simp))|c1 j=>cases cC;exact ne_bool (ha D q (f_ not Qm))|str j=>obtain⟨t',rfl⟩:=cC;exact alk (ha D q (by simp))|_=>exact absurd (show aJ=a9 from ax) hX
 |int i=>obtain⟨t,rfl⟩:=cp;cases y with|bS=>cases cC;exact aly (ha D q (by simp))|int j=>obtain⟨t',rfl⟩:=cC;exact ne_int (ha D q (f_ not nV))|str j=>obtain⟨t',rfl⟩:=cC;exact alm (ha D q (by simp))|_=>exact absurd (show aJ=a9 from ax) hX
 |str i=>obtain⟨t,rfl⟩:=cp;cases y with|bS=>cases cC;exact alD (ha D q (by simp))|c1 j=>cases cC;exact aln (ha D q (by simp))|int j=>obtain⟨t',rfl⟩:=cC;exact alo (ha D q (by simp))|str j=>obtain⟨t',rfl⟩:=cC;exact ne_str (ha D q (f_ not Qn))|_=>exact absurd (show aJ=a9 from ax) hX
 |lE i=>obtain⟨t,rfl⟩:=cp;cases y with|lE j=>obtain⟨t',rfl⟩:=cC;exact PySem.W.ne_bytes (ha D q (f_ not Qo))|_=>exact absurd (show aJ=a9 from ax) hX
 |_=>cases y<;>exact absurd (show aJ=a9 from ax) hX
theorem oS:hr X (mV .Lt) (mu λi j=>.c1 (decide (i<j))):=Ey λ_ _ _ _ _ _ _ q=>aio q
theorem rv:hr X (mV .LtE) (mu λi j=>.c1 (decide (i<=j))):=Ey λ_ _ _ _ _ _ _ q=>le_int q
theorem rx:hr X (mV .Gt) (mu λi j=>.c1 (decide (j<i))):=Ey λ_ _ _ _ _ _ _ q=>gt_int q
theorem EC:hr X (mV .GtE) (mu λi j=>.c1 (decide (j<=i))):=Ey λ_ _ _ _ _ _ _ q=>ge_int q
theorem cq(b:bP)(h:op≠ .In:=by decide)(a5:op≠ .NotIn:=by decide):Al op b=aJ:=by
 have aO:(op==aiw)=aJ:=by cases op<;>first|rfl|exact absurd Y h
 have aT:(op==aix)=aJ:=by cases op<;>first|rfl|exact absurd Y a5
 cases b<;>simp[Al,aO,aT]
theorem gG{r:ke}(aU:hr X (mV op) r)(bf:bT X a c0)(a0:bT X b cu)(hm:Al op b=aJ):bT X (.Compare a [op] [b] pos) (pL r c0 cu):=by intro a4 s G H Q D h;exact wpAny_Compare1 (Jr bf a0 D h λv u s2 x y au cL cp cC q=>aU a4 s2 G au x y v u Q cL cp cC q) hm
def AP(t:b'):TT:=λG H Q=>t G H λx H'=>∃k,x=.c1 k/\Q k H'
theorem c'{r:ke}(aU:hr X (mV op) r)(bf:bT X a c0)(a0:bT X b cu)(hm:Al op b=aJ):n0 X (.Compare a [op] [b] pos) (AP (pL r c0 cu)):=by intro a4 s G H Q D h;refine aju (bW (bf a4 s G H _ D h) λv s1 ⟨x,ai,aP,cv,bx⟩=>bW (a0 a4 s1 G ai _ aP bx) λu s2 ⟨y,au,cL,dR,cw⟩=>bW (aU a4 s2 G au x y v u _ cL cv dR cw) λc _ ⟨z,bc,dG,sD,k,e,h1⟩=>?_) hm;subst e;cases sD;exact u6 ⟨bc,dG,h1⟩
def Jv(r gq:ke)(c0 cu kC:b'):b':=λG H Q=>c0 G H λx ai=>cu G ai λy au=>r x y au λz bc=>∃k,z=.c1 k/\(if k=a9 then kC G bc λjb cT=>gq y jb cT Q else Q (.c1 aJ) bc)
theorem Jw{w6:xP}{r gq:ke}(aU:hr X (mV op) r)(mn:hr X (mV w6) gq)(bf:bT X a c0)(a0:bT X b cu)(a7:bT X c kC)(hm:lastMarks [op,w6] [b,c]=aJ:=by with_unfolding_all rfl):bT X (.Compare a [op,w6] [b,c] pos) (Jv r gq c0 cu kC):=by intro a4 s G H Q D h;refine Compare_chain (bW (bf a4 s G H _ D h) λv s1 ⟨x,ai,aP,cv,bx⟩=>chain_link (bW (a0 a4 s1 G ai _ aP bx) λu s2 ⟨y,au,cL,dR,cw⟩=>bW (aU a4 s2 G au x y v u _ cL cv dR cw) λd bE ⟨z,bc,dG,sD,k,e,h1⟩=>?_)) hm;subst e;cases sD;refine u6 ?_;cases k with|false=>exact ite_ff ⟨.c1 aJ,bc,dG,rfl,h1⟩|true=>exact ite_tt (chain_last (bW (a7 a4 bE G bc _ dG h1) λjb s4 ⟨mq,cT,fU,AQ,AR⟩=>mn a4 s4 G cT y mq u jb Q fU dR AQ AR))
theorem Jx{w6:xP}{r gq:ke}(aU:hr X (mV op) r)(mn:hr X (mV w6) gq)(bf:bT X a c0)(a0:bT X b cu)(a7:bT X c kC)(hm:lastMarks [op,w6] [b,c]=aJ:=by with_unfolding_all rfl):n0 X (.Compare a [op,w6] [b,c] pos) (AP (Jv r gq c0 cu kC)):=by intro a4 s G H Q D h;refine isTrue_chain (bW (bf a4 s G H _ D h) λv s1 ⟨x,ai,aP,cv,bx⟩=>test_link (bW (a0 a4 s1 G ai _ aP bx) λu s2 ⟨y,au,cL,dR,cw⟩=>bW (aU a4 s2 G au x y v u _ cL cv dR cw) λd bE ⟨z,bc,dG,sD,k,e,h1⟩=>?_)) hm;subst e;cases sD;refine u6 ?_;cases k with|false=>obtain⟨_,d7,eQ⟩:=h1;cases d7;exact ite_ff ⟨bc,dG,eQ⟩|true=>refine ite_tt (test_last (bW (a7 a4 bE G bc _ dG h1) λjb s4 ⟨mq,cT,fU,AQ,AR⟩=>bW (mn a4 s4 G cT y mq u jb _ fU dR AQ AR) λ_ _ ⟨_,c_,jf,AK,_,aT,yo⟩=>?_));subst aT;cases AK;exact u6 ⟨c_,jf,yo⟩
theorem yp:(cM:Nat)<2^63:=by rw[Py];decide
theorem oT:hr X (sl .Add) (λx y H Q=>∃i j,x=.str i/\y=.str j/\i.length+j.length<=cM/\Q (.str (i++j)) H):=by intro _ s G H x y v u Q D cp cC h;obtain⟨i,j,rfl,rfl,aR,q⟩:=h;obtain⟨t,rfl⟩:=cp;obtain⟨t',rfl⟩:=cC;exact add_str (λt' _=>⟨.str (i++j),H,D.tok _,⟨_,Y⟩,q⟩) aR
theorem Jy:hr X (IC .Add) (λx y H Q=>∃i j,x=.str i/\y=.str j/\i.length+j.length<=cM/\Q (.str (i++j)) H):=by intro _ s G H x y v u Q D cp cC h;obtain⟨i,j,rfl,rfl,aR,q⟩:=h;obtain⟨t,rfl⟩:=cp;obtain⟨t',rfl⟩:=cC;exact iadd_str (λt' _=>⟨.str (i++j),H,D.tok _,⟨_,Y⟩,q⟩) aR
theorem vals1{x:V}(r:cB [x] us):∃u,us=[u]/\RelV x u:=by cases r with|cons cv dR=>cases dR;exact⟨_,Y,cv⟩
theorem vals2{x y:V}(r:cB [x,y] us):∃u jb,us=[u,jb]/\RelV x u/\RelV y jb:=by
 cases r with
 |cons cv dR=>cases dR with|cons sD AQ=>cases AQ;exact⟨_,_,Y,cv,sD⟩
theorem Qp(a7:X.calm=a9):pK X (.builtin "max") (λxs H Q=>∃i j,xs=[.int i,.int j]/\Q (.int (if j>i then j else i)) H):=by
 intro _ s G H xs _ Q D r h;obtain⟨i,j,rfl,q⟩:=h;obtain⟨u,_,rfl,⟨t,rfl⟩,⟨_,rfl⟩⟩:=vals2 r;refine max_two_ints (D.ok.hd a7) λ_ _ k=>⟨_,H,D.kept k,?_,q⟩;by_cases bX:j>i
 .rw[aZ bX,aZ bX];exact⟨_,Y⟩
 rw[aL bX,aL bX];exact⟨_,Y⟩
theorem Jz:pK X (.type "str") (λxs H Q=>∃i,xs=[.int i]/\i.natAbs.log2<1920/\Q (.str (toString i)) H):=by intro _ s G H xs _ Q D r h;obtain⟨i,rfl,aR,q⟩:=h;obtain⟨u,rfl,t,rfl⟩:=vals1 r;exact PySem.P.str_of_int aR ⟨.str _,H,D.tok _,⟨_,Y⟩,q⟩
theorem sE:pK X (.builtin "ord") (λxs H Q=>∃x,xs=[.str x]/\x.length=1/\Q (.int (x.cps.getD 0 0:Nat)) H):=by intro _ s G H xs _ Q D r h;obtain⟨x,rfl,aR,q⟩:=h;obtain⟨u,rfl,t,rfl⟩:=vals1 r;exact ord_of_one aR ⟨.int _,H,D.tok _,⟨_,Y⟩,q⟩
end
structure w7 (h:br) (x a3 C:I) (mA:a8->Option ae):Prop where
 obj:h.get? x=B (xS C a3)
 ns:h.Ns1 a3 mA
 ne:a3≠x
variable{a3:I}{mA:a8->Option ae}
theorem a1U(n:h.Ns1 a3 mA):∃od,h.get? a3=B od/\∀name,Pq name od=B (mA name):=by
 obtain⟨o,b7,_,aU,hd,aA,_,hm⟩:=n;refine⟨o,aU,λname=>?_⟩;have e:=hm name;unfold An findBy at e;rw[<-Array.find?_toList]at e;unfold Pq;rw[hd];dsimp only;split
 .rename_i y q
  rw[q]at e;exact f_ B e
 rename_i q
 rw[q]at e;have a:b7.toList.any (·.refKey)=aJ:=by rw[Zz];intro y bl;obtain⟨z,t,a1V⟩:=aA y (ahB.mp bl);simp[DictEntry.refKey,a1V]
 have hB:¬b7.toList.any (·.refKey)=a9:=by rw[a];exact hX
 rw[aL hB];exact f_ B e
variable{C:I}
theorem w7.look{x:I}(D:w7 h x a3 C mA):∃od,PySem.W.InstAt h x (xS C a3) C (B od)/\∀name,Pq name od=B (mA name):=
 let⟨od,aU,aq⟩:=a1U D.ns
 ⟨od,⟨D.obj,Y,Y,aU⟩,aq⟩
variable{pl:hQ Bool}
section
variable{prog:bQ}{x f:I}{name:a8}{v:ae}
theorem a1W{AS:Bool}(X:K.In s.heap)(D:w7 s.heap x a3 C mA)(aI:Iz K C name=a9)(bU:Pp K C=a9)(bf:qg K (.ref C) name=B aa)(bk:mA name=B v)(ED:aj1 v=a9)(h:Q v {s with toks:=s.toks+1}):b8 (bq prog w) A (IB (.ref x) name AS) Q E s:=by obtain⟨_,d4,aq⟩:=D.look;exact PySem.W.get_value X d4 (a0p aI).1 (PySem.W.findObj_own bU bf Y (by rw[aq,bk])) ED h
theorem a1X{Q:ae×List ae->ay->Prop}(X:K.In s.heap)(D:w7 s.heap x a3 C mA)(aI:Iz K C name=a9)(hf:qg K (.ref C) name=B (B (.ref f)))(ba:Iy K (.ref f)=a9)(bk:mA name=aa)(h:Q (.ref f,[.ref x]) s):b8 (bq prog w) A (vO (.ref x) name pl) Q E s:=by obtain⟨od,d4,aq⟩:=D.look;exact PySem.W.method_fn X d4 (a0p aI).1 (a0p aI).2 hf (h_.mp ba) (by show(Pq name od).map (·.isSome)=B aJ;rw[aq,bk];rfl) h
theorem a1Y{ns:List a8}{Q:Unit->ay->Prop}(X:K.In s.heap)(D:w7 s.heap x a3 C mA)(ax:qg K (.ref C) "__setattr__" =B (B (.builtin "object.__setattr__")))(ar:a0q K C=a9)(ba:a0r K C name=B aa)(bU:Pp K C=a9)(hw:DS mA ns)(hsz:ns.length<=cM)(h:∀h',w7 h' x a3 C (λy=>if y=name then B v else mA y)->DL a3 s.heap h'->Q () {s with heap:=h',toks:=s.toks+2}):b8 (bq prog w) A (Ap (.ref x) name v) Q E s:=by obtain⟨_,d4,_⟩:=D.look;refine PySem.W.set_plain X d4 ax (PySem.W.osa_open (s:={s with toks:=s.toks+1}) (r:=aa) X d4 ar ba λb=>?_);obtain⟨_,a7,Eh⟩:=PySem.W.any_some bU;have ag:s.heap.get? x=B ⟨.ref C,B a3,.plain,#[]⟩:=D.obj;refine bC (eC (bC (bC (wpAny_loadPart ag (bC (alV (s:={s with toks:=s.toks+1}) (PySem.W.looks_clsIn X a7) ?_))))));rw[Eh];refine eC (a:=B a3) (bC (eC (bC ?_)));refine wpAny_nsSet1 (s:={s with toks:=s.toks+1}) D.ns λh' EE mv=>?_;obtain⟨_,_,_,JA,JB,JC⟩:=EE.count (aj6 name v hw);refine bC (ajz JA (by rw[JB];exact ajk (dC JC (by rw[fQ];omega))) ?_);exact eC (h _ ⟨(mv.2 _ (ed D.ne)).trans D.obj,EE,D.ne⟩ mv)
theorem a22{R:vK->ay->Prop}{vs:List ae}{qp:List (a8×ae)}(X:K.In s.heap)(hm:a0n K C=a9)(hi:qg K (.ref C) "__init__" =B (B (.ref f)))(hf:PySem.W.typeIn K (.ref f)=B (.type "function"))(h:me (bq prog w) (A.under (.builtin "type.__call__" ⟨.ref C::vs,qp⟩)) (.call (.ref f) ⟨.ref (s.heap.objs.size+1)::vs,qp⟩) (PySem.W.InitBack (s.heap.objs.size+1) R) {s with heap:=(s.heap.push vM).push (xS C s.heap.objs.size)}):me (bq prog w) A (.call (.ref C) ⟨vs,qp⟩) R s:=by obtain⟨_,g,d,t,_⟩:=s;exact PySem.W.make_core (PySem.W.makes_of X hm) (PySem.W.looks_findIn X hi) (λself=>PySem.W.bind_fn X self hf) (.inl Y) h
end
def gH(f:a8)(v:V):List (a8×V)->List (a8×V)
 |[]=>[(f,v)]
 |(g,x)::r=>if g=f then(g,v)::r else(g,x)::gH f v r
theorem JD(f g:a8)(v:V):∀fs:List (a8×V),(gH f v fs).lookup g=if g=f then B v else fs.lookup g
 |[]=>by
  show xF g [(f,v)]=_;by_cases h:g=f
  .have a0:(g==f)=a9:=h_.mpr h;simp only[xF,a0,aZ h]
  have a0:(g==f)=aJ:=Ee.mpr h;simp only[xF,a0,aL h]
 |(k,x)::r=>by
  have ih:=JD f g v r;rw[show gH f v ((k,x)::r)=(if k=f then(k,v)::r else(k,x)::gH f v r)from Y];by_cases aA:k=f
  .rw[aZ aA];by_cases h:g=k
   .have a0:(g==k)=a9:=h_.mpr h;simp only[xF,a0,aZ (h.trans aA)]
   have a0:(g==k)=aJ:=Ee.mpr h;simp only[xF,a0,aL (λe:g=f=>h (e.trans aA.symm))]
  rw[aL aA];by_cases h:g=k
  .have a0:(g==k)=a9:=h_.mpr h;simp only[xF,a0,aL (λe:g=f=>aA (h.symm.trans e))]
  have a0:(g==k)=aJ:=Ee.mpr h;simp only[xF,a0];exact ih
theorem AU(f:a8)(v:V):∀fs:List (a8×V),f∈(gH f v fs).map (·.1)/\∀g,g∈fs.map (·.1)->g∈(gH f v fs).map (·.1)
 |[]=>⟨by simp[gH],λg h=>by simp at h⟩
 |(k,x)::r=>by
  obtain⟨gI,g4⟩:=AU f v r;rw[show gH f v ((k,x)::r)=(if k=f then(k,v)::r else(k,x)::gH f v r)from Y];by_cases aA:k=f
  .rw[aZ aA];subst aA;exact⟨by simp,λg h=>by simpa using h⟩
  rw[aL aA];refine⟨?_,λg h=>?_⟩
  .rw[i9];exact ez _ gI
  rw[i9]at h ⊢;obtain e|e:=dx.mp h
  .exact dx.mpr (.inl e)
  exact ez _ (g4 g e)
theorem JE(f:a8)(v:V):∀fs:List (a8×V),(gH f v fs).length<=fs.length+1
 |[]=>by simp[gH]
 |(k,x)::r=>by
  have ih:=JE f v r;rw[show gH f v ((k,x)::r)=(if k=f then(k,v)::r else(k,x)::gH f v r)from Y];by_cases aA:k=f
  .rw[aZ aA,fQ,fQ];omega
  rw[aL aA,fQ,fQ];omega
theorem jN.some_of{v:V}{o:Option ae}(r:jN (B v) o):∃u,o=B u/\RelV v u:=by cases o with|none=>exact(show False from r).elim|some u=>exact⟨u,rfl,r⟩
theorem jN.none_of{o:Option ae}(r:jN aa o):o=aa:=by cases o with|none=>rfl|some u=>exact(show False from r).elim
theorem Qq{v:V}(r:RelV v u):aj1 u=a9:=by cases v with|bS=>cases(show u=eK from r);rfl|c1 b=>cases(show u=mT b from r);rfl|int i=>obtain⟨t,e⟩:=(show∃t,u=vL i t from r);cases e;rfl|str x=>obtain⟨t,e⟩:=(show∃t,u=Pl x t from r);cases e;rfl|lE b=>obtain⟨t,e⟩:=(show∃t,u=aiR b t from r);cases e;rfl|Ay b=>obtain⟨t,e⟩:=(show∃t,u=aiS b t from r);cases e;rfl|ref a=>cases(show u=dM a from r);rfl|ty n=>cases(show u=tY n from r);rfl
variable{fs:List (a8×V)}
section
variable{gZ:List (a8×V)}
theorem JF(bR:f' P w H h)(e:H a=B (.ins C a3 fs)):∃mA,w7 h a a3 C mA/\(∀f,jN (fs.lookup f) (mA f))/\DS mA (fs.map (·.1))/\fs.length<=1000/\H a3=B (.own a):=by obtain⟨d,z,ne,cE,mA,n,r,q⟩:=(show h7 P w H h a (.ins C a3 fs)from bR a _ e);exact⟨mA,⟨cE,n,ne⟩,r,q,z,d⟩
end
structure ij (K:bj) (C:I):Prop where
 qq:Iz K C Aj=a9
 hd:Pp K C=a9
 po:a0q K C=a9
 nX:qg K (.ref C) "__setattr__" =B (B (.builtin "object.__setattr__"))
theorem ij.get(c:ij K C)(f:a8):Iz K C f=a9:=c.qq
def ew(K:bj)(C:I)(f:a8):Prop:=qg K (.ref C) f=B aa
theorem ew.a23{f:a8}(n:ew K C f):a0r K C f=B aa:=by unfold a0r;rw[show qg K (.ref C) f=B aa from n];rfl
structure uk (K:bj) (C:I) (m:a8) (f:I):Prop where
 at_:qg K (.ref C) m=B (B (.ref f))
 fn:Iy K (.ref f)=a9
 dH:nH K (.ref f)=a9
variable{m:a8}
section
variable{f:a8}{v:V}
theorem Qr{b:Bool}(D:Inv X a4 G H s)(e:H a=B (.ins C a3 fs))(c:ij X.K C)(n:ew X.K C f)(l:fs.lookup f=B v)(h:∀u b3,Inv X a4 G H b3->RelV v u->Q u b3):b8 (bq X.prog X.w) A (IB (.ref a) f b) Q E s:=by obtain⟨mA,jQ,r,_,_,_⟩:=JF D.bR e;obtain⟨u,bz,h8⟩:=jN.some_of (v:=v) (o:=mA f) (by rw[<-l];exact r f);exact a1W D.gQ jQ (c.get f) c.hd n bz (Qq h8) (h u _ (D.tok _) h8)
theorem EF{g:I}{Q:ae×List ae->ay->Prop}(D:Inv X a4 G H s)(e:H a=B (.ins C a3 fs))(c:ij X.K C)(k:uk X.K C m g)(l:fs.lookup m=aa)(h:Q (.ref g,[.ref a]) s):b8 (bq X.prog X.w) A (vO (.ref a) m pl) Q E s:=by obtain⟨mA,jQ,r,_,_,_⟩:=JF D.bR e;have aH:mA m=aa:=jN.none_of (by rw[<-l];exact r m);exact a1X D.gQ jQ (c.get m) k.at_ k.fn aH h
theorem Qs{y:V}{Q:Unit->ay->Prop}(D:Inv X a4 G H s)(e:H a=B (.ins C a3 fs))(c:ij X.K C)(n:ew X.K C f)(aq:fs.length<1000)(cC:RelV y u)(h:∀b3,Inv X a4 G (av H a (.ins C a3 (gH f y fs))) b3->Q () b3):b8 (bq X.prog X.w) A (Ap (.ref a) f u) Q E s:=by
 obtain⟨mA,jQ,r,gF,_,aU⟩:=JF D.bR e;have aR:(fs.map (·.1)).length<=cM:=by rw[cW,Py];omega
 refine a1Y D.gQ jQ c.nX c.po n.a23 c.hd gF aR λh' JG cF=>h _ ?_;have hd:∃o,h'.get? a3=B o:=let⟨o,_,_,d7,_⟩:=JG.ns;⟨o,d7⟩
 refine D.write (x:=a) (e:=a3) (by rw[e];exact Av) (.inr aU) (λb q a0 z=>(cF.2 b a0).trans z) hd ?_;refine⟨by rw[aN jQ.ne];exact aU,?_,jQ.ne,JG.obj,_,JG.ns,λg=>?_,λg aI=>?_⟩
 .have:=JE f y fs;omega
 .show jN ((gH f y fs).lookup g) (if g=f then B u else mA g);rw[JD];by_cases q:g=f
  .rw[aZ q,aZ q];exact cC
  rw[aL q,aL q];exact r g
 by_cases q:g=f
 .rw[q];exact(AU f y fs).1
 refine(AU f y fs).2 g (gF g λz=>aI ?_);show(if g=f then B u else mA g)=aa;rw[aL q];exact z
theorem Inv.made(D:Inv X a4 G H s):Inv X a4 G (av (av H s.heap.objs.size (.own (s.heap.objs.size+1))) (s.heap.objs.size+1) (.ins C s.heap.objs.size []))
  {s with heap:=(s.heap.push vM).push (xS C s.heap.objs.size)}:=by
 have aO:(s.heap.push vM).get? s.heap.objs.size=B vM:=hP s.heap Y;have aT:((s.heap.push vM).push (xS C s.heap.objs.size)).get? (s.heap.objs.size+1)=B (xS C s.heap.objs.size):=by have:=hP (s.heap.push vM) (o:=xS C s.heap.objs.size) Y;rwa[mR]at this
 have dX:(s.heap.push vM).Ns s.heap.objs.size (λ_=>aa):=⟨vM,#[],_,aO,Y,(λe aF=>absurd aF (by simp)),λ_=>rfl⟩;have aP:=D.laid (a:=s.heap.objs.size) (o:=.own (s.heap.objs.size+1)) (h':=s.heap.push vM) (t':=s.toks) (λb u q=>e9 _ q) (cO _) ⟨_,aO⟩;refine aP.laid (a:=s.heap.objs.size+1) (o:=.ins C s.heap.objs.size []) (t':=s.toks) (λb u q=>e9 _ q) (Ac (mR _ _)) ?_;have ne:s.heap.objs.size≠s.heap.objs.size+1:=gW (Ad _);refine⟨by rw[aN ne,b0],ek _,ne,aT,λ_=>aa,(aiI dX).at λo q=>e9 _ q,λ_=>Av,λy bl=>absurd Y bl⟩
theorem Qt{prog:bQ}{env:eB}{f:a8}(a0:xV e f env (eval e env)=eval e env)(h:b8 (bq prog w) A (eval e env) (λo du=>b8 (bq prog w) A (IB o f a9) Q E du) E s):b8 (bq prog w) A (eval (.Attribute e f pos) env) Q E s:=
 Attribute_any_ h (by rw[arm_eval_Attribute,a0])
end
def ji(K:bj)(c0:b')(f:a8):b':=λG H Q=>c0 G H λx ai=>∃a C a3 fs v,x=.ref a/\ai a=B (.ins C a3 fs)/\ij K C/\ew K C f/\fs.lookup f=B v/\Q v ai
def a24(K:bj)(c0 l2:b')(f:a8):er:=λaf G H=>l2 G H λy ai=>c0 G ai λx au=>∃a C a3 fs,x=.ref a/\au a=B (.ins C a3 fs)/\ij K C/\ew K C f/\fs.length<1000/\af.c6 G (av au a (.ins C a3 (gH f y fs)))
def Qu(X:bB)(op:Iu)(cI:V->V->ak->cR->Prop):Prop:=
 ∀(a4:List (I×bJ))(s:ay)(G:St)(H:ak)(x y:V)(u v:ae)(Q:cR),Inv X a4 G H s->RelV x u->RelV y v->cI x y H Q->b8 (bq X.prog X.w) X.A (IC op u v) (i0 X a4 G Q) X.bN s
def Qv(K:bj)(c0 l2:b')(cI:V->V->ak->cR->Prop)(f:a8):er:=λaf G H=>c0 G H λx ai=>∃a C a3 fs v,x=.ref a/\ai a=B (.ins C a3 fs)/\ij K C/\ew K C f/\fs.lookup f=B v/\l2 G ai λy au=>cI v y au λz bc=>∃dT gZ,bc a=B (.ins C dT gZ)/\gZ.length<1000/\af.c6 G (av bc a (.ins C dT (gH f z gZ)))
section
variable{o l3:bP}{f:a8}{iY l4:Pos}{l2:b'}
theorem bg(aF:bT X e c0)(a0:xV e f X.env (eval e X.env)=eval e X.env):bT X (.Attribute e f pos) (ji X.K c0 f):=by intro a4 s G H Q D h;refine Qt a0 (bW (aF a4 s G H _ D h) λu _ ⟨x,ai,aP,cp,a,C,_,_,v,ex,jj,c,n,l,q⟩=>?_);subst ex;obtain rfl:u=dM a:=cp;exact Qr aP jj c n l λ_ _ cL h8=>⟨v,ai,cL,h8,q⟩
theorem dY(bf:bT X o c0)(bk:bT X l3 l2)(ax:sm l3 (B (.Attribute o f iY)) pos.line X.env=pure aJ):jd X (.Assign [.Attribute o f iY] l3 pos) (a24 X.K c0 l2 f):=by intro a4 s G H _ D h;refine ajl (bW (bk a4 s G H _ D h) λu s1 ⟨y,ai,aP,cC,q⟩=>bW (bf a4 s1 G ai _ aP q) λfJ _ ⟨x,_,cL,cp,a,C,_,_,ex,jj,c,n,l,cw⟩=>?_) ax;subst ex;obtain rfl:fJ=dM a:=cp;exact Qs cL jj c n l cC λ_ dG=>⟨G,_,dG,cw⟩
theorem yq{op:Iu}{cI:V->V->ak->cR->Prop}(bf:bT X o c0)(bk:bT X l3 l2)(a25:Qu X op cI):jd X (.AugAssign (.Attribute o f l4) op l3 pos) (Qv X.K c0 l2 cI f):=by intro a4 s G H _ D h;refine wpAny_AugAssign_AttributeAny (bW (bf a4 s G H _ D h) λfJ _ ⟨x,ai,aP,cp,a,C,_,_,v,ex,jj,c,n,l,q⟩=>?_);subst ex;obtain rfl:fJ=dM a:=cp;refine Qr aP jj c n l λu s2 cL h8=>bW (bk a4 s2 G ai _ cL q) λn2 bE ⟨y,au,dG,cC,h1⟩=>bW (a25 a4 bE G au v y u n2 _ dG h8 cC h1) λ_ _ ⟨z,_,fU,JH,_,_,a26,gb,AR⟩=>?_;exact Qs fU a26 c n gb JH λ_ jf=>⟨G,_,jf,AR⟩
def Qw:V->V->ak->cR->Prop:=λx y H Q=>∃i j,x=.int i/\y=.int j/\Q (.int (i+j)) H
theorem yr:Qu X .Add Qw:=by rintro a4 s G H x y u v Q D cp cC ⟨i,j,rfl,rfl,q⟩;obtain⟨t,rfl⟩:=(show∃t,u=vL i t from cp);obtain⟨t',rfl⟩:=(show∃t',v=vL j t' from cC);exact ain ⟨.int (i+j),H,D.tok _,⟨_,Y⟩,q⟩
theorem ajX{fo:Pos}{args:List bP}(aF:bT X e bY)(D:Inv X a4 G H s)(h:bY G H λx ai=>∃a C a3 fs g,x=.ref a/\ai a=B (.ins C a3 fs)/\ij X.K C/\uk X.K C m g/\fs.lookup m=aa/\∀s1,Inv X a4 G ai s1->b8 (bq X.prog X.w) X.A (xY pos (.ref g) [.ref a] (lD pos (fC args X.env)) (tZ pos (u0 [] X.env))) Q X.bN s1)(ba:eval (.Call (.Attribute e m fo) args [] pos) X.env=(do
   let fJ <-eval e X.env
   u3 fo.atName
   let(f,first) <-rd [fJ] (vO fJ m pl)
   xY pos f first (lD pos (fC args X.env)) (tZ pos (u0 [] X.env)))):
  b8 (bq X.prog X.w) X.A (eval (.Call (.Attribute e m fo) args [] pos) X.env) Q X.bN s:=by
 refine Pr (pl:=pl) (bW (aF a4 s G H _ D h) λu s1 ⟨x,ai,aP,cp,a,C,a3,fs,g,ex,jj,c,k,l,q⟩=>?_) ba;subst ex;obtain rfl:u=dM a:=cp;exact EF aP jj c k l (q s1 aP)
end
structure dn (k:Nat) (A:d9):Prop where
 hd:A.handled=aa
 ey:A.depth+3*k+5<a0D
 un:A.units+16*k+200<t_
theorem dn.mono{j:Nat}(r:dn k A)(h:j<=k:=by decide):dn j A:=⟨r.hd,by have:=r.ey;omega,by have:=r.un;omega⟩
theorem dn.deeper(r:dn (k+1) A)(env:eB):dn k (A.deeper env):=
 ⟨r.hd,by have:=r.ey;show A.depth+1+3*k+5<_;omega,by have:=r.un;show A.units+3+16*k+200<_;omega⟩
theorem Qx{qp:List (a8×ae)}:(A.under (.builtin "type.__call__" ⟨.ref C::us,qp⟩)).depth=A.depth+1:=by first|rfl|simp[a06,Code.weight,Code.isCreation,Code.isGuard,Code.isCaller,aiy,a0d,guardIds]
theorem Qy{qp:List (a8×ae)}:(A.under (.builtin "type.__call__" ⟨.ref C::us,qp⟩)).units=A.units+1:=by first|rfl|simp[a06,Code.cUnits,aiy,a0d]
theorem dn.make(r:dn (k+1) A)(C:I)(us:List ae)(qp:List (a8×ae)):dn k (A.under (.builtin "type.__call__" ⟨.ref C::us,qp⟩)):=
 ⟨r.hd,by have:=r.ey;rw[Qx];omega,by have:=r.un;rw[Qy];omega⟩
theorem dn.depth(r:dn k A):A.depth<a0D:=by have:=r.ey;omega
theorem dn.units(r:dn k A):A.units+64<t_:=by have:=r.un;omega
def gc:gE:=λ_ H Q=>Q [] H
def eL(c0:b')(a27:gE):gE:=λG H Q=>c0 G H λx ai=>a27 G ai λxs au=>Q (x::xs) au
variable{t:gE}
theorem az:hz X [] gc:=λ_ _ _ _ H Q D h=>a0c ⟨[],H,D,.nil,h⟩
theorem ao(bf:bT X e bY)(ah:hz X b7 t)(ax:fC (e::b7) X.env=(aJ,eval e X.env)::fC b7 X.env:=by rfl):hz X (e::b7) (eL bY t):=by intro pos a4 s G H Q D h;rw[ax];show b8 _ _ (spliced ((aJ,eval e X.env)::lD pos (fC b7 X.env))) _ _ s;refine Pc (bW (bf a4 s G H _ D h) λu s1 ⟨x,ai,aP,cv,bx⟩=>?_);exact bW (ah pos a4 s1 G ai _ aP bx) λ_ _ ⟨xs,au,cL,dR,cw⟩=>⟨x::xs,au,cL,.cons cv dR,cw⟩
def JI(t:gE):b':=λG H Q=>t G H λxs ai=>xs.length<=cM/\∀p,ai p=aa->Q (.ref p) (av ai p (.tup xs))
def EH(t:gE):b':=λG H Q=>t G H λxs ai=>xs.length<=cM/\∀p,ai p=aa->Q (.ref p) (av ai p (.lst xs))
theorem sF{gJ}(h:hz X b7 t):bT X (.Tuple b7 gJ pos) (JI t):=by intro a4 s G H Q D aQ;refine wpAny_Tuple_spliced (bW (h pos a4 s G H _ D aQ) λus s1 ⟨xs,ai,aP,r,z,q⟩=>⟨by rw[<-r.length];exact z,?_⟩);have hf:ai s1.heap.objs.size=aa:=aP.bR.fresh (cO _);refine⟨.ref s1.heap.objs.size,av ai s1.heap.objs.size (.tup xs),aP.laid (t':=s1.toks) (λb u e=>e9 _ e) (cO _) ?_,Y,q _ hf⟩;exact⟨z,us,r,⟨_,hP _ Y,Y,_,Y⟩⟩
theorem fv(h:hz X b7 t):bT X (.List b7 pos) (EH t):=by intro a4 s G H Q D aQ;refine wpAny_List_spliced (bW (h pos a4 s G H _ D aQ) λus s1 ⟨xs,ai,aP,r,z,q⟩=>⟨by rw[<-r.length];exact z,?_⟩);have hf:ai s1.heap.objs.size=aa:=aP.bR.fresh (cO _);refine⟨.ref s1.heap.objs.size,av ai s1.heap.objs.size (.lst xs),aP.laid (t':=s1.toks) (λb u e=>e9 _ e) (cO _) ?_,Y,q _ hf⟩;exact⟨z,us,0,r,hP _ Y⟩
abbrev bF:=List V->ak->cR->dN->Prop
abbrev jR:=List eB->ak->ay->dN->ae->ay->Prop
structure qr (P:bQ) (w:bI) (K:bj) (a6:a8->Option ae) (base:br) (A:d9) (outer:List eB) (s:ay) (H:ak):Prop where
 frames:A.frames=B outer
 mod:Mod K a6 base
 bs:∀b o,base.get? b=B o->s.heap.get? b=B o/\H b=aa
 mm:base.objs.size<=s.heap.objs.size
 k_:s.heap.FunFrames base outer
 oG:∀b∈ml outer,H b=aa
 bR:f' P w H s.heap
 bare:xM s.gens
def JJ(outer:List eB)(P:bQ)(w:bI)(H:ak)(s:ay)(Q:cR)(u:ae)(b3:ay):Prop:=
 ∃v H',b3.os=s.os/\xM b3.gens/\iV (ml outer) [] H H' s.heap b3.heap/\f' P w H' b3.heap/\RelV v u/\Q v H'
def JK(CX:jR)(outer:List eB)(P:bQ)(w:bI)(H:ak)(s:ay)(Q:cR)(E:dN)(r:vK)(b3:ay):Prop:=
 match r with
 |.ok (.ret u)=>JJ outer P w H s Q u b3
 |.ok _=>False
 |.error e=>CX outer H s E e b3
structure jD (P:bQ) (w:bI) (K:bj) (a6:a8->Option ae) (base:br) (CX:jR) (k:Nat) (f:I) (fd:ka) (aK:List a8) (sp:bF):Prop where
 len:∀vs H Q E,sp vs H Q E->vs.length=aK.length
 run:∀(A:d9)(outer:List eB)(s:ay)(H:ak)(args:Args)(us:List ae)(vs:List V)(Q:cR)(E:dN),dn k A->qr P w K a6 base A outer s H->xN s fd args (aK.zip us)->cB vs us->sp vs H Q E->
  me (bq P w) A (.call (.ref f) args) (JK CX outer P w H s Q E) s
theorem qr.make{a6:a8->Option ae}{base:br}{outer:List eB}(e:qr P w K a6 base A outer s H)(C:I)(us:List ae)(qp:List (a8×ae)):qr P w K a6 base (A.under (.builtin "type.__call__" ⟨.ref C::us,qp⟩)) outer s H:=⟨by first|exact e.frames|(simpa[a06,Code.envs,a0d,pushEnvs]using e.frames),e.mod,e.bs,e.mm,e.k_,e.oG,e.bR,e.bare⟩
section
variable{b3:ay}
theorem Inv.yt(D:Inv X a4 G H s):qr X.prog X.w X.K X.a6 X.base X.A X.stack s H:=
 ⟨D.ok.frames,D.ok.mod,D.bs,dC D.ok.mm D.l0,D.stack,D.J4,D.bR,D.bare⟩
theorem Inv.after{Q:cR}(D:Inv X a4 G H s)(h:JJ X.stack X.prog X.w H s Q u b3):i0 X a4 G Q u b3:=by obtain⟨v,H',os,bare,un,bR,r,q⟩:=h;obtain⟨bU,g,d,t,a28⟩:=b3;obtain rfl:a28=s.os:=os;exact⟨v,H',D.call (h':=bU) (g':=g) (d':=d) (t':=t) (ch:=[]) un bR bare (λb z=>absurd z (by simp)),r,q⟩
end
def mw(sp:bF)(jk:List V)(E:dN)(t:gE):b':=λG H Q=>t G H λvs ai=>sp (vs++jk) ai Q E
def n5(C:I)(m:a8)(sp:bF)(jk:List V)(E:dN)(c0:b')(t:gE):b':=λG H Q=>c0 G H λx ai=>∃a a3 fs,x=.ref a/\ai a=B (.ins C a3 fs)/\fs.lookup m=aa/\t G ai λvs au=>sp (x::(vs++jk)) au Q E
def EI(C:I)(sp:bF)(jk:List V)(E:dN)(t:gE):b':=λG H Q=>t G H λvs ai=>∀x a3,ai x=aa->ai a3=aa->a3≠x->sp (.ref x::(vs++jk)) (av (av ai a3 (.own x)) x (.ins C a3 [])) (λv au=>v=.bS/\Q (.ref x) au) E
def Binds(K:bj)(fd:ka)(aK:List a8)(c9:List ae):Prop:=
 ∀(s:ay)(us:List ae),K.In s.heap->(us++c9).length=aK.length->xN s fd ⟨us,[]⟩ (aK.zip (us++c9))
variable{aK:List a8}
theorem Binds.all{fd:ka}(h:∀us:List ae,us.length=aK.length->a0u fd ⟨us,[]⟩=pure (aK.zip us)):Binds K fd aK []:=λs us _ aq=>by rw[hN]at aq ⊢;exact .of_eq (h us aq)
def lK(CX:jR)(X:bB)(E:dN):Prop:=∀(a4:List (I×bJ))(G:St)(H:ak)(s:ay)(e:ae)(b3:ay),Inv X a4 G H s->CX X.stack H s E e b3->X.bN e b3
variable{CX:jR}
section
variable{f:I}{fd:ka}{sp:bF}{jk:List V}{c9:List ae}{E:dN}{fo:Pos}{o:bP}
theorem JL{Q:cR}{vs:List V}(F:jD X.prog X.w X.K X.a6 X.base CX k f fd aK sp)(ah:dn k X.A)(a0:Binds X.K fd aK c9)(hd:cB jk c9)(ag:lK CX X E)(D:Inv X a4 G H s)(r:cB vs us)(h:sp (vs++jk) H Q E):b8 (bq X.prog X.w) X.A (mU (.ref f) us) (i0 X a4 G Q) X.bN s:=by
 have dR:cB (vs++jk) (us++c9):=r.append hd;have aq:(us++c9).length=aK.length:=by rw[<-dR.length];exact F.len _ _ _ _ h
 refine Au (vN (F.run X.A X.stack s H ⟨us,[]⟩ (us++c9) (vs++jk) Q E ah D.yt (a0 s us D.gQ aq) dR h) λr b3 aQ=>?_);cases r with
 |error e=>exact ag a4 G H s e b3 D aQ
 |ok dE=>cases dE with|ret u=>exact D.after aQ|next=>exact hk aQ|brk=>exact hk aQ|cont=>exact hk aQ
abbrev l5(X:bB)(pos:Pos)(b7:List bP):Prop:=(lD pos (fC b7 X.env)).any (·.1)=aJ
abbrev nY(X:bB)(e:bP)(b7:List bP):Prop:=fC (e::b7) X.env=(aJ,eval e X.env)::fC b7 X.env
abbrev kF(x:a8):Prop:=(x==("__debug__" :a8))=aJ
theorem a29(F:jD X.prog X.w X.K X.a6 X.base CX k f fd aK sp)(ah:dn k X.A)(aI:hA X x)(hm:X.a6 x=B (.ref f))(aA:nH X.K (.ref f)=a9)(a0:Binds X.K fd aK c9)(hd:cB jk c9)(ag:lK CX X E)(bf:hz X (e::b7) t)(gd:kF x:=by decide)(aF:nY X e b7:=by rfl)(eF:l5 X pos b7:=by rfl):
  bT X (.Call (.Name x p) (e::b7) [] pos) (mw sp jk E t):=by
 intro a4 s G H Q D h;refine vP (oJ D aI hm ?_ gd);refine xR (h₀:=X.base) D.ok.mod.hR aA (bW (bf pos a4 s G H _ D h) λ_ _ ⟨_,_,aP,r,q⟩=>⟨aP.gQ,?_⟩) aF eF;exact JL F ah a0 hd ag aP r q
theorem a2a(aF:bT X o c0)(c:ij X.K C)(hm:uk X.K C m f)(F:jD X.prog X.w X.K X.a6 X.base CX k f fd aK sp)(ah:dn k X.A)(a0:Binds X.K fd aK c9)(hd:cB jk c9)(ag:lK CX X E)(bf:hz X (e::b7) t)(ft:fC (e::b7) X.env=(aJ,eval e X.env)::fC b7 X.env:=by rfl)(eF:l5 X pos b7:=by rfl)(ba:eval (.Call (.Attribute o m fo) (e::b7) [] pos) X.env=(do
   let fJ <-eval o X.env
   u3 fo.atName
   let(f,first) <-rd [fJ] (vO fJ m pl)
   xY pos f first (lD pos (fC (e::b7) X.env)) (tZ pos (u0 [] X.env))):=by rfl):
  bT X (.Call (.Attribute o m fo) (e::b7) [] pos) (n5 C m sp jk E c0 t):=by
 intro a4 s G H Q D h;refine Pr (pl:=pl) (bW (aF a4 s G H _ D h) λu s1 ⟨x,ai,aP,cp,a,_,_,ex,jj,l,q⟩=>?_) ba;subst ex;obtain rfl:u=dM a:=cp;refine EF aP jj c hm l ?_;refine xR (first:=[.ref a]) (h₀:=X.base) D.ok.mod.hR hm.dH (bW (bf pos a4 s1 G ai _ aP q) λus _ ⟨vs,_,cL,r,cw⟩=>⟨cL.gQ,?_⟩) ft eF;exact JL (us:=.ref a::us) (vs:=.ref a::vs) F ah a0 hd ag cL (.cons Y r) cw
theorem a2b(aF:bT X o c0)(c:ij X.K C)(hm:uk X.K C m f)(F:jD X.prog X.w X.K X.a6 X.base CX k f fd aK sp)(ah:dn k X.A)(a0:Binds X.K fd aK c9)(hd:cB jk c9)(ag:lK CX X E)(ba:eval (.Call (.Attribute o m fo) [] [] pos) X.env=(do
   let fJ <-eval o X.env
   u3 fo.atName
   let(f,first) <-rd [fJ] (vO fJ m pl)
   xY pos f first (lD pos (fC [] X.env)) (tZ pos (u0 [] X.env))):=by rfl):
  bT X (.Call (.Attribute o m fo) [] [] pos) (n5 C m sp jk E c0 gc):=by
 intro a4 s G H Q D h;refine Pr (pl:=pl) (bW (aF a4 s G H _ D h) λu _ ⟨x,_,aP,cp,a,_,_,ex,jj,l,q⟩=>?_) ba;subst ex;obtain rfl:u=dM a:=cp;refine EF aP jj c hm l ?_;exact aj0 (first:=[.ref a]) aP.gQ hm.dH (JL (us:=[.ref a]) (vs:=[.ref a]) F ah a0 hd ag aP (.cons Y .nil) q)
structure AV (K:bj) (C f:I):Prop where
 makes:a0n K C=a9
 init:qg K (.ref C) "__init__" =B (B (.ref f))
 fn:Iy K (.ref f)=a9
 dH:nH K (.ref C)=a9
theorem Qz{Q:cR}{vs:List V}(M:AV X.K C f)(F:jD X.prog X.w X.K X.a6 X.base CX k f fd aK sp)(ah:dn (k+1) X.A)(a0:Binds X.K fd aK c9)(hd:cB jk c9)(ag:lK CX X E)(D:Inv X a4 G H s)(r:cB vs us)(h:∀x a3,H x=aa->H a3=aa->a3≠x->sp (.ref x::(vs++jk)) (av (av H a3 (.own x)) x (.ins C a3 [])) (λv au=>v=.bS/\Q (.ref x) au) E):b8 (bq X.prog X.w) X.A (mU (.ref C) us) (i0 X a4 G Q) X.bN s:=by
 have aQ:=h (s.heap.objs.size+1) s.heap.objs.size (D.bR.fresh (sf _)) (D.bR.fresh (cO _)) (gW (Ad _));have cL:=Inv.made (C:=C) D;have dR:cB (V.ref (s.heap.objs.size+1)::(vs++jk)) (dM (s.heap.objs.size+1)::(us++c9)):=.cons Y (r.append hd);have aq:(dM (s.heap.objs.size+1)::us++c9).length=aK.length:=by have e:=dR.length;rw[F.len _ _ _ _ aQ]at e;exact e.symm
 refine Au (a22 (f:=f) D.gQ M.makes M.init (h_.mp M.fn) (vN (F.run _ X.stack _ _ ⟨dM (s.heap.objs.size+1)::us,[]⟩ (dM (s.heap.objs.size+1)::(us++c9)) _ _ E (ah.make C us []) (cL.yt.make C us []) (a0 _ (dM (s.heap.objs.size+1)::us) cL.gQ aq) dR aQ) λr b3 kf=>?_));cases r with
 |error e=>exact ag a4 G _ _ e b3 cL kf
 |ok dE=>cases dE with|ret u=>obtain⟨v,H',dG,cA,iZ,h1⟩:=cL.after kf;subst iZ;exact⟨cA,⟨V.ref (s.heap.objs.size+1),H',dG,Y,h1⟩⟩|next=>exact hk kf|brk=>exact hk kf|cont=>exact hk kf
theorem a2c(M:AV X.K C f)(F:jD X.prog X.w X.K X.a6 X.base CX k f fd aK sp)(ah:dn (k+1) X.A)(aI:hA X x)(hm:X.a6 x=B (.ref C))(a0:Binds X.K fd aK c9)(hd:cB jk c9)(ag:lK CX X E)(bf:hz X (e::b7) t)(gd:kF x:=by decide)(aF:nY X e b7:=by rfl)(eF:l5 X pos b7:=by rfl):
  bT X (.Call (.Name x p) (e::b7) [] pos) (EI C sp jk E t):=by
 intro a4 s G H Q D h;refine vP (oJ D aI hm ?_ gd);refine xR (h₀:=X.base) D.ok.mod.hR M.dH (bW (bf pos a4 s G H _ D h) λ_ _ ⟨_,_,aP,r,q⟩=>⟨aP.gQ,?_⟩) aF eF;exact Qz M F ah a0 hd ag aP r q
theorem a2d(M:AV X.K C f)(F:jD X.prog X.w X.K X.a6 X.base CX k f fd aK sp)(ah:dn (k+1) X.A)(aI:hA X x)(hm:X.a6 x=B (.ref C))(a0:Binds X.K fd aK c9)(hd:cB jk c9)(ag:lK CX X E)(gd:kF x:=by decide):bT X (.Call (.Name x p) [] [] pos) (EI C sp jk E gc):=by intro _ s G H Q D h;refine vP (oJ D aI hm ?_ gd);exact aj0 D.gQ M.dH (Qz (us:=[]) M F ah a0 hd ag D .nil h)
end
structure bZ (N P:List a8) (eX:hZ):Prop where
 kind:eX.kind=.function:=by rfl
 co:eX.isCoroutine=aJ:=by rfl
 gen:eX.isGenerator=aJ:=by rfl
 bh:N.Nodup:=by decide+kernel
 pre:N.take P.length=P:=by rfl
 par:∀x∈P,eX.names.lookup x=B .local∨eX.names.lookup x=B .cell:=by decide+kernel
 a2e:∀y∈eX.names,y.2≠ .free:=by decide+kernel
theorem QA{kindOf:a8->Option nG}{x:a8}:∀{binds:List (a8×ae)}{m:a8->Option ae},(∀v,(x,v)∉binds)->xX kindOf binds m x=m x
 |[],_,_=>rfl
 |(n,v)::r,m,h=>by
  unfold xX;rw[QA λw hw=>h w (ez _ hw)];split
  .have:x≠n:=by rintro rfl;exact h v iy
   simp[this]
  rfl
theorem QB{kindOf:a8->Option nG}{x:a8}:∀{binds:List (a8×ae)}{m:a8->Option ae},(∀v,(x,v)∉binds)->xW kindOf binds m x=m x
 |[],_,_=>rfl
 |(n,v)::r,m,h=>by
  unfold xW;rw[QB λw hw=>h w (ez _ hw)];split
  .rfl
  have:x≠n:=by rintro rfl;exact h v iy
  simp[this]
theorem QC{kindOf:a8->Option nG}{x:a8}{v:ae}:∀{P:List a8}{vs:List ae}{i:Nat}{m:a8->Option ae},P.Nodup->P[i]? =B x->vs[i]? =B v->kindOf x=B .local->xX kindOf (P.zip vs) m x=B v
 |[],_,_,_,_,h,_,_=>by simp at h
 |_::_,[],_,_,_,_,h,_=>by simp at h
 |p::P,w::vs,0,m,bh,O,a5,aA=>by simp at O a5;subst O;subst a5;show xX kindOf ((p,w)::P.zip vs) m p=_;unfold xX;rw[QA λv bk=>(P0.mp bh).1 (Ic bk).1,aZ aA];simp
 |p::P,w::vs,i+1,m,bh,O,a5,aA=>by show xX kindOf ((p,w)::P.zip vs) m x=_;unfold xX;exact QC (i:=i) (P0.mp bh).2 (by simpa using O) (by simpa using a5) aA
theorem QD{kindOf:a8->Option nG}{x:a8}{v:ae}:∀{P:List a8}{vs:List ae}{i:Nat}{m:a8->Option ae},P.Nodup->P[i]? =B x->vs[i]? =B v->kindOf x≠B .local->xW kindOf (P.zip vs) m x=B v
 |[],_,_,_,_,h,_,_=>by simp at h
 |_::_,[],_,_,_,_,h,_=>by simp at h
 |p::P,w::vs,0,m,bh,O,a5,aA=>by simp at O a5;subst O;subst a5;show xW kindOf ((p,w)::P.zip vs) m p=_;unfold xW;rw[QB λv bk=>(P0.mp bh).1 (Ic bk).1,aL aA];simp
 |p::P,w::vs,i+1,m,bh,O,a5,aA=>by show xW kindOf ((p,w)::P.zip vs) m x=_;unfold xW;exact QD (i:=i) (P0.mp bh).2 (by simpa using O) (by simpa using a5) aA
def start(N:List a8)(vs:List V):St:=vs.map B++hO (N.length-vs.length) aa
def oU(CX:jR)(P:bQ)(w:bI)(K:bj)(a6:a8->Option ae)(base:br)(N:List a8)(cm:a8)(scope:hZ)(f:I)(d5:ae)(A:d9)(outer:List eB)(s:ay)(H:ak)(E:dN):bB where
 prog:=P
 w:=w
 K:=K
 a6:=a6
 base:=base
 A:=A.deeper (fB cm scope s.heap.objs.size f d5)
 N:=N
 gv:=s
 Az:=H
 env:=fB cm scope s.heap.objs.size f d5
 outer:=outer
 stack:=fB cm scope s.heap.objs.size f d5::outer
 ex:=[]
 calm:=a9
 fn:=λ_=>a9
 cZ:=[]
 bN:=λe b3=>b8 (bq P w) (A.deeper (fB cm scope s.heap.objs.size f d5)) (DX (fB cm scope s.heap.objs.size f d5) e) (λ_ JM=>CX outer H s E e JM) (λd7 JM=>CX outer H s E d7 JM) b3
theorem QE{eX:hZ}{n:Nat}(h:eX.names.lookup x=B .cell):∃c,(ib n eX.names []).lookup x=B c:=by have q:=Po eX.names n [] (.inl h);exact P7.mp q
theorem JN{a6:a8->Option ae}{base:br}{N:List a8}{cm:a8}{scope:hZ}{f:I}{d5:ae}{outer:List eB}{s1:ay}{E:dN}{vs:List V}(S:bZ N aK scope)(hd:A.handled=aa)(e0:qr P w K a6 base A outer s H)(aq:vs.length=aK.length)(r:cB vs us)(x:InCallC s s.heap.objs.size (xX (fB cm scope s.heap.objs.size f d5).kindOf (aK.zip us) λ_=>aa) (ib (s.heap.objs.size+1) scope.names []) (xW (fB cm scope s.heap.objs.size f d5).kindOf (aK.zip us) λ_=>aa) s1):Inv (oU CX P w K a6 base N cm scope f d5 A outer s H E) [] (start N vs) H s1:=by
 have eF:aK.length<=N.length:=by have:=f_ tR S.pre;rw[k9]at this;omega
 obtain⟨O,_,rfl,aA⟩:=x.done;have yu:∀b:I,b∉(oU CX P w K a6 base N cm scope f d5 A outer s H E).ex:=λb z=>absurd (show b∈([]:List I)from z) (by simp);refine⟨⟨e0.mod,S.kind,Y,Y,cO _,λy z c O a5=>?_,λy bl=>?_,λy c _ h=>?_,λ_=>hd,Around.frames_deeper e0.frames,.inr ⟨Y,Y⟩,λb z=>absurd z (yu b),e0.bs,e0.mm,λb _ _=>yu b,λb z=>absurd z (yu b),e0.k_,e0.oG⟩,
  rfl,e0.bare,iV.kept aA,⟨_,x.toInCall.ns,λi y v O a5 _=>?_⟩,λy c h=>⟨_,x.cell y c h⟩,e0.bR.fresh (cO _),λy c h=>?_,λp ar=>absurd (show p∈([]:List (I×bJ))from ar) (by simp),e0.bR.kept aA,?_⟩
 .exact name_of_addr x.apart (oA O) (oA a5)
 .have bl:scope.names.lookup y=B .cell∨scope.names.lookup y=B .free:=bl;obtain bl|bl:=bl
  .exact QE bl
  exact absurd Y (S.a2e _ (oA bl))
 .exact hl (x.above y c (oA h))
 .have hi:i<vs.length:=by
   unfold start at a5;by_cases hi:i<vs.length
   .exact hi
   rw[pz (by simpa using hi)]at a5;rw[ahW]at a5;split at a5<;>cases a5
  have bf:vs[i]? =B v:=by unfold start at a5;rw[kV (by simpa using hi),fP]at a5;cases e:vs[i]? with|none=>rw[e]at a5;cases a5|some a=>rw[e]at a5;cases a5;rfl
  obtain⟨u,bz,cA⟩:=r.get bf;have ar:aK[i]? =B y:=by rw[<-S.pre,O_ (by omega)];exact O
  have QF:aK.Nodup:=by rw[<-S.pre];exact S.bh.sublist (List.take_sublist _ _)
  refine⟨u,cA,?_⟩;obtain k|k:=S.par y (mQ ar)
  .exact .inl ⟨k,QC QF ar bz k⟩
  obtain⟨c,e⟩:=QE (n:=s.heap.objs.size+1) k;refine .inr ⟨.inl k,c,e,?_⟩;have q:=x.cell y c e;rw[QD QF ar bz (by show scope.names.lookup y≠_;rw[k];decide)]at q;exact q
 .exact e0.bR.fresh (hl (x.above y c (oA h)))
 unfold start;show _=N.length;rw[df,cW,DC];omega
theorem QG{a6:a8->Option ae}{base:br}{f:I}{name cm:a8}{params:Arguments}{body:List bH}{scope:hZ}{JO fI iD iE b4 en kd:ae}{i_ od:Option I}{oV:Array (Option ae)}{N:List a8}{sp:bF}(lk:K.lookup f=B ⟨kd,od,.func (si name cm params body scope JO fI iD iE i_ b4 en),oV⟩)(l1:Ak K b4 cm=a9)(S:bZ N aK scope)(len:∀vs H Q E,sp vs H Q E->vs.length=aK.length)(sG:∀(A:d9)(outer:List eB)(s:ay)(H:ak)(vs:List V)(Q:cR)(E:dN),dn k (A.deeper (fB cm scope s.heap.objs.size f b4))->sp vs H Q E->∃t,ie (oU CX P w K a6 base N cm scope f b4 A outer s H E) body t/\t {c6:=λ_ H'=>Q .bS H',ic:=Q} (start N vs) H):jD P w K a6 base CX (k+1) f (si name cm params body scope JO fI iD iE i_ b4 en) aK sp:=by
 refine⟨len,λA outer s H _ us vs Q E ah e0 a0 r l6=>?_⟩;have aq:=len _ _ _ _ l6;have bb:K.In s.heap:=e0.mod.hR.keeps λb o e=>(e0.bs b o e).1;have JP:s.heap.NoLimit:=e0.mod.nolimit.keeps λb o e=>(e0.bs b o e).1;have a2f:∀y∈aK.zip us,scope.names.lookup y.1=B .local∨(scope.names.lookup y.1=B .cell/\((ib (s.heap.objs.size+1) scope.names []).lookup y.1).isSome=a9):=λ⟨n,v⟩ bl=>by
  obtain q|q:=S.par n (Ic bl).1
  .exact .inl q
  exact .inr ⟨q,Po _ _ _ (.inl q)⟩
 refine a0w ah.depth (bb _ _ lk) Y S.co S.gen Y (a0m bb l1) (a0 _ _ _ _ ?_);refine a0Q S.kind a2f λ_ aF s1 x=>?_;subst aF;refine⟨JP.keeps x.toInCall.keep,a0x ?_⟩;obtain⟨t,ba,aQ⟩:=sG A outer s H vs Q E (ah.deeper _) l6;have D:Inv (oU CX P w K a6 base N cm scope f b4 A outer s H E) [] (start N vs) H s1:=JN S ah.hd e0 aq r x;refine mg (ba [] s1 (start N vs) H _ D aQ) (λdE b3 ax=>?_) λe b3 ax=>ax;have fin:∀{aM:St}{H':ak}{v:V}{u:ae},Inv (oU CX P w K a6 base N cm scope f b4 A outer s H E) [] aM H' b3->RelV v u->Q v H'->JJ outer P w H s Q u b3:=
  fun{aM H' v u} d4 cA q=>⟨v,H',d4.os,d4.bare,d4.base,d4.bR,cA,q⟩
 cases dE with|ret u=>obtain⟨v,aM,H',d4,cA,q⟩:=ax;exact fin d4 cA q|next=>obtain⟨aM,H',d4,q⟩:=ax;exact fin (v:=V.bS) (u:=eK) d4 Y q|brk=>obtain⟨_,_,_,q⟩:=ax;exact hk q|cont=>obtain⟨_,_,_,q⟩:=ax;exact hk q
section
variable{id T:String}{r:List V->ak->cR->Prop}
def AW(r:List V->ak->cR->Prop)(t:gE):b':=λG H Q=>t G H λvs ai=>r vs ai Q
theorem fc(a7:pK X (.builtin id) r)(aI:hA X x)(hm:X.a6 x=aa)(bk:DU x=B (.builtin id))(bf:hz X (e::b7) t)(aH:x≠"__name__" :=by decide)(gd:kF x:=by decide)(aF:nY X e b7:=by rfl)(eF:l5 X pos b7:=by rfl):bT X (.Call (.Name x p) (e::b7) [] pos) (AW r t):=by intro a4 s G H Q D h;refine vP (vZ D aI hm bk ?_ aH gd);exact al5 (bW (bf pos a4 s G H _ D h) λus s1 ⟨vs,ai,aP,cv,bx⟩=>a7 a4 s1 G ai vs us Q aP cv bx) aF eF
theorem EJ(a7:pK X (.type T) r)(aI:hA X x)(hm:X.a6 x=aa)(bk:DU x=B (.type T))(bf:hz X (e::b7) t)(aH:x≠"__name__" :=by decide)(gd:kF x:=by decide)(aF:nY X e b7:=by rfl)(eF:l5 X pos b7:=by rfl):bT X (.Call (.Name x p) (e::b7) [] pos) (AW r t):=by intro a4 s G H Q D h;refine vP (vZ D aI hm bk ?_ aH gd);exact DK (bW (bf pos a4 s G H _ D h) λus s1 ⟨vs,ai,aP,cv,bx⟩=>a7 a4 s1 G ai vs us Q aP cv bx) aF eF
end
end L2
namespace HT
open PySem PyProof.Rows
def lexLt:List Int->List Int->Bool
 |[],[]=>aJ
 |[],_::_=>a9
 |_::_,[]=>aJ
 |x::xs,y::ys=>if x=y then lexLt xs ys else decide (x<y)
theorem a2g(x y:Int)(xs ys:List Int):lexLt (x::xs) (y::ys)=if x=y then lexLt xs ys else decide (x<y):=rfl
theorem a2h:lexLt [] []=aJ:=rfl
theorem a2i(y:Int)(ys:List Int):lexLt [] (y::ys)=a9:=rfl
theorem a2j(x:Int)(xs:List Int):lexLt (x::xs) []=aJ:=rfl
theorem a2k(A:d9)(s:ay)(a:Int)(t:jy)(c:Int)(u:jy):∃e,a0k A s (.int a t) (.int c u) e/\(e=a9↔a=c):=
 ⟨(a==c),aiN a t c u,by simp⟩
theorem a2l(A:d9)(s:ay)(a:Int)(t:jy)(c:Int)(u:jy)(prog:bQ)(w:bI)(E:ae->ay->Prop)(Q:ae->ay->Prop)(h:Q (.bool (decide (a<c))) s):b8 (bq prog w) A (a0E .Lt (.int a t) (.int c u)) Q E s:=
 (aio h:b8 (bq prog w) A (mV .Lt (.int a t) (.int c u)) Q E s)
section
open PySem.SeqAt
open PySem.AutoSeq1 (wpAny_loadPart')
open PySem.MeetsSeq PySem.MeetsSeq2 PySem.MeetsSeq3
theorem a2m(l b:I)(items ry:Array ae)(n cS:Nat)(dd JQ:Option I)(aV JR:Array (Option ae))(ns cz:List Int)(hi:sh items.toList ns)(bX:sh ry.toList cz):Meets (vG.«tuple.__lt__» ⟨[.ref l,.ref b],[]⟩)
   (λ_ R s=>s.heap.get? l=B {cls:=.type "tuple",dict:=dd,data:=.seq items n,slots:=aV}/\s.heap.get? b=B {cls:=.type "tuple",dict:=JQ,data:=.seq ry cS,slots:=JR}/\R (.ok (.ret (.bool (lexLt ns cz)))) s):=
 .of_wp λprog w A R s h=>by
  obtain⟨ar,g,d,tk,os⟩:=s;obtain⟨aq,a0,h⟩:=h;have f2:=AutoSeq1.sub_tuple_tuple;have hC:items.size=ns.length:=by rw[<-hi.length];simp
  have g0:ry.size=cz.length:=by rw[<-bX.length];simp
  wp_walk using wpAny_loadPart' aq,wpAny_loadPart' a0,wpAny_forIn_list _ (λrest b b3=>b.1=aa/\b3=⟨ar,g,d,tk,os⟩/\∃(vs di:List ae)(lL yv:List Int),rest=vs.zip di/\sh vs lL/\sh di yv/\lL.length+ry.size=yv.length+items.size/\R (.ok (.ret (.bool (lexLt lL yv)))) ⟨ar,g,d,tk,os⟩) _
  case turn=>
   rintro⟨y,x⟩ rest b b3 ⟨sH,rfl,vs,di,lL,yv,aR,JS,oW,eS,d1⟩;cases JS with
   |nil=>rw[List.zip_nil_left]at aR;cases aR
   |cons a t a2n=>
    cases oW with
    |nil=>rw[List.zip_nil_right]at aR;cases aR
    |cons c u a2o=>
     rw[ai6]at aR;injection aR with a2p yw;injection a2p with bl ag;subst bl ag;rw[a2g]at d1;simp only[fQ]at eS;obtain⟨e,aF,QH⟩:=a2k A.in1 ⟨ar,g,d,tk,os⟩ a t c u;refine bC (aF prog w _ _ ?_);cases e with
     |true=>
      rw[aZ (QH.mp Y)]at d1
      wp_walk
      exact⟨Y,Y,_,_,_,_,yw,a2n,a2o,by omega,d1⟩
     |false=>
      rw[aL (λq=>absurd (QH.mpr q) hX)]at d1;have a2q:=a2l A.in1 ⟨ar,g,d,tk,os⟩ a t c u prog w
      wp_walk using a2q
      exact⟨_,Y,by simpa using d1⟩
  case fin=>
   rintro⟨b1,b2⟩ b3 ⟨sH,rfl,vs,di,lL,yv,aR,JS,oW,eS,d1⟩;simp only at sH;subst sH;have bk:lexLt lL yv=decide (items.size<ry.size):=by
    cases JS with
    |nil=>cases oW with|nil=>simp only[tS]at eS;rw[a2h];exact(gP (by omega)).symm|cons c u hw=>simp only[tS,fQ]at eS;rw[a2i];exact(eE (by omega)).symm
    |cons a t bk=>cases oW with|nil=>simp only[tS,fQ]at eS;rw[a2j];exact(gP (by omega)).symm|cons c u hw=>rw[ai6]at aR;cases aR
   rw[bk]at d1
   wp_walk
   exact⟨_,Y,by simpa[ald]using d1⟩
  case h=>exact⟨Y,Y,items.toList,ry.toList,ns,cz,Y,hi,bX,by omega,h⟩
end
section
variable{prog:bQ}{w:bI}{A:d9}{E:ae->ay->Prop}{s:ay}
theorem a2r{l b:I}{items ry:Array ae}{ns cz:List Int}{Q:ae->ay->Prop}(aq:DJ s.heap l items)(a0:DJ s.heap b ry)(hi:sh items.toList ns)(bX:sh ry.toList cz)(bz:A.units<t_)(h:Q (.bool (lexLt ns cz)) s):b8 (bq prog w) A (mV .Lt (.ref l) (.ref b)) Q E s:=by
 obtain⟨⟨_,dd,_,aV⟩,aU,a7,n,hd⟩:=id aq;obtain⟨⟨_,JQ,_,JR⟩,l7,EK,cS,n6⟩:=id a0;simp only at a7 hd EK n6;subst a7 hd EK n6;exact richCompare_meets_room (op:=.Lt) ⟨_,aU,Y⟩ ⟨_,l7,Y⟩ PySem.F.slot_tuple_lt PySem.F.entry_tuple_lt (PySem.F.args_tuple_lt_2 _ _) (a2m l b items ry n cS dd JQ aV JR ns cz hi bX)
  ⟨aU,l7,show mT (lexLt ns cz)≠Value.notImplemented/\Q (.bool (lexLt ns cz)) s from⟨(λx=>nomatch x),h⟩⟩ bz
def es(n d:Nat):Option Int->Nat
 |none=>d
 |some v=>if v<0 then(v+(n:Int)).toNat else min v.toNat n
theorem a2s(n d:Nat):es n d aa=d:=rfl
theorem uo(n d k:Nat):es n d (B (k:Int))=min k n:=by show(if(k:Int)<0 then((k:Int)+(n:Int)).toNat else min (k:Int).toNat n)=min k n;rw[aL (by omega),tP]
theorem QI(n d:Nat)(hd:d<=n)(o:Option Int):es n d o<=n:=by
 cases o with
 |none=>exact hd
 |some v=>
  show(if v<0 then(v+(n:Int)).toNat else min v.toNat n)<=n;by_cases bk:v<0
  .rw[aZ bk];omega
  rw[aL bk];exact DH _ _
end
end HT
namespace L2
open PySem PySem.Spec PyProof.Rows
abbrev fW:=St->ak->(Option Int->ak->Prop)->Prop
def EL(X:bB)(e:Option bP)(t:fW):Prop:=
 ∀(a4:List (I×bJ))(s:ay)(G:St)(H:ak)(Q:Option Int->ak->Prop),Inv X a4 G H s->t G H Q->b8 (bq X.prog X.w) X.A (evalPart e X.env) (λu b3=>∃o H',Inv X a4 G H' b3/\IsPart u o/\Q o H') X.bN s
def a2t:fW:=λ_ H Q=>Q aa H
def w8(t:b'):fW:=λG H Q=>t G H λx ai=>∃i,x=.int i/\Q (B i) ai
theorem intsAre_of{ns:List Int}:∀{us:List ae},cB (ns.map V.int) us->sh us ns:=by
 induction ns with
 |nil=>intro us r;rw[vD]at r;cases r;exact .nil
 |cons n ns ih=>intro us r;rw[i9]at r;cases r with|cons cv dR=>obtain⟨t,e⟩:=cv;subst e;exact .cons n t (ih dR)
variable{X:bB}{e:bP}{bY:b'}{pos:Pos}
section
variable{lo hi:Option bP}{dU th:fW}{eY:Pos}
theorem JT:EL X aa a2t:=by intro _ s G H Q D h;rw[ajf];exact eC ⟨aa,H,D,.none,h⟩
theorem n7(h:bT X e bY):EL X (B e) (w8 bY):=by intro a4 s G H Q D hw;rw[evalPart_some];refine bW (h a4 s G H _ D hw) λu _ ⟨x,ai,aP,cv,bx⟩=>?_;obtain⟨i,rfl,q⟩:=bx;obtain⟨t,rfl⟩:=cv;exact⟨B i,ai,aP,.int i t,q⟩
def JU(X:bB)(r:V->Option Int->Option Int->ak->cR->Prop):Prop:=
 ∀(a4:List (I×bJ))(s:ay)(G:St)(H:ak)(x:V)(v sI sJ:ae)(lo hi:Option Int)(aV:I)(Q:cR),Inv X a4 G H s->RelV x v->s.heap.IsSliceOf aV sI sJ .none->IsPart sI lo->IsPart sJ hi->r x lo hi H Q->∃T id,pC (.type T) "__getitem__" =pure (B (.builtin id))/\s.TypeIs v T/\b8 (bq X.prog X.w) X.A (getItem v (.ref aV)) (i0 X a4 G Q) X.bN s
def EM(r:V->Option Int->Option Int->ak->cR->Prop)(bY:b')(dU th:fW):b':=λG H Q=>bY G H λx ai=>dU G ai λl au=>th G au λu bc=>r x l u bc Q
theorem sL{r:V->Option Int->Option Int->ak->cR->Prop}(ah:JU X r)(aF:bT X e bY)(aq:EL X lo dU)(bz:EL X hi th):bT X (.Subscript e (.Slice lo hi aa eY) pos) (EM r bY dU th):=by intro a4 s G H Q D h;refine Subscript_ (bW (aF a4 s G H _ D h) λv s1 ⟨x,ai,aP,cv,bx⟩=>?_);refine wpAny_Slice (bW (aq a4 s1 G ai _ aP bx) λsI s2 ⟨l,au,cL,pl,cw⟩=>bW (bz a4 s2 G au _ cL cw) λsJ bE ⟨u,bc,dG,AX,h1⟩=>?_);rw[ajf];refine eC ?_;have fU:Inv X a4 G bc {bE with heap:=bE.heap.push {cls:=.type "slice",data:=.fields #[sI,sJ,.none]}}:=dG.kept (t':=bE.toks) λb _ q=>e9 _ q;obtain⟨T,_,dp,ba,aI⟩:=ah a4 {bE with heap:=bE.heap.push {cls:=.type "slice",data:=.fields #[sI,sJ,.none]}} G bc x v sI sJ l u bE.heap.objs.size Q fU cv (alE ..) pl AX h1;show b8 (bq X.prog X.w) X.A (aiq e (.Slice lo hi aa eY) v (.ref bE.heap.objs.size)) (i0 X a4 G Q) X.bN {bE with heap:=bE.heap.push {cls:=.type "slice",data:=.fields #[sI,sJ,.none]}};exact tail_any (ops:=[.ref bE.heap.objs.size,v]) ba dp aI (by with_unfolding_all rfl)
def lM(xs:List V)(lo hi:Option Int):List V:=(xs.drop (HT.es xs.length 0 lo)).take (HT.es xs.length xs.length hi-HT.es xs.length 0 lo)
theorem a2u(xs:List V)(lo hi:Option Int):(lM xs lo hi).length<=xs.length:=by unfold lM;rw[k9,mP];omega
end
def qs(n:Nat)(i:Int):Option Nat:=if 0<=i then(if i<n then B i.toNat else aa)else if -(n:Int)<=i then B (i+n).toNat else aa
variable{bu:Type}
def hb(xs:List bu)(i:Int):Option bu:=(qs xs.length i).bind λj=>xs[j]?
variable{n:Nat}
theorem QJ{i:Int}{j:Nat}(h:qs n i=B j):seqIndex? i n=B j/\j<n/\ -(n:Int)<=i/\i<n:=by
 unfold qs at h;by_cases b9:0<=i
 .rw[aZ b9]at h;by_cases O:i<n
  .rw[aZ O]at h;have e:i.toNat=j:=gX h;exact⟨by rw[a0F b9 O,e],by omega,by omega,O⟩
  rw[aL O]at h;cases h
 rw[aL b9]at h;by_cases O: -(n:Int)<=i
 .rw[aZ O]at h;have e:(i+n).toNat=j:=gX h;exact⟨by rw[seqIndex_neg (by omega) O,e],by omega,O,by omega⟩
 rw[aL O]at h;cases h
theorem JV{xs:List bu}{i:Int}{v:bu}(h:hb xs i=B v):∃j,seqIndex? i xs.length=B j/\xs[j]? =B v/\j<xs.length/\ -(xs.length:Int)<=i/\i<xs.length:=by unfold hb at h;cases e:qs xs.length i with|none=>rw[e]at h;cases h|some j=>rw[e]at h;obtain⟨O,a5,aG,cG⟩:=QJ e;exact⟨j,O,h,a5,aG,cG⟩
theorem gr{xs:List bu}{j:Nat}{v:bu}(h:xs[j]? =B v):hb xs (j:Int)=B v:=by
 have bX:j<xs.length:=(ec.mp h).1;have e:qs xs.length (j:Int)=B j:=by unfold qs;rw[aZ (by omega),aZ (by omega)];simp
 unfold hb;rw[e];exact h
theorem QK(xs:List bu)(v:bu):hb (xs++[v]) (-1)=B v:=by
 have aq:(xs++[v]).length=xs.length+1:=by simp
 have e:qs (xs++[v]).length (-1)=B xs.length:=by unfold qs;rw[aq,aL (by decide),aZ (by omega)];congr 1;omega
 unfold hb;rw[e];show(xs++[v])[xs.length]? =B v;simp
def a2v(b:bP):Prop:=∀o i,subscripted b aJ o i=operate [o,i] (getItem o i)
def EN(X:bB)(r:ke):Prop:=
 ∀(l3 AY:bP)(a4:List (I×bJ))(s:ay)(G:St)(H:ak)(x y:V)(v u:ae)(Q:cR),Inv X a4 G H s->RelV x v->RelV y u->r x y H Q->subscripted AY aJ v u=operate [v,u] (getItem v u)->b8 (bq X.prog X.w) X.A (aiq l3 AY v u) (i0 X a4 G Q) X.bN s
def yx(X:bB)(id:String)(r:V->List V->ak->cR->Prop):Prop:=
 ∀(a4:List (I×bJ))(s:ay)(G:St)(H:ak)(x:V)(xs:List V)(v:ae)(us:List ae)(Q:cR),Inv X a4 G H s->RelV x v->cB xs us->r x xs H Q->b8 (bq X.prog X.w) X.A (mU (.builtin id) (v::us)) (i0 X a4 G Q) X.bN s
variable{a4:List (I×bJ)}{G:St}{H:ak}{s:ay}{b6:List ae}{A:d9}{y:V}{u:ae}{fo jS:Pos}
section
variable{a b:bP}{c0 cu:b'}
theorem dV{r:ke}(ah:EN X r)(bf:bT X a c0)(a0:bT X b cu)(ax:a2v b):bT X (.Subscript a b pos) (pL r c0 cu):=by intro a4 s G H Q D h;exact Subscript_ (Jr bf a0 D h λv u s2 x y au cL cp cC q=>ah a b a4 s2 G au x y v u Q cL cp cC q (ax _ _))
def QL(K:bj):ke:=λx y H Q=>∃p xs i v,x=.ref p/\y=.int i/\bp K H p xs/\hb xs i=B v/\Q v H
def a2w(K:bj):ke:=λx y H Q=>∃p xs i v,x=.ref p/\y=.int i/\dq K H p xs/\hb xs i=B v/\Q v H
def QM:ke:=λx y H Q=>∃z i c,x=.str z/\y=.int i/\z.length<=cM/\hb z.cps.toList i=B c/\Q (.str ⟨#[c]⟩) H
theorem hD:EN X (QL X.K):=by
 intro _ _ a4 s G H x y v u Q D cp cC h ax;obtain⟨p,_,i,z,rfl,rfl,aQ,aF,q⟩:=h;cases cp;obtain⟨t,rfl⟩:=cC;obtain⟨b6,r,pl,_⟩:=D.list aQ;obtain⟨j,O,a5,_,cG,eZ⟩:=JV aF;obtain⟨w,sM,AZ⟩:=r.get a5;have aq:=r.length;have aH:=yp;have fin:i0 X a4 G Q w s:=⟨z,H,D,AZ,q⟩;by_cases b9:0<=i
 .have bX:i.toNat=j:=by rw[a0F b9 eZ]at O;exact gX O
  exact item_listR pl.isList b9 (by omega) (by rw[bX];simpa using sM) fin ax
 have bX:(i+(b6.toArray.size:Int)).toNat=j:=by rw[seqIndex_neg (by omega) cG]at O;rw[iS,<-aq];exact gX O
 exact air (x:=w) pl.isList.typeIs ajm.lookup
  (wpAny_getItem_list_neg (Q:=λr b3=>r=w/\i0 X a4 G Q r b3) pl.isList (by omega) (by rw[iS]<;>omega) (by omega) (by rw[bX];simpa using sM) ⟨Y,fin⟩) ax
theorem lN:EN X (a2w X.K):=by
 intro _ _ a4 s G H x y v u Q D cp cC h ax;obtain⟨p,_,i,z,rfl,rfl,aQ,aF,q⟩:=h;cases cp;obtain⟨t,rfl⟩:=cC;obtain⟨_,r,pl,_⟩:=D.tuple aQ;obtain⟨j,O,a5,_,_,_⟩:=JV aF;obtain⟨w,sM,AZ⟩:=r.get a5;have aq:=r.length;have aH:=yp;have fin:i0 X a4 G Q w s:=⟨z,H,D,AZ,q⟩;exact air (x:=w) pl.typeIs slot_tuple_getitem.lookup
  (getItem_tuple (j:=j) (Q:=λr b3=>r=w/\i0 X a4 G Q r b3) pl (by omega) (by omega) (by rw[iS,<-aq];exact O) (by simpa using sM) ⟨Y,fin⟩) ax
theorem n8:EN X QM:=by
 intro _ _ _ s G H x y v u Q D cp cC h ax;obtain⟨z,i,c,rfl,rfl,_,aF,q⟩:=h;obtain⟨t,rfl⟩:=cp;obtain⟨_,rfl⟩:=cC;obtain⟨j,O,a5,_,cG,eZ⟩:=JV aF;have aq:z.cps.toList.length=z.length:=by simp[Str.length]
 rw[aq]at O cG eZ;have aH:=yp;exact tail_any (Pz s z t) slot_str_getitem.lookup (getItem_str (c:=c) (by have aO:decide (i< -(2^63:Int))=aJ:=gP (by omega);have aT:decide (i≥2^63)=aJ:=gP (by omega);rw[aO,aT,ahF]) (by rw[O];simpa using a5) ⟨.str ⟨#[c]⟩,H,D.tok _,⟨_,Y⟩,q⟩) ax
theorem a2x(b6:List ae)(n j:Nat)(u:ae):It (·.setIfInBounds j u) {cls:=.type "list",data:=.seq b6.toArray n}={cls:=.type "list",data:=.seq (b6.set j u).toArray n}:=by simp[It]
theorem Inv.lst{p:I}{xs:List V}(D:Inv X a4 G H s)(h:H p=B (.lst xs)):∃(b6:List ae)(n:Nat),cB xs b6/\s.heap.get? p=B {cls:=.type "list",data:=.seq b6.toArray n}/\xs.length<=cM:=by obtain⟨z,b6,n,r,e⟩:=D.bR p _ h;exact⟨b6,n,r,e,z⟩
theorem Inv.a2y{p:I}{xs ys:List V}{n1:List ae}{rr:Nat}{f:bJ->bJ}(D:Inv X a4 G H s)(h:H p=B (.lst xs))(aU:s.heap.get? p=B {cls:=.type "list",data:=.seq b6.toArray n})(hf:f {cls:=.type "list",data:=.seq b6.toArray n}={cls:=.type "list",data:=.seq n1.toArray rr})(r:cB ys n1)(aR:ys.length<=cM)(t:Nat):Inv X a4 G (av H p (.lst ys)) {s with heap:=s.heap.update p f,toks:=t}:=by
 have e:(s.heap.update p f).get? p=B {cls:=.type "list",data:=.seq n1.toArray rr}:=by rw[ra f aU (by rw[hf]<;>rfl),hf]
 refine D.write (x:=p) (e:=p) (by rw[h];trivial) (.inl Y) (λb u a0 q=>(nF _ _ (ed a0)).trans q) ⟨_,e⟩ ?_;exact⟨aR,n1,rr,r,e⟩
def a2z:V->V->V->ak->(ak->Prop)->Prop:=λo i v H Q=>∃p xs k j,o=.ref p/\i=.int k/\H p=B (.lst xs)/\qs xs.length k=B j/\Q (av H p (.lst (xs.set j v)))
theorem EO:Qa X a2z:=by
 intro a4 s G H o i v _ _ u Q D fD ef cA h;obtain⟨p,xs,k,j,rfl,rfl,ar,bX,q⟩:=h;cases fD;obtain⟨t,rfl⟩:=ef;obtain⟨b6,n,r,aU,aR⟩:=D.lst ar;obtain⟨O,_,aG,cG⟩:=QJ bX;have aq:=r.length;have aH:=yp;have el:Inv X a4 G (av H p (.lst (xs.set j v))) {s with heap:=s.heap.update p (It (·.setIfInBounds j u))}:=
  D.a2y ar aU (a2x b6 n j u) (r.set cA j) (by rw[qf];exact aR) s.toks
 by_cases b9:0<=k
 .have aA:k.toNat=j:=by rw[a0F b9 cG]at O;exact gX O
  exact PySem.W.ki_setAt aU b9 (by omega) (by rw[iS,<-aq];exact cG) (by rw[aA];exact⟨_,el,q⟩)
 have aA:(k+(b6.toArray.size:Int)).toNat=j:=by rw[seqIndex_neg (by omega) aG]at O;rw[iS,<-aq];exact gX O
 exact PySem.W.ki_setBack aU (by omega) (by rw[iS,<-aq];exact aG) (by omega) (by rw[aA];exact⟨_,el,q⟩)
theorem a2A(lo hi:Option Int)(n:Nat):(As lo hi aa n).1=((HT.es n 0 lo:Nat):Int)/\(As lo hi aa n).2.1=((HT.es n n hi:Nat):Int)/\(As lo hi aa n).2.2=1:=by
 refine⟨?_,?_,Y⟩
 .cases lo with
  |none=>simp[As,HT.es]
  |some i=>
   simp only[As,HT.es,aik,show(1:Int)>0 by decide,jB];by_cases h:i<0
   .simp only[h,jB]<;>omega
   simp only[h,jA]<;>omega
 cases hi with
 |none=>simp[As,HT.es]
 |some i=>
  simp only[As,HT.es,aik,show(1:Int)>0 by decide,jB];by_cases h:i<0
  .simp only[h,jB]<;>omega
  simp only[h,jA]<;>omega
theorem a2B(b6:List ae)(lo hi:Option Int):slicePick b6.toArray lo hi aa=((b6.drop (HT.es b6.length 0 lo)).take (HT.es b6.length b6.length hi-HT.es b6.length 0 lo)).toArray:=by obtain⟨O,a5,aG⟩:=a2A lo hi b6.toArray.size;unfold slicePick;rw[O,a5,aG];simp only[sliceRange_one,pick_run,iS]<;>rfl
def EP(K:bj):V->Option Int->Option Int->ak->cR->Prop:=λx lo hi H Q=>∃a xs,x=.ref a/\bp K H a xs/\∀p,H p=aa->Q (.ref p) (av H p (.lst (lM xs lo hi)))
theorem uq:JU X (EP X.K):=by intro _ s G H x v _ _ lo hi _ Q D cp ax pl AX h;obtain⟨a,xs,rfl,ag,q⟩:=h;cases cp;obtain⟨_,r,ba,aR⟩:=D.list ag;have eS:=r.length;refine⟨"list",_,ajm.lookup,ba.isList.typeIs,?_⟩;refine wpAny_getItem_list_slice ba.isList ax pl AX .none (by simp) ?_ (by rw[iS]<;>omega);rw[a2B,<-eS];refine⟨.ref s.heap.objs.size,_,D.laid (t':=s.toks) (o:=.lst (lM xs lo hi)) (λb _ q=>e9 _ q) (cO _) ?_,Y,q _ (D.bR.fresh (cO _))⟩;exact⟨dC (a2u xs lo hi) aR,_,0,(r.drop (HT.es xs.length 0 lo)).take (HT.es xs.length xs.length hi-HT.es xs.length 0 lo),hP _ Y⟩
def ur:V->Bool
 |.bS=>a9
 |.c1 _=>a9
 |.int _=>a9
 |.str _=>a9
 |_=>aJ
def rz:V->V->Bool
 |.bS,.bS=>a9
 |.c1 a,.c1 b=>a==b
 |.c1 a,.int b=>(if a then 1 else 0)==b
 |.int a,.c1 b=>a==(if b then 1 else 0)
 |.int a,.int b=>a==b
 |.str a,.str b=>a==b
 |_,_=>aJ
theorem a2C{x:V}{v:ae}(cC:RelV y u)(cp:RelV x v)(a2D:ur y=a9)(kG:ur x=a9):a0k A s u v (rz y x):=by
 cases y with
 |bS=>cases cC;cases x with|bS=>cases cp;exact alO _|c1 b=>cases cp;exact alL b|int b=>obtain⟨t,rfl⟩:=cp;exact alM b t|str b=>obtain⟨t,rfl⟩:=cp;exact alN b t|_=>exact absurd (show aJ=a9 from kG) hX
 |c1 a=>cases cC;cases x with|bS=>cases cp;exact alH a|c1 b=>cases cp;exact alF a b|int b=>obtain⟨t,rfl⟩:=cp;exact alG a b t|str b=>obtain⟨t,rfl⟩:=cp;exact alI a b t|_=>exact absurd (show aJ=a9 from kG) hX
 |int a=>obtain⟨t',rfl⟩:=cC;cases x with|bS=>cases cp;exact alK a t'|c1 b=>cases cp;exact alJ a t' b|int b=>obtain⟨t,rfl⟩:=cp;exact aiN a t' b t|str b=>obtain⟨t,rfl⟩:=cp;exact aiO a t' b t|_=>exact absurd (show aJ=a9 from kG) hX
 |str a=>obtain⟨t',rfl⟩:=cC;cases x with|bS=>cases cp;exact alQ a t'|c1 b=>cases cp;exact alP a t' b|int b=>obtain⟨t,rfl⟩:=cp;exact aiP a t' b t|str b=>obtain⟨t,rfl⟩:=cp;exact alR a t' b t|_=>exact absurd (show aJ=a9 from kG) hX
 |_=>exact absurd (show aJ=a9 from a2D) hX
def sN(x:V)(u:ae):Bool:=match u with
 |.none=>rz .bS x
 |.bool b=>rz (.c1 b) x
 |.int i _=>rz (.int i) x
 |.str z _=>rz (.str z) x
 |_=>aJ
theorem QN{x:V}(r:RelV y u)(f:ur y=a9):sN x u=rz y x:=by cases y with|bS=>cases r;rfl|c1 b=>cases r;rfl|int i=>obtain⟨t,rfl⟩:=r;rfl|str z=>obtain⟨t,rfl⟩:=r;rfl|_=>exact absurd (show aJ=a9 from f) hX
theorem JW{x:V}:∀{xs:List V}{us:List ae},cB xs us->xs.all ur=a9->us.any (sN x)=xs.any λy=>rz y x
 |_,_,.nil,_=>rfl
 |y::xs,u::us,.cons r t,f=>by rw[OU,i8]at f;rw[A0,A0,QN r f.1,JW t f.2]
theorem JX{A:d9}{s:ay}{x:V}{v:ae}(cp:RelV x v)(kG:ur x=a9):∀{xs:List V}{us:List ae},cB xs us->xs.all ur=a9->∀u∈us,a0k A s u v (sN x u)
 |_,_,.nil,_=>λu bz=>by cases bz
 |y::xs,u::us,.cons r t,f=>λvY bz=>by
  rw[OU,i8]at f;obtain rfl|bz:=dx.mp bz
  .rw[QN r f.1];exact a2C r cp f.1 kG
  exact JX cp kG t f.2 vY bz
def A_(x:V)(xs:List V):Bool:=xs.any λy=>rz y x
def a2E(K:bj)(neg:Bool):ke:=λx y H Q=>∃p xs,y=.ref p/\(bp K H p xs∨dq K H p xs)/\ur x=a9/\xs.all ur=a9/\Q (.c1 (if neg then !A_ x xs else A_ x xs)) H
theorem a2F:hr X (mV .In) (a2E X.K aJ):=by
 intro _ s G H x y v u Q D cp cC h;obtain⟨p,_,rfl,aQ,kG,fs,q⟩:=h;cases cC;obtain aQ|aQ:=aQ
 .obtain⟨b6,r,pl,aR⟩:=D.list aQ;refine SeqAt.in_listAt (sN x) pl.isList (λw hw=>JX cp kG r fs w (by simpa using hw)) ⟨.c1 _,H,D,Y,?_⟩;rw[show b6.toArray.any (sN x)=b6.any (sN x) by simp,JW r fs];exact q
 obtain⟨b6,r,pl,aR⟩:=D.tuple aQ;refine SeqAt.in_tupleAt (sN x) pl (λw hw=>JX cp kG r fs w (by simpa using hw)) ⟨.c1 _,H,D,Y,?_⟩;rw[show b6.toArray.any (sN x)=b6.any (sN x) by simp,JW r fs];exact q
theorem i':pK X (.builtin "len") (λxs H Q=>∃p ys,xs=[.ref p]/\(bp X.K H p ys∨dq X.K H p ys)/\Q (.int ys.length) H):=by
 intro _ s G H xs _ Q D r h;obtain⟨p,ys,rfl,aQ,q⟩:=h;obtain⟨u,rfl,cp⟩:=vals1 r;cases cp;have aH:=yp;obtain aQ|aQ:=aQ
 .obtain⟨b6,gq,pl,aR⟩:=D.list aQ;have eS:=gq.length;exact Calls.call_len_list pl.isList (by simp only[iS]<;>omega) ⟨.int ys.length,H,D.tok _,⟨s.toks+1,by rw[iS,eS]⟩,q⟩
 obtain⟨b6,gq,pl,aR⟩:=D.tuple aQ;have eS:=gq.length;exact len_tuple pl (by simp only[iS]<;>omega) ⟨.int ys.length,H,D.tok _,⟨s.toks+1,by rw[iS,eS]⟩,q⟩
theorem ER:pK X (.builtin "len") (λxs H Q=>∃z,xs=[.str z]/\z.length<=cM/\Q (.int z.length) H):=by intro _ s G H xs _ Q D r h;obtain⟨z,rfl,_,q⟩:=h;obtain⟨u,rfl,t,rfl⟩:=vals1 r;have aH:=yp;exact len_str (by omega) ⟨.int z.length,H,D.tok _,⟨_,Y⟩,q⟩
def JY(K:bj)(T:String)(x:V)(H:ak):Prop:=match x with
 |.str _=>T="str"
 |.int _=>T="int"
 |.ref p=>(T="list"/\∃xs,bp K H p xs)∨(T="tuple"/\∃o,K.lookup p=B o/\o.cls=.type "tuple"/\o.dict=aa)∨
   (T="dict"/\((∃aW,H p=B (.oF aW))∨∃aW,H p=B (.g8 aW)))∨(T="set"/\∃S n,H p=B (.set S n))
 |_=>False
theorem QO{T:String}{x:V}{v:ae}(D:Inv X a4 G H s)(r:RelV x v)(ty:JY X.K T x H):s.TypeIs v T/\∀a,v=.ref a->∃cE,s.heap.get? a=B cE/\cE.dict=aa:=by
 cases x with
 |str z=>obtain⟨t,rfl⟩:=r;cases(show T="str" from ty);exact⟨Pz s z t,λ_ e=>nomatch e⟩
 |int i=>obtain⟨t,rfl⟩:=r;cases(show T="int" from ty);exact⟨a0I s i t,λ_ e=>nomatch e⟩
 |ref p=>
  cases r;obtain⟨rfl,xs,aQ⟩|⟨rfl,o,aA,a7,hd⟩|⟨rfl,aA⟩|⟨rfl,S,n,aA⟩:=ty
  .obtain⟨_,_,pl,_⟩:=D.list aQ;refine⟨pl.isList.typeIs,λa e=>?_⟩;cases e;obtain⟨o,n,e,c,hd,_⟩:=pl;exact⟨o,e,hd⟩
  .refine⟨⟨o,D.gQ p o aA,a7⟩,λa e=>?_⟩;cases e;exact⟨o,D.gQ _ o aA,hd⟩
  .have z:∃o,s.heap.get? p=B o/\o.ExactDict:=by
    obtain⟨aW,aA⟩|⟨aW,aA⟩:=aA
    .obtain⟨_,_,_,_,o,_,_,e,ex,_⟩:=D.bR p _ aA;exact⟨o,e,ex⟩
    obtain⟨_,_,_,_,o,_,_,e,ex,_⟩:=D.bR p _ aA;exact⟨o,e,ex⟩
   obtain⟨o,e,ex⟩:=z;refine⟨⟨o,e,ex.1⟩,λa aT=>?_⟩;cases aT;exact⟨o,e,ex.2.1⟩
  obtain⟨o,_,_,_,e,ex,_⟩:=D.bR p _ aA;refine⟨⟨o,e,ex.1⟩,λa aT=>?_⟩;cases aT;exact⟨o,e,ex.2.1⟩
 |_=>exact hk ty
def a2G(K:bj)(T:String)(r:V->List V->ak->cR->Prop)(to:b'):b':=λG H Q=>to G H λx ai=>JY K T x ai/\r x [] ai Q
def a2H(K:bj)(T:String)(r:V->List V->ak->cR->Prop)(to:b')(t:gE):b':=λG H Q=>to G H λx ai=>JY K T x ai/\t G ai λxs au=>r x xs au Q
variable{o:bP}{b7:List bP}{to:b'}{t:gE}{name:a8}{T id:String}{r:V->List V->ak->cR->Prop}
theorem JZ(l8:PlainAttrs T)(slot:Slot T name id)(uu:typeOf (.builtin id)=pure (.type "method_descriptor"))(hm:yx X id r)(aU:bT X o to)(qt:xV o name X.env (eval o X.env)=eval o X.env:=by rfl)(w9:(fo.endLine==jS.line)=a9:=by rfl):bT X (.Call (.Attribute o name fo) [] [] jS) (a2G X.K T r to):=by intro a4 s G H Q D h;refine wpAny_Call_method0_late qt w9 (bW (aU a4 s G H _ D h) λv s1 ⟨x,ai,aP,cv,ty,bx⟩=>?_);obtain⟨O,a5⟩:=QO aP cv ty;exact⟨T,id,l8,slot,uu,O,a5,Pb Y (PySem.evalArgs_none (hm a4 s1 G ai x [] v [] Q aP cv .nil bx))⟩
theorem pM(l8:PlainAttrs T)(slot:Slot T name id)(uu:typeOf (.builtin id)=pure (.type "method_descriptor"))(hm:yx X id r)(aU:bT X o to)(bf:hz X (e::b7) t)(qt:xV o name X.env (eval o X.env)=eval o X.env:=by rfl)(a2I:((lD jS (fC (e::b7) X.env)).all (λx=>!x.1)&&(tZ jS (u0 [] X.env)).all (λx=>x.1.isSome)&&decide ((e::b7).length+([]:List Ir).length+(if([]:List Ir).isEmpty then 0 else 1)<30))=a9:=by rfl)(w9:(fo.endLine==jS.line)=a9:=by rfl)(ax:fC (e::b7) X.env=(aJ,eval e X.env)::fC b7 X.env:=by rfl)(a2J:(lD jS (fC b7 X.env)).any (·.1)=aJ:=by rfl):
  bT X (.Call (.Attribute o name fo) (e::b7) [] jS) (a2H X.K T r to t):=by
 intro a4 s G H Q D h;refine wpAny_Call_method_late qt a2I w9 Y (bW (aU a4 s G H _ D h) λv s1 ⟨x,ai,aP,cv,ty,bx⟩=>?_);obtain⟨O,a5⟩:=QO aP cv ty;refine⟨T,id,l8,slot,uu,O,a5,?_⟩;have yy:=bf jS a4 s1 G ai _ aP bx;rw[ax]at yy ⊢;refine Pb (by show(aJ||(lD jS (fC b7 X.env)).any (·.1))=aJ;rw[a2J]<;>rfl) (a0b ?_);exact bW yy λus s2 ⟨vs,au,cL,dR,cw⟩=>hm a4 s2 G au x vs v us Q cL cv dR cw
end
def J_(X:bB)(id:String)(r:V->List V->ak->cR->Prop):Prop:=
 ∀(a4:List (I×bJ))(s:ay)(G:St)(H:ak)(x:V)(xs:List V)(v:ae)(us:List ae)(Q:cR),Inv X a4 G H s->RelV x v->cB xs us->r x xs H Q->b8 (bq X.prog X.w) X.A (mU (.builtin id) (v::us)) (i0 X a4 G Q) X.bN s
theorem cB.one:∀{x:V}{us:List ae},cB [x] us->∃u,us=[u]/\RelV x u
 |_,_,.cons r .nil=>⟨_,Y,r⟩
theorem cB.zero:∀{us:List ae},cB [] us->us=[]
 |_,.nil=>rfl
theorem cB.dropLast{xs:List V}{us:List ae}(h:cB xs us):cB xs.dropLast us.dropLast:=by
 induction h with
 |nil=>exact .nil
 |cons r t ih=>cases t with|nil=>exact .nil|cons q t'=>exact .cons r ih
theorem cB.rep{xs:List V}{us:List ae}(h:cB xs us):∀k:Nat,cB (hO k xs).flatten (hO k us).flatten
 |0=>.nil
 |k+1=>by rw[Aa,Aa,DB,DB];exact cB.append h (cB.rep h k)
theorem a2K(l:List bu):l.eraseIdx (l.length-1)=l.dropLast:=by
 induction l with
 |nil=>rfl
 |cons a r ih=>
  cases r with
  |nil=>rfl
  |cons b r=>
   have e:(a::b::r).length-1=((b::r).length-1)+1:=by have O:(a::b::r).length=r.length+2:=rfl;have a5:(b::r).length=r.length+1:=rfl;omega
   rw[e,List.eraseIdx_cons_succ,ih];all_goals rfl
theorem foldl_rep(b6:List ae):∀(k:Nat)(bM:List ae),ZF (λgJ gw=>gJ++gw) bM.toArray (hO k b6.toArray)=(bM++(hO k b6).flatten).toArray
 |0,bM=>by simp
 |k+1,bM=>by
  have e:bM.toArray++b6.toArray=(bM++b6).toArray:=by simp
  have aT:(bM++b6)++(hO k b6).flatten=bM++(hO (k+1) b6).flatten:=by rw[Aa,DB,lA]
  rw[<-aT,<-foldl_rep b6 k (bM++b6),<-e,Aa,vB]
section
variable{l b:I}{xs ys zs:List V}
theorem Inv.J'{n1:List ae}{f:Array ae->Array ae}{t':Nat}(D:Inv X a4 G H s)(kH:H l=B (.lst xs))(e:s.heap.get? l=B {cls:=.type "list",data:=.seq b6.toArray n})(hf:f b6.toArray=n1.toArray)(bk:cB ys n1)(aR:ys.length<=cM):Inv X a4 G (av H l (.lst ys)) {s with heap:=s.heap.update l (It f),toks:=t'}:=by have q:=PySem.IsL.update e f;rw[hf]at q;refine D.write (x:=l) (e:=l) (by rw[kH];exact trivial) (.inl Y) (λ_ u a0 bz=>(nF s.heap (It f) (ed a0)).trans bz) ⟨_,q⟩ ?_;exact⟨aR,n1,_,bk,q⟩
theorem Inv.QP{t':Nat}(D:Inv X a4 G H s)(bk:cB ys b6)(aR:ys.length<=cM):Inv X a4 G (av H s.heap.objs.size (.lst ys)) {s with heap:=s.heap.push {cls:=.type "list",data:=.seq b6.toArray},toks:=t'}:=
 D.laid (λ_ _ q=>e9 _ q) (cO _) ⟨aR,b6,0,bk,hP _ Y⟩
theorem Inv.fresh(D:Inv X a4 G H s):H s.heap.objs.size=aa:=D.bR.fresh (cO _)
theorem Inv.wa(D:Inv X a4 G H s)(kH:H l=B (.lst xs)):xs.length<=cM/\∃(b6:List ae)(n:Nat),cB xs b6/\xs.length=b6.length/\s.heap.get? l=B {cls:=.type "list",data:=.seq b6.toArray n}:=by obtain⟨z,b6,n,r,e⟩:=D.bR l _ kH;exact⟨z,b6,n,r,r.length,e⟩
theorem QQ(h:n<=cM):Pa n=aJ:=by unfold Pa;exact gP (by omega)
end
def a2L:V->List V->ak->cR->Prop:=λx vs H Q=>∃l xs y,x=.ref l/\vs=[y]/\H l=B (.lst xs)/\xs.length<cM/\Q .bS (av H l (.lst (xs++[y])))
theorem sO:J_ X "list.append" a2L:=by intro _ s G H x _ v _ Q D cp cA h;obtain⟨l,_,y,rfl,rfl,kH,_,q⟩:=h;cases cp;obtain⟨u,rfl,h8⟩:=cA.one;obtain⟨z,b6,n,r,_,e⟩:=D.wa kH;refine IA tV ⟨_,e,Y⟩ F.entry_list_append (F.args_list_append_2 _ _) (PySem.list_append l b6.toArray n u (by rw[iS];omega)) ⟨e,?_⟩;refine⟨.bS,_,D.J' (n1:=b6++[u]) kH e (by simp) (r.append (.cons h8 .nil)) ?_,Y,q⟩;rw[df,gu];omega
def a2M:V->List V->ak->cR->Prop:=λx vs H Q=>∃l b xs zs,x=.ref l/\vs=[.ref b]/\H l=B (.lst xs)/\H b=B (.lst zs)/\xs.length+zs.length<=cM/\Q .bS (av H l (.lst (xs++zs)))
theorem K0:J_ X "list.extend" a2M:=by
 intro _ s G H x _ v _ Q D cp cA h;obtain⟨l,b,_,_,rfl,rfl,kH,n9,_,q⟩:=h;cases cp;obtain⟨u,rfl,h8⟩:=cA.one;cases h8;obtain⟨z,b6,n,r,_,e⟩:=D.wa kH;obtain⟨_,nc,cS,dR,_,aT⟩:=D.wa n9;have hsz:b6.toArray.size+nc.toArray.size<=cM:=by rw[iS,iS];omega
 have K1:¬(!b6.toArray.isEmpty&&Pa (b6.toArray.size+nc.toArray.size))=a9:=by rw[QQ hsz,ahE];exact hX
 refine IA Pf ⟨_,e,Y⟩ F.entry_list_extend (F.args_list_extend_2 _ _)
  (AutoSeq1.list_extend_list_list_0 l b6.toArray n b nc.toArray cS K1 (by rw[iS];omega) (by omega)) ⟨e,aT,?_⟩
 refine⟨.bS,_,D.J' (n1:=b6++nc) kH e (by simp) (r.append dR) ?_,Y,q⟩;rw[df];omega
def a2N:V->List V->ak->cR->Prop:=λx vs H Q=>∃l xs y,x=.ref l/\vs=[]/\H l=B (.lst xs)/\xs[xs.length-1]? =B y/\Q y (av H l (.lst xs.dropLast))
theorem K2:J_ X "list.pop" a2N:=by
 intro _ s G H x _ v _ Q D cp cA h;obtain⟨l,_,y,rfl,rfl,kH,bl,q⟩:=h;cases cp;have a2O:=cA.zero;subst a2O;obtain⟨z,b6,n,r,aq,e⟩:=D.wa kH;obtain⟨u,bz,h8⟩:=r.get bl;have K3:b6.toArray[b6.toArray.size-1]? =B u:=by show b6.toArray[b6.length-1]? =B u;rw[<-ahA,<-aq];exact bz
 refine IA Pg ⟨_,e,Y⟩ F.entry_list_pop (F.args_list_pop_1 _) (MeetsSeq.list_pop_last l b6.toArray n u K3 (by rw[iS];omega)) ⟨e,?_⟩;refine⟨y,_,D.J' (n1:=b6.dropLast) kH e ?_ r.dropLast ?_,h8,q⟩
 .show b6.toArray.eraseIdxIfInBounds (b6.toArray.size-1)=b6.dropLast.toArray;rw[iS,List.eraseIdxIfInBounds_toArray,a2K]
 rw[ahZ];omega
def a2P:ke:=λx y H Q=>∃l b xs zs,x=.ref l/\y=.ref b/\H l=B (.lst xs)/\H b=B (.lst zs)/\xs.length+zs.length<=cM/\∀p,H p=aa->Q (.ref p) (av H p (.lst (xs++zs)))
theorem nZ:hr X (sl .Add) a2P:=by
 intro _ s G H x y v u Q D cp cC h;obtain⟨l,b,_,_,rfl,rfl,kH,n9,_,q⟩:=h;cases cp;cases cC;obtain⟨z,b6,n,r,_,e⟩:=D.wa kH;obtain⟨_,nc,_,dR,_,aT⟩:=D.wa n9;refine PySem.P.add_list e aT ?_ (by rw[iS,iS];omega);have jj:b6.toArray++nc.toArray=(b6++nc).toArray:=by simp
 rw[jj];exact⟨.ref _,_,D.QP (t':=s.toks) (r.append dR) (by rw[df];omega),Y,q _ D.fresh⟩
def a2Q:ke:=λx y H Q=>∃l k xs,x=.ref l/\y=.int k/\H l=B (.lst xs)/\ -(2^63)<=k/\k<2^63/\xs.length*k.toNat<=cM/\∀p,H p=aa->Q (.ref p) (av H p (.lst (hO k.toNat xs).flatten))
theorem a2R(xs:List bu)(k:Nat):(hO k xs).flatten.length=k*xs.length:=by induction k with|zero=>simp|succ k ih=>rw[Aa,DB,df,ih,Nat.succ_mul,ai7]
theorem a2S:hr X (sl .Mult) a2Q:=by
 intro _ s G H x y v u Q D cp cC h;obtain⟨l,k,_,rfl,rfl,kH,O,a5,aR,q⟩:=h;cases cp;obtain⟨t,rfl⟩:=cC;obtain⟨z,b6,n,r,aq,e⟩:=D.wa kH;have eS:b6.toArray.size*k.toNat<=cM:=by rw[iS,<-aq];exact aR
 have a2T:¬b6.toArray.size*k.toNat>(2^63-1)/8:=by
  have:(cM:Nat)<=(2^63-1)/8:=by decide
  omega
 have a2U:¬(!Builtin.List.listFitsIndex k)=a9:=by rw[fitsIndex_both O a5];exact hX
 have K1:¬Pa (b6.toArray.size*k.toNat)=a9:=by rw[QQ eS];exact hX
 have A':ZF (λgJ gw=>gJ++gw) #[] (hO (if b6.toArray.isEmpty=a9 then 0 else k.toNat) b6.toArray)=(hO k.toNat b6).flatten.toArray:=by
  have fT:∀m:Nat,ZF (λgJ gw=>gJ++gw) #[] (hO m b6.toArray)=(hO m b6).flatten.toArray:=λm=>by have:=foldl_rep b6 m [];rw[DE]at this;exact this
  rw[fT];cases b6 with|nil=>simp|cons a gq=>rw[aL (by simp)]
 refine wpAny_binaryOp_repeat_ref (T:="list") (U:="int") (by decide) ⟨_,e,Y⟩ (λb3=>a0I b3 k t) noFill_list_mul F.fills_int_mul aiF repeat_list F.slot_int_index.lookup
  (IA aiF (a0I s k t) F.entry_int_rmul (F.args_int_rmul_2 _ _) (int___rmul___int_list k t l b6.toArray n) ⟨e,Y,⟨_,e,Y⟩,IA F.slot_list_mul ⟨_,e,Y⟩ F.entry_list_mul (F.args_list_mul_2 _ _) (AutoListH.list___mul___list_int_3 l b6.toArray n k t a2U a2T K1) ⟨e,?_⟩⟩)
 rw[A'];exact⟨.ref _,_,D.QP (t':=s.toks) (r.rep k.toNat) (by rw[a2R,Nat.mul_comm];exact aR),Y,q _ D.fresh⟩
variable{prog:bQ}{w:bI}{E:ae->ay->Prop}
theorem cB.ints:∀{ns:List Int}{us:List ae},cB (ns.map V.int) us->sh us ns
 |[],us,h=>by rw[vD]at h;cases h;exact IntsAre.nil
 |n::ns,us,h=>by rw[i9]at h;cases h with|cons r t=>obtain⟨k,rfl⟩:=r;exact IntsAre.cons n k (cB.ints t)
theorem QR:∀{us:List ae}{ns:List Int},sh us ns->cB (ns.map V.int) us
 |_,_,.nil=>by rw[vD];exact Paired.nil
 |_,_,.cons n t h=>by rw[i9];exact Paired.cons (show RelV (V.int n) (vL n t)from⟨t,Y⟩) (QR h)
theorem cB.QS:∀{bs:List Bool}{us:List ae},cB (bs.map V.c1) us->us=bs.map mT
 |[],us,h=>by rw[vD]at h;cases h;rfl
 |b::bs,us,h=>by rw[i9]at h;cases h with|cons r t=>cases r;rw[cB.QS t,i9]
variable{a:I}
theorem cB.K4{us:List ae}(r:cB [V.ref a] us):us=[dM a]:=by cases r with|cons r t=>cases t;cases r;rfl
variable{Q:ae->ay->Prop}
def QT(K:bj):List V->ak->cR->Prop:=λvs H Q=>∃(a:I)(ns:List Int),vs=[V.ref a]/\bp K H a (ns.map V.int)/\ns.length<64/\∀(lL:List Int)(p:I),lL.Perm ns->lL.Pairwise (·<=·)->H p=aa->Q (.ref p) (av H p (.lst (lL.map V.int)))
theorem a2V(h:n<64):n<=cM:=by rw[Py];omega
theorem QU:pK X (.builtin "sorted") (QT X.K):=by
 intro _ s G H _ _ Q D r h;obtain⟨a,_,rfl,ax,ES,q⟩:=h;obtain⟨b6,cA,aq,_⟩:=D.list ax;rw[cB.K4 r];have hi:=cA.ints;refine alb aq.isList hi (by rw[hi.length];exact ES) λn_ lL O a5 aG=>?_;obtain⟨fS,wb⟩:=al9 s.heap b6 n_;have eS:(lL.map V.int).length<=cM:=by rw[cW,a5.length_eq];exact a2V ES
 exact⟨.ref _,av H (s.heap.objs.size+1) (.lst (lL.map V.int)),D.laid (t':=s.toks) (λ_ _=>ala) (sf _) ⟨eS,n_.toList,fS,QR O,wb⟩,Y,q lL _ a5 aG (D.bR.fresh (sf _))⟩
theorem a2W{l:I}{items:Array ae}(aq:s.heap.IsList l items)(h:∀iX:ay,iX={s with heap:=s.heap.push {cls:=.type "list_iterator",data:=.fields #[.ref l,.int 0 0]}}->(iX.heap.IsListIter s.heap.objs.size l 0/\iX.heap.IsList l items)->l≠s.heap.objs.size->Q (.ref s.heap.objs.size) iX):b8 (bq prog w) A (DY (.ref l)) Q E s:=by
 have c4:l<s.heap.objs.size:=by obtain⟨_,e,_⟩:=aq;exact dF e
 exact a0S aq (h _ Y ⟨⟨_,hP _ Y,Y,Y⟩,aq.push _⟩ (gW c4))
theorem a2X{bs:List Bool}(e:b6=bs.map mT):TruthOf prog w A (λi v=>b6.toArray[i]? =B v) (λi=>bs.getD i aJ):=λi v s Q E bk aQ=>by
 have ED:b6[i]? =B v:=by simpa using bk
 rw[e,fP]at ED;obtain⟨b,a0,rfl⟩:=Option.map_eq_some_iff.mp ED;have aI:bs.getD i aJ=b:=by rw[tQ,a0]<;>rfl
 have kf:Q (bs.getD i aJ) s:=aQ;rw[aI]at kf;exact u6 kf
theorem any_range:∀bs:List Bool,(eA bs.length).any (λi=>bs.getD i aJ)=bs.any id
 |[]=>rfl
 |b::bs=>by rw[fQ,ZR,A0,List.any_map,A0,<-any_range bs];all_goals rfl
theorem all_range:∀bs:List Bool,(eA bs.length).all (λi=>bs.getD i aJ)=bs.all id
 |[]=>rfl
 |b::bs=>by rw[fQ,ZR,OU,Zy,OU,<-all_range bs];all_goals rfl
def a2Y(K:bj):List V->ak->cR->Prop:=λvs H Q=>∃(a:I)(bs:List Bool),vs=[V.ref a]/\bp K H a (bs.map V.c1)/\Q (.c1 (bs.all id)) H
theorem a2Z(a7:X.calm=a9):pK X (.builtin "all") (a2Y X.K):=by
 intro _ s G H _ _ Q D r h;obtain⟨a,_,rfl,ax,q⟩:=h;obtain⟨b6,cA,aq,_⟩:=D.list ax;rw[cB.K4 r];have a0:=cA.QS;refine call_all_walk (a2W aq.isList λ_ aT st bV=>?_);subst aT;refine⟨_,_,_,_,_,_,_,Y,aj4 (A:=X.A.in1) (D.ok.hd a7) _ a bV b6.toArray,st,a2X a0,λ_ _ aA=>?_⟩;refine⟨.c1 _,H,D.kept λb o kg=>aA b o (λsP=>?_) (e9 _ kg),?_,q⟩
 .obtain aO|sP:=dx.mp sP
  .exact absurd (aO ▸ dF kg) (r9 _)
  cases sP
 show mT _=mT _;rw[<-all_range,a0,iS,cW]
abbrev QV(h:br)(c:I)(v:Option ae):Prop:=h.IsCell c v
def a30(scope eX:hZ):hZ:=
 {scope with names:=scope.names.map λ(n,k)=>if(k== .free&&eX.kind== .function&&eX.names.lookup n==B .cell)then(n,.cell)else(n,k)}
def ik(cells:List (a8×I)):List (a8×nG)->List (a8×I)->List (a8×I)
 |[],bM=>bM
 |(n,k)::r,bM=>if k== .free then ik cells r ((n,(cells.lookup n).getD 0)::bM)else ik cells r bM
theorem QW(env:eB)(f:a8×nG->List (a8×I)->hQ (ForInStep (List (a8×I))))(hf:∀n k c,f (n,k) c=if k== .free then(do let a <-cellOf env n;pure (.yield ((n,a)::c)))else pure (.yield c)):
  ∀(names:List (a8×nG))(bM:List (a8×I)),(∀y∈names,y.2=.free->∃c,env.cells.lookup y.1=B c)->forIn names bM f=pure (ik env.cells names bM)
 |[],bM,_=>by rw[ZI];rfl
 |(n,k)::r,bM,h=>by
  rw[ahU,hf];have ih:=λbM=>QW env f hf r bM λy bl=>h y (ez _ bl);unfold ik;by_cases aA:(k==DN)=a9
  .rw[aZ aA,aZ aA];obtain⟨c,a7⟩:=h (n,k) iy (by simpa using aA);have e:cellOf env n=pure c:=by unfold cellOf;rw[a7]
   rw[e];have aT:(env.cells.lookup n).getD 0=c:=by rw[a7];rfl
   rw[aT];exact ih _
  rw[aL aA,aL aA];exact ih _
variable{scope:hZ}
theorem QX{env:eB}(h:∀y∈scope.names,y.2=.free->∃c,env.cells.lookup y.1=B c):closureFor scope env=pure (ik env.cells scope.names []):=by simp only[closureFor];rw[QW env _ (λn k c=>rfl) scope.names [] h];rfl
theorem mem_lookup{bu:Type}:∀{l:List (a8×bu)}{n:a8}{c:bu},(n,c)∈l->∃e4,l.lookup n=B e4
 |(k,v)::r,n,c,h=>by
  rw[A8];cases a0:n==k with
  |true=>exact⟨_,Y⟩
  |false=>
   obtain e|h:=dx.mp h
   .cases e;simp at a0
   exact mem_lookup h
theorem ET{cells:List (a8×I)}:∀{names:List (a8×nG)}{bM:List (a8×I)}{n:a8}{c:I},(n,c)∈ik cells names bM->(n,c)∈bM∨((n,.free)∈names/\c=(cells.lookup n).getD 0)
 |[],_,_,_,h=>.inl h
 |(m,k)::r,bM,n,c,h=>by
  unfold ik at h;split at h
  .rename_i aA
   have aA:k=.free:=by simpa using aA
   obtain h|⟨O,a5⟩:=ET h
   .obtain e|h:=dx.mp h
    .cases e;exact .inr ⟨aA ▸ iy,Y⟩
    exact .inl h
   exact .inr ⟨ez _ O,a5⟩
  obtain h|⟨O,a5⟩:=ET h
  .exact .inl h
  exact .inr ⟨ez _ O,a5⟩
theorem K5{cells:List (a8×I)}:∀{names:List (a8×nG)}{bM:List (a8×I)}{p:a8×I},p∈bM->p∈ik cells names bM
 |[],_,_,h=>h
 |(m,k)::r,bM,p,h=>by
  unfold ik;split
  .exact K5 (ez _ h)
  exact K5 h
theorem K6{cells:List (a8×I)}:∀{names:List (a8×nG)}{bM:List (a8×I)}{n:a8},(n,.free)∈names->(n,(cells.lookup n).getD 0)∈ik cells names bM
 |(m,k)::r,bM,n,h=>by
  unfold ik;obtain e|h:=dx.mp h
  .cases e;exact K5 iy
  split
  .exact K6 h
  exact K6 h
theorem B0:∀{names:List (a8×nG)}{h:br}{bM:List (a8×I)}{x:a8}{c:I},(x,c)∈ib h.objs.size names bM->(x,c)∈bM∨((x,.cell)∈names/\h.objs.size<=c/\QV (u2 h names) c aa)
 |[],_,_,_,_,h=>.inl h
 |(n,k)::r,h,bM,x,c,hm=>by
  unfold ib at hm;unfold u2;split at hm
  .rename_i aA
   rw[aZ aA];have aA:k=.cell:=by simpa using aA
   rw[<-mR h {cls:=.type "cell",data:=.cell aa}]at hm;obtain hm|⟨O,a5,aG⟩:=B0 hm
   .obtain e|hm:=dx.mp hm
    .cases e;exact .inr ⟨aA ▸ iy,cO _,_,IF r _ _ _ (hP _ Y),Y⟩
    exact .inl hm
   rw[mR]at a5;exact .inr ⟨ez _ O,P2 a5,aG⟩
  rename_i aA
  rw[aL aA];obtain hm|⟨O,a5,aG⟩:=B0 hm
  .exact .inl hm
  exact .inr ⟨ez _ O,a5,aG⟩
theorem EU:∀{names:List (a8×nG)}{n:Nat}{bM:List (a8×I)}{p:a8×I},p∈bM->p∈ib n names bM
 |[],_,_,_,h=>h
 |(m,k)::r,n,bM,p,h=>by
  unfold ib;split
  .exact EU (ez _ h)
  exact EU h
theorem K7:∀{names:List (a8×nG)}{n:Nat}{bM:List (a8×I)}{x:a8},(x,.cell)∈names->∃c,(x,c)∈ib n names bM
 |(m,k)::r,n,bM,x,h=>by
  unfold ib;obtain e|h:=dx.mp h
  .cases e;exact⟨n,EU iy⟩
  split
  .exact K7 h
  exact K7 h
theorem K8:∀{names:List (a8×nG)}{h:br}{bM:List (a8×I)}{x y:a8}{c:I},(∀p∈bM,p.2<h.objs.size)->(∀x y c,(x,c)∈bM->(y,c)∈bM->x=y)->(x,c)∈ib h.objs.size names bM->(y,c)∈ib h.objs.size names bM->x=y
 |[],_,_,_,_,_,_,hi,O,a5=>hi _ _ _ O a5
 |(n,k)::r,h,bM,x,y,c,aq,hi,O,a5=>by
  unfold ib at O a5;split at O
  .rename_i aA
   rw[aZ aA]at a5;rw[<-mR h {cls:=.type "cell",data:=.cell aa}]at O a5;refine K8 (h:=h.push _) (λp ar=>?_) (λx y c a b=>?_) O a5
   .rw[mR];obtain rfl|ar:=dx.mp ar
    .exact Ad _
    exact P5 (aq p ar)
   rcases dx.mp a with e|a<;>rcases dx.mp b with d7|b
   .cases e;cases d7;rfl
   .cases e;exact absurd (aq _ b) (r9 _)
   .cases d7;exact absurd (aq _ a) (r9 _)
   exact hi _ _ _ a b
  rename_i aA
  rw[aL aA]at a5;exact K8 aq hi O a5
theorem QY{M:tW}{globals:I}{K9:List (a8×I)}{cm:a8}{func:Option I}{code:ae}{QZ:eB}{builtins:I}{Q:eB->ay->Prop}(h:Q (newEnv scope s.heap.objs.size globals (ib (s.heap.objs.size+1) scope.names K9) cm func code (B QZ) builtins) {s with heap:=u2 (s.heap.push {cls:=.type "dict",data:=.dict #[]}) scope.names}):b8 M A (aji scope globals K9 [] cm func code (B QZ) builtins) Q E s:=by simp only[aji,ail,jB];refine bC (wpAny_alloc ?_);refine bC (wpAny_layCells _ (λn k c=>rfl) scope.names K9 _ _ ?_);rw[show({s with heap:=s.heap.push {cls:=.type "dict",data:=.dict #[]}}:ay).heap.objs.size=s.heap.objs.size+1 from mR ..];rw[ZI];exact bC (eC (eC h))
theorem Ka{eX:hZ}:∀{names:List (a8×nG)}{x:a8}{k:nG},(names.map λ(n,k)=>if(k==DN&&eX.kind== .function&&eX.names.lookup n==B .cell)then(n,a0h)else(n,k)).lookup x=B k->∃kE,names.lookup x=B kE/\(k=kE∨(kE=.free/\k=.cell))
 |[],_,_,h=>by simp at h
 |(n,B1)::r,x,k,h=>by
  have ih:=@Ka eX r x k;have h':xF x ((if(B1==DN&&eX.kind== .function&&eX.names.lookup n==B .cell)=a9 then(n,a0h)else(n,B1))::(r.map _))=B k:=h;cases ag:x==n with
  |true=>
   simp only[A8,ag];by_cases a7:(B1==DN&&eX.kind== .function&&eX.names.lookup n==B .cell)=a9
   .rw[aZ a7]at h';simp only[A8,ag]at h';cases h';simp only[i8,h_]at a7;exact⟨B1,Y,.inr ⟨a7.1.1,Y⟩⟩
   rw[aL a7]at h';simp only[A8,ag]at h';cases h';exact⟨_,Y,.inl Y⟩
  |false=>
   simp only[A8,ag];by_cases a7:(B1==DN&&eX.kind== .function&&eX.names.lookup n==B .cell)=a9
   .rw[aZ a7]at h';simp only[A8,ag]at h';exact ih h'
   rw[aL a7]at h';simp only[A8,ag]at h';exact ih h'
structure wc (N:List a8) (eX scope:hZ) (own:List (a8×Nat)):Prop where
 kind:scope.kind=.function
 uniq:∀y∈scope.names,scope.names.lookup y.1=B y.2
 a31:∀p∈own,N[p.2]? =B p.1
 free:∀y∈scope.names,y.2=.free->eX.names.lookup y.1=B .cell∨eX.names.lookup y.1=B .free
 own:∀y∈scope.names,y.2=.local∨y.2=.cell->y.1∈own.map (·.1)∨y.1∉N
def eT(G:St):List Nat->St
 |[]=>G
 |v::vs=>(eT G vs).set v aa
theorem EV(G:St):∀vs:List Nat,(eT G vs).length=G.length
 |[]=>rfl
 |v::vs=>by unfold eT;rw[qf,EV G vs]
theorem EW{G:St}{i:Nat}{x:V}:∀{vs:List Nat},(eT G vs)[i]? =B (B x)->G[i]? =B (B x)/\i∉vs
 |[],h=>⟨h,by simp⟩
 |v::vs,h=>by
  unfold eT at h;by_cases hi:v=i
  .subst hi;by_cases bk:v<(eT G vs).length
   .rw[I9 bk]at h;cases h
   rw[qe (by simpa using bk)]at h;cases h
  rw[A7 hi]at h;obtain⟨O,a5⟩:=EW h;exact⟨O,by simp only[dx,yb];exact⟨λe=>hi e.symm,a5⟩⟩
abbrev bB.gS(X:bB)(s:ay)(H:ak)(scope:hZ)(hs:eB)(bO:List I):bB:={X with gv:=s,Az:=H,env:=hs,outer:=X.stack,ex:=bO,fn:=λx=>scope.names.lookup x==B .cell,cZ:=[],bN:=λ_ _=>False}
variable{own:List (a8×Nat)}
theorem Q_{bO:List I}(D:Inv X a4 G H s)(ok:wc X.N X.env.scope scope own)(dD:X.N.Nodup)(sQ:∀b∈bO,kD X a4 H b/\b<s.heap.objs.size):Inv (X.gS s H scope (ky scope (ib (s.heap.objs.size+1) scope.names (ik X.env.cells scope.names [])) s.heap.objs.size X.env) bO) [] (eT G (own.map (·.2))) H {s with heap:=u2 (s.heap.push {cls:=.type "dict",data:=.dict #[]}) scope.names}:=by
 have uf:∀y∈scope.names,y.2=.free->∃c,X.env.cells.lookup y.1=B c:=λy bl e=>by
  obtain k|k:=ok.free y bl e
  .exact D.ok.has _ (.inl k)
  exact D.ok.has _ (.inr k)
 generalize B2:ky scope (ib (s.heap.objs.size+1) scope.names (ik X.env.cells scope.names [])) s.heap.objs.size X.env=hs;have dH:∀b o,s.heap.get? b=B o->(u2 (s.heap.push {cls:=.type "dict",data:=.dict #[]}) scope.names).get? b=B o:=λb o e=>IF _ _ _ _ (e9 _ e);have dg:hs.locals=s.heap.objs.size:=by rw[<-B2];rfl
 have e_:hs.cells=ib (s.heap.objs.size+1) scope.names (ik X.env.cells scope.names []):=by rw[<-B2];rfl
 have Kb:hs.scope=a30 scope X.env.scope:=by rw[<-B2];rfl
 rw[<-mR s.heap {cls:=.type "dict",data:=.dict #[]}]at e_;have B3:∀{y c},(y,c)∈ik X.env.cells scope.names []->X.env.cells.lookup y=B c/\c<s.heap.objs.size:=fun{y c} hm=>by
  obtain hm|⟨O,rfl⟩:=ET hm
  .cases hm
  obtain⟨c,a7⟩:=uf _ O Y;rw[a7];obtain⟨w,z⟩:=D.cell _ _ a7;exact⟨Y,z.lt⟩
 have mem:∀{y c},hs.cells.lookup y=B c->(X.env.cells.lookup y=B c/\c<s.heap.objs.size)∨(s.heap.objs.size+1<=c/\QV (u2 (s.heap.push {cls:=.type "dict",data:=.dict #[]}) scope.names) c aa):=fun{y c} e=>by
  rw[e_]at e;obtain hm|⟨_,a5,aG⟩:=B0 (oA e)
  .exact .inl (B3 hm)
  rw[mR]at a5;exact .inr ⟨a5,aG⟩
 have look:∀{y},scope.names.lookup y=B .free->∃c,hs.cells.lookup y=B c/\X.env.cells.lookup y=B c:=fun{y} aq=>by
  have bl:(y,DN)∈scope.names:=oA aq;obtain⟨e4,d7⟩:=mem_lookup (EU (names:=scope.names) (n:=(s.heap.push {cls:=.type "dict",data:=.dict #[]}).objs.size) (K6 (cells:=X.env.cells) (bM:=[]) bl));rw[<-e_]at d7;refine⟨e4,d7,?_⟩;rw[e_]at d7;obtain hm|⟨O,_,_⟩:=B0 (oA d7)
  .exact(B3 hm).1
  have:=ok.uniq _ O;rw[aq]at this;cases this
 have a32:(X.gS s H scope hs bO).Ok:=by
  refine⟨D.ok.mod,by show hs.scope.kind=_;rw[Kb];exact ok.kind,by show hs.globals=_;rw[<-B2];exact D.ok.glob,by show hs.builtins=_;rw[<-B2];exact D.ok.blt,by show s.heap.objs.size<=hs.locals;rw[dg];exact cO _,
   λy z c aO aT=>?_,λy bl=>?_,λy c z e=>?_,D.ok.hd,D.ok.frames,.inl Y,λb a0=>⟨?_,λy c e z=>?_⟩,D.bs,dC D.ok.mm D.l0,λb o e a0=>?_,λb a0 z=>?_,D.stack,D.J4⟩
  .have aO:hs.cells.lookup y=B c:=aO;have aT:hs.cells.lookup z=B c:=aT;rw[e_]at aO aT;refine K8 (λp ar=>?_) (λy z c a b=>D.ok.inj y z c (B3 a).1 (B3 b).1) (oA aO) (oA aT);rw[mR];exact P5 (B3 (y:=p.1) (c:=p.2) ar).2
  .show∃c,hs.cells.lookup y=B c;have key:∀k,hs.kindOf y=B k->(k=.cell∨k=.free)->∃c,hs.cells.lookup y=B c:=λk aA yz=>by
    unfold Env.kindOf at aA;rw[Kb]at aA;obtain⟨kE,e,r⟩:=Ka aA;have:kE=.cell∨kE=.free:=by
     obtain rfl|⟨rfl,_⟩:=r
     .exact yz
     exact .inr Y
    obtain rfl|rfl:=this
    .obtain⟨c,hm⟩:=K7 (n:=(s.heap.push {cls:=.type "dict",data:=.dict #[]}).objs.size) (bM:=ik X.env.cells scope.names []) (oA e);obtain⟨e4,d7⟩:=mem_lookup hm;exact⟨e4,by rw[e_];exact d7⟩
    obtain⟨c,O,_⟩:=look e;exact⟨c,O⟩
   obtain bl|bl:=bl
   .exact key _ bl (.inl Y)
   exact key _ bl (.inr Y)
  .have z:(scope.names.lookup y==B a0h)=a9:=z;have z:scope.names.lookup y=B .cell:=by simpa using z
   have e:hs.cells.lookup y=B c:=e;rw[e_]at e;obtain hm|⟨_,a5,_⟩:=B0 (oA e)
   .obtain hm|⟨O,_⟩:=ET hm
    .cases hm
    have q:=ok.uniq _ O;rw[z]at q;cases q
   rw[mR]at a5;exact P2 a5
  .show b≠hs.locals;rw[dg];exact gW (sQ b a0).2
  .have e:hs.cells.lookup y=B c:=e;obtain⟨O,_⟩|⟨O,_⟩:=mem e
   .exact(sQ b a0).1.2.2.2.2.1 y c O z
   have a5:s.heap.objs.size+1<=b:=by rw[<-z];exact O
   exact absurd (kW (sQ b a0).2 (P2 a5)) (r9 _)
  .rcases(sQ b a0).1.2.2.2.1 with z|z
   .exact D.ok.sy b o e z
   exact absurd (kW (dF e) (dC D.ok.mm z)) (r9 _)
  obtain z|z:=dx.mp (D.J3 b z)
  .exact(sQ b a0).1.2.1 z
  exact(sQ b a0).1.2.2.1 z
 refine⟨a32,Y,D.bare,iV.kept dH,⟨λ_=>aa,?_,λi y a33 aO aT dX=>?_⟩,λy c e=>?_,?_,λy c e=>?_,λp ar=>?_,D.bR.kept dH,by rw[EV];exact D.len⟩
 .show Heap.Ns _ hs.locals _;rw[dg];exact Heap.Ns.keeps (Heap.Ns.new ..) λb o e=>IF _ _ _ _ e
 .obtain⟨aT,bV⟩:=EW aT;have jE:scope.names.lookup y=B .free/\(hs.kindOf y=B .cell∨hs.kindOf y=B .free):=by
   have key:∀k,hs.scope.names.lookup y=B k->k=.local∨k=.cell∨k=.free->scope.names.lookup y=B .free/\(hs.kindOf y=B .cell∨hs.kindOf y=B .free):=λk aA yz=>by
    have Q':=aA;rw[Kb]at aA;obtain⟨kE,e,r⟩:=Ka aA;have R0:¬(kE=.local∨kE=.cell):=λbU=>by
     obtain d7|d7:=ok.own _ (oA e) bU
     .obtain⟨p,ar,a34⟩:=fA.mp d7;have dX:=ok.a31 p ar;have:p.1=y:=a34;rw[this]at dX;exact bV (fA.mpr ⟨p,ar,J7 dD dX aO⟩)
     exact d7 (mQ aO)
    obtain rfl|⟨rfl,rfl⟩:=r
    .obtain rfl|rfl|rfl:=yz
     .exact absurd (.inl Y) R0
     .exact absurd (.inr Y) R0
     exact⟨e,.inr Q'⟩
    exact⟨e,.inl Q'⟩
   have dX:yf hs.scope y:=dX;obtain dX|dX|dX:=dX
   .exact key _ dX (.inl Y)
   .exact key _ dX (.inr (.inl Y))
   exact key _ dX (.inr (.inr Y))
  obtain⟨m,_,aq⟩:=D.loc;have a35:yf X.env.scope y:=(ok.free _ (oA jE.1) Y).elim (λk=>.inr (.inl k)) (λk=>.inr (.inr k));obtain⟨w,r,q⟩:=aq i y a33 aO aT a35;refine⟨w,r,.inr ⟨jE.2,?_⟩⟩;obtain⟨c,O,a5⟩:=look jE.1;obtain⟨k,_⟩|⟨_,e4,d7,z⟩:=q
  .have k:X.env.scope.names.lookup y=B .local:=k;rcases ok.free _ (oA jE.1) Y with kE|kE<;>rw[show X.env.scope.names.lookup y=_ from kE]at k<;>cases k
  rw[a5]at d7;cases d7;exact⟨c,O,z.keeps dH⟩
 .have e:hs.cells.lookup y=B c:=e;obtain⟨O,_⟩|⟨_,z⟩:=mem e
  .obtain⟨w,z⟩:=D.cell y c O;exact⟨w,z.keeps dH⟩
  exact⟨_,z⟩
 .show H hs.locals=aa;rw[dg];exact D.bR.fresh (cO _)
 .have e:hs.cells.lookup y=B c:=e;obtain⟨O,_⟩|⟨O,_⟩:=mem e
  .exact D.k' y c O
  exact D.bR.fresh (P2 O)
 exact absurd (show p∈([]:List (I×bJ))++[]from ar) (by simp)
theorem R1{af:I}{xs:List V}{v:ae}(D:Inv X a4 G H s)(d2:H af=B (.lst xs))(aR:xs.length<cM)(r:RelV y v)(h:∀b3,Inv X a4 G (av H af (.lst (xs++[y]))) b3->Q .none b3):b8 (bq X.prog X.w) X.A (mU (.builtin "list.append") [.ref af,v]) Q E s:=by obtain⟨_,b6,n,ef,e⟩:=D.bR af _ d2;have aq:=ef.length;refine append_at (hsz:=by rw[iS];omega) e λh' cF mn=>?_;refine h {s with heap:=h'} (D.write (t':=s.toks) (by rw[d2];trivial) (.inl Y) (λb u a0 q=>(cF.2 b a0).trans q) ⟨_,mn⟩ ⟨by rw[df];exact aR,b6++[v],n+1,ef.append (.cons r .nil),?_⟩);rw[mn];simp
def we(X:bB)(i2:List bP)(t:TT):Prop:=
 ∀(a4:List (I×bJ))(s:ay)(G:St)(H:ak)(Q:Bool->ak->Prop),Inv X a4 G H s->t G H Q->b8 (bq X.prog X.w) X.A (forIn i2 a9 λc r=>if r=a9 then do let ok <-isTrue c X.env (eval c X.env);pure (OT ok)else pure (OT r)) (J9 X a4 G Q) X.bN s
def R2:TT:=λ_ H Q=>Q a9 H
theorem qu:we X [] R2:=λ_ _ _ H _ D h=>wpAny_tests_nil ⟨H,D,h⟩
theorem Kc{c:bP}{t:TT}(h:n0 X c t):we X [c] t:=λa4 s G H Q D hw=>wpAny_tests_one (h a4 s G H Q D hw)
theorem pN{t:hQ bu}{Q e5:bu->ay->Prop}{M:tW}(h:b8 M A t Q (λ_ _=>False) s)(iA:∀a s,Q a s->e5 a s):b8 M A t e5 E s:=mg h iA λ_ _ z=>hk z
variable{i3:bP}{i2:List bP}
theorem R3{R:vK->ay->Prop}{yi fj:bP}{a' bM:ae}{env:eB}(D:Nat->ay->Prop)(turn:∀n s,D n s->b8 (bq prog w) A (pB a') (λr du=>match r with
   |none=>R (.ok .next) du
   |some v=>b8 (bq prog w) A (ID yi a' v) (λ_ R4=>b8 (bq prog w) A (xT yi env v) (λ_ iX=>b8 (bq prog w) A (forIn i2 a9 λc r=>if r=a9 then do let ok <-isTrue c env (eval c env);pure (OT ok)else pure (OT r)) (λok oQ=>if ok=a9 then b8 (bq prog w) A (eval i3 env) (λx yA=>b8 (bq prog w) A (mU (.builtin "list.append") [bM,x]) (λ_ EX=>∃m,m<n/\D m EX) (x_ (bq prog w) A env λe b3=>R (.error e) b3) yA) (x_ (bq prog w) A env λe b3=>R (.error e) b3) oQ else∃m,m<n/\D m oQ) (x_ (bq prog w) A env λe b3=>R (.error e) b3) iX) (x_ (bq prog w) A env λe b3=>R (.error e) b3) R4) (x_ (bq prog w) A env λe b3=>R (.error e) b3) du) (x_ (bq prog w) A env λe b3=>R (.error e) b3) s)(n:Nat)(h:D n s):me (bq prog w) A (.compLoop (.ListComp i3 [⟨yi,fj,i2,0⟩] scope pos) 0 a' bM env) R s:=by
 refine codeAny_loop Y D (λn s oX=>?_) n h;show b8 _ A ((compTurn (.ListComp i3 [⟨yi,fj,i2,0⟩] scope pos) 0 a' bM env).onRaise (λx=>do u1 x env;theTreesLotGoes x)) _ _ s;refine wpAny_noted ?_;rw[compTurn_list];refine bC (rh (bC (mg (turn n s oX) (λr du jl=>?_) λ_ _ h'=>h')));cases r with
 |none=>exact eC jl
 |some v=>refine bC (mg jl (λ_ R4 a36=>?_) λ_ _ h'=>h');refine bC (mg a36 (λ_ iX sR=>bC (mg sR (λok oQ B4=>?_) λ_ _ h'=>h')) λ_ _ h'=>h');cases ok with|false=>exact eC ⟨rfl,B4⟩|true=>exact bC (bC (mg B4 (λx yA Kd=>bC (mg Kd (λ_ EX Ke=>eC (eC ⟨rfl,Ke⟩)) λ_ _ h'=>h')) λ_ _ h'=>h'))
variable{tg:bP}{g:gR}{tt:TT}
def wg(gF:TI)(g:gR)(tt:TT)(bY:b')(vs:List Nat):b':=λG H Q=>gF G H λd4 ai=>∀af,ai af=aa->∃W:Nat->Nat->ak->Prop,(∃m,W 0 m (av ai af (.lst [])))/\∀i m H,W i m H->(d4.stop i H/\Q (.ref af) H)∨(d4.go i H/\∃i4:ak->Prop,(∀H',i4 H'->∃m',m'<m/\W (i+1) m' H')/\∀x H',d4.jO i H x H'->g x (eT G vs) H' λcP au=>eT cP vs=eT G vs/\tt cP au λb bc=>if b=a9 then bY cP bc λy cT=>∃bM,cT af=B (.lst bM)/\bM.length<cM/\i4 (av cT af (.lst (bM++[y])))else i4 bc)
theorem R5{Q:cR}{fj:bP}{iY:Pos}{gF:TI}{use:Option (ae->hQ Unit)}{Qf:ae->ay->Prop}(a7:X.calm=a9)(dD:X.N.Nodup)(D:Inv X a4 G H s)(hi:qo X tg fj gF)(ok:wc X.N X.env.scope scope own)(aI:∀(s:ay)(H:ak)(C:I)(cl:List (a8×I))(bO:List I),oN (X.gS s H scope (ky scope cl C X.env) bO) tg g)(ba:∀(s:ay)(H:ak)(C:I)(cl:List (a8×I))(bO:List I),we (X.gS s H scope (ky scope cl C X.env) bO) i2 tt)(aF:∀(s:ay)(H:ak)(C:I)(cl:List (a8×I))(bO:List I),bT (X.gS s H scope (ky scope cl C X.env) bO) i3 bY)(ax:∀x,Am fj X.env x=pure x)(h:wg gF g tt bY (own.map (·.2)) G H Q)(Kf:∀af C b3 m H',Inv X a4 G H' b3->Q (.ref af) H'->b3.heap.Ns C m->kD X a4 H' C->DW (bq X.prog X.w) X.A X.bN use Qf (.ref af) C (.ok .next) b3):
  b8 (bq X.prog X.w) X.A (a0z (.ListComp i3 [⟨tg,fj,i2,0⟩] scope pos) scope X.env iY (newList []) aJ (eval fj X.env) use) Qf X.bN s:=by
 have uf:∀y∈scope.names,y.2=.free->∃c,X.env.cells.lookup y.1=B c:=λy bl e=>by
  obtain k|k:=ok.free y bl e
  .exact D.ok.has _ (.inl k)
  exact D.ok.has _ (.inr k)
 refine ajs (use:=use) Y ax (QX uf) ok.kind (λy bl e=>by rw[ok.uniq y bl,e])
  (bW (hi a4 s G H _ D h) λ_ _ ag=>bW ag λ_ s2 a5=>?_)
 obtain⟨a',bO,tn,_,au,e,cL,T,nS,f2,q⟩:=a5;subst e;refine y0 (QY ?_) (by show 0<=cM;decide);generalize d2:s2.heap.objs.size=af;have Kg:au af=aa:=cL.bR.fresh (Ac d2);obtain⟨W,⟨i1,ig⟩,turn⟩:=q af Kg;generalize nd:({s2 with heap:=s2.heap.push {cls:=.type "list",data:=.seq ([]:List ae).toArray}}:ay)=bE;have dG:Inv X a4 G (av au af (.lst [])) bE:=by rw[<-nd];refine cL.laid (t':=s2.toks) (λb o e=>e9 _ e) (Ac d2) ⟨ek _,[],0,.nil,?_⟩;rw[<-d2];exact hP _ Y
 have aG:bE.heap=s2.heap.push {cls:=.type "list",data:=.seq ([]:List ae).toArray}:=by rw[<-nd]
 have l0:∀b∈bO,b<s2.heap.objs.size:=λb a0=>by obtain⟨o,e,_⟩:=T.obj _ _ nS b a0;exact dF e
 have dw:∀b∈bO,kD X a4 (av au af (.lst [])) b/\b<bE.heap.objs.size:=λb a0=>by have c4:=l0 b a0;refine⟨⟨?_,(f2 b a0).2⟩,by rw[aG,mR];exact P5 c4⟩;rw[aN (by rw[<-d2];exact gW c4)];exact(f2 b a0).1
 have sC:tn 0 bE.heap:=T.keep _ _ _ nS λb _ o e=>by rw[aG];exact e9 _ e
 have fU:=Q_ dG ok dD dw;have qq:=aI bE (av au af (.lst [])) bE.heap.objs.size (ib (bE.heap.objs.size+1) scope.names (ik X.env.cells scope.names [])) bO;have pt:=ba bE (av au af (.lst [])) bE.heap.objs.size (ib (bE.heap.objs.size+1) scope.names (ik X.env.cells scope.names [])) bO;have wh:=aF bE (av au af (.lst [])) bE.heap.objs.size (ib (bE.heap.objs.size+1) scope.names (ik X.env.cells scope.names [])) bO;show me _ _ (.compStart (.ListComp i3 [⟨tg,fj,i2,0⟩] scope pos) 0 (.ref a') (.ref af) (ky scope (ib (bE.heap.objs.size+1) scope.names (ik X.env.cells scope.names [])) bE.heap.objs.size X.env)) (DW (bq X.prog X.w) X.A X.bN use Qf (.ref af) bE.heap.objs.size) {bE with heap:=u2 (bE.heap.push {cls:=.type "dict",data:=.dict #[]}) scope.names};have B5:∀b∈bO,(av au af (.lst [])) b=aa:=λb a0=>(dw b a0).1.1;generalize sS:ky scope (ib (bE.heap.objs.size+1) scope.names (ik X.env.cells scope.names [])) bE.heap.objs.size X.env=iF at fU qq pt wh ⊢;have B6:iF.locals=bE.heap.objs.size:=by subst sS;rfl
 generalize a38:av au af (.lst [])=bc at dG fU qq pt wh ig B5 dw;generalize yB:({bE with heap:=u2 (bE.heap.push {cls:=.type "dict",data:=.dict #[]}) scope.names}:ay)=s4 at fU ⊢;have B7:tn 0 s4.heap:=T.keep _ _ _ sC λb _ o e=>by rw[<-yB];exact IF _ _ _ _ (e9 _ e)
 have n3:∀{aM:St}{H':ak}{b3:ay},Inv (X.gS bE bc scope iF bO) [] aM H' b3->(∀b∈bO,H' b=aa)->∀b∈bO,kD (X.gS bE bc scope iF bO) [] H' b:=fun{aM H' b3} el aH b a0=>⟨aH b a0,(el.ok.rn b a0).1,el.ok.ro b a0,.inl a0,λx c e=>(el.ok.rn b a0).2 x c e,λp ar=>absurd (show p∈([]:List (I×bJ))++[]from ar) (by simp)⟩;have B8:me (bq X.prog X.w) X.A (.compLoop (.ListComp i3 [⟨tg,fj,i2,0⟩] scope pos) 0 (.ref a') (.ref af) iF) (DW (bq X.prog X.w) X.A X.bN use Qf (.ref af) bE.heap.objs.size) s4:=by
  refine R3 (λn b3=>∃i H',Inv (X.gS bE bc scope iF bO) [] (eT G (own.map (·.2))) H' b3/\tn i b3.heap/\(∀b∈bO,H' b=aa)/\W i n H') ?_ i1 ⟨0,bc,fU,B7,B5,ig⟩;rintro n fV ⟨i,c_,jf,oR,kh,wi⟩;obtain⟨stop,iG⟩|⟨go,i4,Kh,step⟩:=turn i n c_ wi
  .have a_:=T.done (X.gS bE bc scope iF bO) Y Y Y a7 i [] fV _ c_ (λ_ _=>False) jf (n3 jf kh) oR stop;refine pN a_ λr eR ⟨ah,jg⟩=>?_;subst ah;have fL:Inv X a4 G c_ eR:=dG.El (ch:=bO) jg.os jg.base jg.bR jg.bare λb a0=>⟨(dw b a0).1.2.2.2.1,(dw b a0).1.2.1,(dw b a0).1.2.2.2.2.1,(dw b a0).1.2.2.2.2.2⟩;have Ki:c_ bE.heap.objs.size=aa:=by have z:c_ iF.locals=aa:=jg.free;rw[B6]at z;exact z
   obtain⟨m,aH,_⟩:=jg.loc;have aH:eR.heap.Ns iF.locals m:=aH;rw[B6]at aH;exact Kf af bE.heap.objs.size eR m c_ fL iG aH (dG.qn (cO _) Ki)
  have oO:=T.item (X.gS bE bc scope iF bO) Y Y Y a7 i [] fV _ c_ (λ_ _=>False) jf (n3 jf kh) oR go;refine pN oO λr eR ⟨u,ah,iH⟩=>?_;subst ah;refine pN iH λ_ jP ⟨x,fm,fL,w4,EY,wj,n4⟩=>?_;have Kj:=fL.pinned (n3 fL n4) (T.obj _ _ wj);refine pN (qq _ jP _ fm x u _ Kj w4 (step x fm EY)) λ_ pO ⟨sT,pP,uv,B9,Kk⟩=>?_;refine pN (pt _ pO sT pP _ uv Kk) λb lO ⟨n',qv,nf⟩=>?_;have fin:∀{b3:ay}{H':ak},Inv (X.gS bE bc scope iF bO) ([]++w2 bO jP.heap) sT H' b3->i4 H'->∃m,m<n/\∃i H',Inv (X.gS bE bc scope iF bO) [] (eT G (own.map (·.2))) H' b3/\tn i b3.heap/\(∀b∈bO,H' b=aa)/\W i m H':=fun{b3 H'} el c6=>by
   obtain⟨m',hm,jb⟩:=Kh H' c6;have Ba:∀b∈bO,∀o,jP.heap.get? b=B o->b3.heap.get? b=B o/\H' b=aa:=λb a0 o e=>
    let z:=el.pin (b,o) (ox _ (ox _ (ym a0 e)))
    ⟨z.1,z.2.1⟩
   have aq:(eT G (own.map (·.2))).length=sT.length:=by rw[<-B9,EV]
   refine⟨m',hm,i+1,H',(el.uj (a4:=[])).weak aq (λj v e=>?_),T.keep _ _ _ wj λb a0 o e=>(Ba b a0 o e).1,λb a0=>?_,jb⟩
   .rw[<-B9]at e;exact(EW e).1
   obtain⟨o,e,_⟩:=T.obj _ _ wj b a0;exact(Ba b a0 o e).2
  cases b with|false=>simp only[qa,jA]at nf ⊢;exact fin qv nf|true=>simp only[jB]at nf ⊢;refine pN (wh _ lO sT n' _ qv nf) λz _ ⟨_,_,qw,Kl,_,Km,Kn,c6⟩=>?_;exact R1 (X:=X.gS bE bc scope iF bO) qw Km Kn Kl λ_ Ko=>fin Ko c6
 exact ajc B8 (T.self X.A 0 _ _ _ B7 B8)
theorem sU{fj:bP}{gF:TI}(a7:X.calm=a9)(dD:X.N.Nodup)(hi:qo X tg fj gF)(ok:wc X.N X.env.scope scope own)(aI:∀(s:ay)(H:ak)(C:I)(cl:List (a8×I))(bO:List I),oN (X.gS s H scope (ky scope cl C X.env) bO) tg g)(ba:∀(s:ay)(H:ak)(C:I)(cl:List (a8×I))(bO:List I),we (X.gS s H scope (ky scope cl C X.env) bO) i2 tt)(aF:∀(s:ay)(H:ak)(C:I)(cl:List (a8×I))(bO:List I),bT (X.gS s H scope (ky scope cl C X.env) bO) i3 bY)(ax:∀x,Am fj X.env x=pure x:=by intro _;rfl):
  bT X (.ListComp i3 [⟨tg,fj,i2,0⟩] scope pos) (wg gF g tt bY (own.map (·.2))):=by
 intro _ s G H Q D h;rw[ajg];refine R5 a7 dD D hi ok aI ba aF ax h λaf C b3 m H' el q aH f=>⟨m,aH,λ_ cF=>?_⟩;obtain⟨fT,dS,_,dw,fa,fb⟩:=f;exact⟨.ref af,H',el.turned (t':=b3.toks) (λb o a0 e=>(cF.2 b a0).trans e) fT dS dw fa fb,Y,q⟩
theorem EZ{i:Nat}{y:a8}{oY:Pos}{fj:bP}{uw:Pos}{gF:TI}(a7:X.calm=a9)(dD:X.N.Nodup)(bl:X.N[i]? =B y)(R6:X.env.scope.names.lookup y=B .local)(Bb:sm (.ListComp i3 [⟨tg,fj,i2,0⟩] scope pos) (B (.Name y oY)) uw.line X.env=pure a9)(hi:qo X tg fj gF)(ok:wc X.N X.env.scope scope own)(aI:∀(s:ay)(H:ak)(C:I)(cl:List (a8×I))(bO:List I),oN (X.gS s H scope (ky scope cl C X.env) bO) tg g)(ba:∀(s:ay)(H:ak)(C:I)(cl:List (a8×I))(bO:List I),we (X.gS s H scope (ky scope cl C X.env) bO) i2 tt)(aF:∀(s:ay)(H:ak)(C:I)(cl:List (a8×I))(bO:List I),bT (X.gS s H scope (ky scope cl C X.env) bO) i3 bY)(ax:∀x,Am fj X.env x=pure x:=by intro _;rfl):
  jd X (.Assign [.Name y oY] (.ListComp i3 [⟨tg,fj,i2,0⟩] scope pos) uw) (oP (wg gF g tt bY (own.map (·.2))) (mr i)):=by
 intro a4 s G H af D h;rw[exec_Assign_Name_used _ _ _ _ Bb];refine bC (rh (bC ?_));show b8 _ X.A (do let _ <-a0z (.ListComp i3 [⟨tg,fj,i2,0⟩] scope pos) scope X.env (firstIterPos [⟨tg,fj,i2,0⟩] pos) (newList []) aJ (eval fj X.env) (B (xT (.Name y oY) X.env))) _ _ s;have h:wg gF g tt bY (own.map (·.2)) G H (λx ai=>mr i x G ai af.c6):=h;refine bC (bW (R5 (Qf:=λ_ b3=>m_ X a4 af .next b3) a7 dD D hi ok aI ba aF ax h λL C b3 m H' el q aH f=>?_) λ_ b3 aQ=>eC (eC aQ));show b8 _ _ (xT (.Name y oY) X.env (.ref L)) _ _ _;refine ajr (Q0 (v:=V.ref L) el dD bl (.inl R6) Y (λs2 cL ⟨a,cF,bf⟩=>?_) (.inr R6));obtain⟨fT,dS,_,dw,fa,fb⟩:=f;have a3d:C≠a:=by
  obtain z|z:=bf
  .rw[z];exact dS
  exact λe=>fa y a z e.symm
 refine⟨m,aH.sameBut cF a3d,λ_ a3e=>?_⟩;exact⟨_,H',cL.turned (t':=s2.toks) (λb o a0 e=>(a3e.2 b a0).trans e) fT dS dw fa fb,q⟩
theorem E_{cf:List Comprehension}{oY:Pos}{y:a8}{l:Nat}{env:eB}(aA:env.scope.kind=.function)(bl:env.scope.names.lookup y=B .local)(aq:(oY.line==pos.line)=a9)(bf:(scope.names.any λ(n,k)=>n==y&&(k== .local||k== .cell))=aJ):sm (.ListComp i3 cf scope pos) (B (.Name y oY)) l env=pure a9:=by
 have a3f:env.kindOf y=B .local:=bl;have a0:env.blockKind=.function:=by unfold Env.blockKind;rw[aA];rfl
 unfold sm;simp only[a0,a3f,bf,Expr.pos,aq];rfl
theorem Kp{lo:Int}{vs:List Nat}{ai:ak}{af:I}{Qd:ak->Prop}(Pv:Nat->ak->Prop)(b9:Pv 0 (av ai af (.lst [])))(ax:∀i H,i<n->Pv i H->g (.int (lo+i)) (eT G vs) H λcP au=>eT cP vs=eT G vs/\tt cP au λb bc=>if b=a9 then bY cP bc λy cT=>∃bM,cT af=B (.lst bM)/\bM.length<cM/\Pv (i+1) (av cT af (.lst (bM++[y])))else Pv (i+1) bc)(hd:∀H,Pv n H->Qd H):∃W:Nat->Nat->ak->Prop,(∃m,W 0 m (av ai af (.lst [])))/\∀i m H,W i m H->((sA lo n).stop i H/\Qd H)∨((sA lo n).go i H/\∃i4:ak->Prop,(∀H',i4 H'->∃m',m'<m/\W (i+1) m' H')/\∀x H',(sA lo n).jO i H x H'->g x (eT G vs) H' λcP au=>eT cP vs=eT G vs/\tt cP au λb bc=>if b=a9 then bY cP bc λy cT=>∃bM,cT af=B (.lst bM)/\bM.length<cM/\i4 (av cT af (.lst (bM++[y])))else i4 bc):=by
 refine⟨λi m H=>m=n-i/\i<=n/\Pv i H,⟨n,by simp,ek _,b9⟩,?_⟩;rintro i m H ⟨rfl,hi,p⟩;by_cases c4:i<n
 .refine .inr ⟨c4,Pv (i+1),λH' fM=>⟨n-(i+1),by omega,Y,c4,fM⟩,λx H' y=>?_⟩;obtain⟨e,y⟩:=y;subst e y;exact ax i _ c4 p
 have e:i=n:=by omega
 subst e;exact .inl ⟨cO _,hd H p⟩
variable{K:bj}
theorem ux{xs:List V}{vs:List Nat}{ai:ak}{af:I}{Qd:ak->Prop}(Pv:Nat->ak->Prop)(b9:Pv 0 (av ai af (.lst [])))(aq:∀i H,i<=xs.length->Pv i H->bp K H a xs)(ax:∀i x H,xs[i]? =B x->Pv i H->g x (eT G vs) H λcP au=>eT cP vs=eT G vs/\tt cP au λb bc=>if b=a9 then bY cP bc λy cT=>∃bM,cT af=B (.lst bM)/\bM.length<cM/\Pv (i+1) (av cT af (.lst (bM++[y])))else Pv (i+1) bc)(hd:∀H,Pv xs.length H->Qd H):∃W:Nat->Nat->ak->Prop,(∃m,W 0 m (av ai af (.lst [])))/\∀i m H,W i m H->((uh K a).stop i H/\Qd H)∨((uh K a).go i H/\∃i4:ak->Prop,(∀H',i4 H'->∃m',m'<m/\W (i+1) m' H')/\∀x H',(uh K a).jO i H x H'->g x (eT G vs) H' λcP au=>eT cP vs=eT G vs/\tt cP au λb bc=>if b=a9 then bY cP bc λy cT=>∃bM,cT af=B (.lst bM)/\bM.length<cM/\i4 (av cT af (.lst (bM++[y])))else i4 bc):=by
 refine⟨λi m H=>m=xs.length-i/\i<=xs.length/\Pv i H,⟨xs.length,by simp,ek _,b9⟩,?_⟩;rintro i m H ⟨rfl,hi,p⟩;have q:=aq i H hi p;by_cases c4:i<xs.length
 .refine .inr ⟨⟨xs,xs[i],q,by simp[c4]⟩,Pv (i+1),λH' fM=>⟨xs.length-(i+1),by omega,Y,c4,fM⟩,λx H' y=>?_⟩;obtain⟨e,y⟩:=y;subst e;exact ax i x _ (y xs q) p
 have e:i=xs.length:=by omega
 subst e;exact .inl ⟨⟨xs,q,cO _⟩,hd H p⟩
theorem a3g{xs:List V}{vs:List Nat}{ai:ak}{af:I}{Qd:ak->Prop}(Pv:Nat->ak->Prop)(b9:Pv 0 (av ai af (.lst [])))(aq:∀i H,i<=xs.length->Pv i H->dq K H a xs)(ax:∀i x H,xs[i]? =B x->Pv i H->g x (eT G vs) H λcP au=>eT cP vs=eT G vs/\tt cP au λb bc=>if b=a9 then bY cP bc λy cT=>∃bM,cT af=B (.lst bM)/\bM.length<cM/\Pv (i+1) (av cT af (.lst (bM++[y])))else Pv (i+1) bc)(hd:∀H,Pv xs.length H->Qd H):∃W:Nat->Nat->ak->Prop,(∃m,W 0 m (av ai af (.lst [])))/\∀i m H,W i m H->((ui K a).stop i H/\Qd H)∨((ui K a).go i H/\∃i4:ak->Prop,(∀H',i4 H'->∃m',m'<m/\W (i+1) m' H')/\∀x H',(ui K a).jO i H x H'->g x (eT G vs) H' λcP au=>eT cP vs=eT G vs/\tt cP au λb bc=>if b=a9 then bY cP bc λy cT=>∃bM,cT af=B (.lst bM)/\bM.length<cM/\i4 (av cT af (.lst (bM++[y])))else i4 bc):=by
 refine⟨λi m H=>m=xs.length-i/\i<=xs.length/\Pv i H,⟨xs.length,by simp,ek _,b9⟩,?_⟩;rintro i m H ⟨rfl,hi,p⟩;have q:=aq i H hi p;by_cases c4:i<xs.length
 .refine .inr ⟨⟨xs,xs[i],q,by simp[c4]⟩,Pv (i+1),λH' fM=>⟨xs.length-(i+1),by omega,Y,c4,fM⟩,λx H' y=>?_⟩;obtain⟨e,y⟩:=y;subst e;exact ax i x _ (y xs q) p
 have e:i=xs.length:=by omega
 subst e;exact .inl ⟨⟨xs,q,cO _⟩,hd H p⟩
def R7(N:List a8)(eX scope:hZ)(own:List (a8×Nat)):Bool:=
 (match scope.kind with|.function=>a9|_=>aJ)&&(scope.names.all λy=>decide (scope.names.lookup y.1=B y.2))&&(own.all λp=>decide (N[p.2]? =B p.1))&&
  (scope.names.all λy=>match y.2 with
   |.free=>(match eX.names.lookup y.1 with|some .cell=>a9|some .free=>a9|_=>aJ)
   |.local=>decide (y.1∈own.map (·.1))||decide (y.1∉N)
   |.cell=>decide (y.1∈own.map (·.1))||decide (y.1∉N)
   |_=>a9)
theorem o3{N:List a8}{eX:hZ}(h:R7 N eX scope own=a9):wc N eX scope own:=by
 unfold R7 at h;simp only[i8,xC,decide_eq_true_eq]at h;obtain⟨⟨⟨O,a5⟩,aG⟩,cG⟩:=h;refine⟨?_,a5,aG,λy bl e=>?_,λy bl e=>?_⟩
 .split at O
  .assumption
  cases O
 .have q:=cG y bl;simp only[e]at q;split at q<;>first|exact .inl (by assumption)|exact .inr (by assumption)|cases q
 have q:=cG y bl;rcases e with e|e<;>(simp only[e,sb,decide_eq_true_eq]at q;exact q)
variable{o:Option V}
section
variable{fl:Type}[DecidableEq fl]
def jT(aW:List (fl×V))(k:fl):Option V:=(aW.find? λgf=>decide (gf.1=k)).map (·.2)
def il(aW:List (fl×V))(k:fl)(v:V):List (fl×V):=
 if(aW.any λgf=>decide (gf.1=k))=a9 then aW.map (λgf=>if gf.1=k then(gf.1,v)else gf)else aW++[(k,v)]
theorem qx{p:fl×V}{r:List (fl×V)}{k:fl}(e:p.1=k):jT (p::r) k=B p.2:=by simp[jT,sd,e]
theorem qy{p:fl×V}{r:List (fl×V)}{k:fl}(e:¬p.1=k):jT (p::r) k=jT r k:=by simp[jT,sd,e]
theorem E'(k:fl):∀aW:List (fl×V),(aW.any λgf=>decide (gf.1=k))=(jT aW k).isSome
 |[]=>rfl
 |p::r=>by
  rw[A0];by_cases e:p.1=k
  .simp only[qx e,eE e,ahG,ail]
  rw[qy e,gP e,Dw];exact E' k r
theorem R8(k j:fl)(y:V):∀aW:List (fl×V),jT (aW.map λgf=>if gf.1=k then(gf.1,y)else gf) j=(jT aW j).map λx=>if j=k then y else x
 |[]=>rfl
 |p::r=>by
  have ih:=R8 k j y r;rw[i9];by_cases h:p.1=k
  .rw[aZ h];by_cases e:p.1=j
   .rw[qx (p:=(p.1,y)) e,qx e,P8,aZ (e.symm.trans h)]
   rw[qy (p:=(p.1,y)) e,qy e,ih]
  rw[aL h];by_cases e:p.1=j
  .rw[qx (p:=p) e,qx e,P8,aL (λz=>h (e.trans z))]
  rw[qy (p:=p) e,qy e,ih]
theorem R9(k j:fl)(y:V):∀aW:List (fl×V),jT aW k=aa->jT (aW++[(k,y)]) j=if j=k then B y else jT aW j
 |[],_=>by
  by_cases e:k=j
  .rw[aZ e.symm];exact qx (p:=(k,y)) e
  rw[aL (λz=>e z.symm)];exact qy (p:=(k,y)) e
 |p::r,aH=>by
  rw[ow];have aA:¬p.1=k:=λz=>by rw[qx z]at aH;cases aH
  rw[qy aA]at aH;have ih:=R9 k j y r aH;by_cases e:p.1=j
  .rw[qx e,qx e,aL (λz=>aA (e.trans z))]
  rw[qy e,qy e,ih]
theorem Ra(aW:List (fl×V))(k j:fl)(y:V):jT (il aW k y) j=if j=k then B y else jT aW j:=by
 unfold il;by_cases a:(aW.any λgf=>decide (gf.1=k))=a9
 .rw[aZ a,R8];rw[E']at a;by_cases e:j=k
  .obtain⟨x,ag⟩:=P7.mp a;rw[aZ e,e,ag,P8,aZ Y]
  rw[aL e];cases jT aW j with|none=>rfl|some x=>rw[P8,aL e]
 rw[aL a];refine R9 k j y aW ?_;rw[E']at a;cases q:jT aW k with|none=>rfl|some x=>rw[q]at a;exact(a Y).elim
theorem F0(aW:List (fl×V))(k:fl)(v:V):(il aW k v).length<=aW.length+1:=by
 unfold il;split
 .rw[cW];omega
 rw[df,fQ,tS];omega
theorem jN.a3h{u:Option ae}(r:jN o u):o.isSome=u.isSome:=by
 cases o with
 |none=>cases u with|none=>rfl|some _=>exact(show False from r).elim
 |some _=>cases u with|none=>exact(show False from r).elim|some _=>rfl
theorem jN.getD{u:Option ae}{d:V}{d':ae}(r:jN o u)(cI:RelV d d'):RelV (o.getD d) (u.getD d'):=by
 cases o with
 |none=>cases u with|none=>exact cI|some _=>exact(show False from r).elim
 |some _=>cases u with|none=>exact(show False from r).elim|some _=>exact r
theorem kz.val{aW:List (fl×V)}{vs:List (fl×ae)}(r:kz aW vs)(k:fl):jN (jT aW k) (D_ vs k):=by
 unfold kz at r;induction r with
 |nil=>exact Av
 | @cons p q aK fw h t ih=>
  obtain⟨O,a5⟩:=h;by_cases e:p.1=k
  .have d7:q.1=k:=O.symm.trans e;have b:D_ (q::fw) k=B q.2:=by simp[D_,sd,d7]
   rw[qx e,b];exact a5
  have d7:¬q.1=k:=λz=>e (O.trans z);have b:D_ (q::fw) k=D_ fw k:=by simp[D_,sd,d7]
  rw[qy e,b];exact ih
theorem kz.any{aW:List (fl×V)}{vs:List (fl×ae)}(r:kz aW vs)(k:fl):(aW.any λgf=>decide (gf.1=k))=vs.any λgf=>decide (gf.1=k):=by unfold kz at r;induction r with|nil=>rfl|cons h t ih=>rw[A0,A0,ih,h.1]
theorem kz.Kq{aW:List (fl×V)}{vs:List (fl×ae)}(r:kz aW vs)(k:fl)(cC:RelV y u):kz (aW.map λgf=>if gf.1=k then(gf.1,y)else gf) (vs.map λgf=>if gf.1=k then(gf.1,u)else gf):=by
 unfold kz at r ⊢;induction r with
 |nil=>exact .nil
 | @cons p q aK fw h t ih=>
  rw[i9,i9];refine .cons ?_ ih;obtain⟨O,a5⟩:=h;by_cases e:p.1=k
  .rw[aZ e,aZ (O.symm.trans e)];exact⟨O,cC⟩
  rw[aL e,aL (λz=>e (O.trans z))];exact⟨O,a5⟩
theorem kz.put{aW:List (fl×V)}{vs:List (fl×ae)}(r:kz aW vs)(k:fl)(cC:RelV y u):kz (il aW k y) (stored vs k u):=by
 unfold il stored;rw[r.any k];by_cases e:(vs.any λgf=>decide (gf.1=k))=a9
 .rw[aZ e,aZ e];exact r.Kq k cC
 rw[aL e,aL e];exact aiM r ⟨Y,cC⟩
theorem kz.length{aW:List (fl×V)}{vs:List (fl×ae)}(r:kz aW vs):aW.length=vs.length:=a0i r
end
variable{P:bQ}
theorem Kr{k:Key}(r:RelV (fI k) u):(mZ P w).is k u=a9:=by cases k with|inl i=>obtain⟨t,e⟩:=(show∃t,u=vL i t from r);subst e;exact a1e P w i t|inr x=>obtain⟨t,e⟩:=(show∃t,u=Pl x t from r);subst e;exact a1f P w x t
theorem Rb{P:bQ}{w:bI}:∀{um:List Key}{us:List ae},cB (um.map fI) us->ItemsAre (mZ P w) um us
 |[],_,r=>by rw[vD]at r;cases r;exact .nil
 |k::um,_,r=>by rw[i9]at r;cases r with|cons h t=>exact .cons (Kr h) (Rb t)
abbrev KT(H:ak):List (List Key×V)->List (List Key×I×ae)->Prop:=Paired λp q=>p.1=q.1/\H q.2.1=B (.tup (p.1.map fI))/\RelV p.2 q.2.2
variable{aW:List (List Key×V)}{xs:List (List Key×I×ae)}
theorem KT.val(r:KT H aW xs)(k:List Key):jN (jT aW k) ((xU xs k).map (·.2)):=by
 induction r with
 |nil=>exact Av
 | @cons p q aK fw h t ih=>
  obtain⟨O,_,a5⟩:=h;by_cases e:p.1=k
  .have d7:q.1=k:=O.symm.trans e;have b:xU (q::fw) k=B q.2:=by simp[xU,sd,d7]
   rw[qx e,b];exact a5
  have d7:¬q.1=k:=λz=>e (O.trans z);have b:xU (q::fw) k=xU fw k:=by simp[xU,sd,d7]
  rw[qy e,b];exact ih
theorem KT.Kq(r:KT H aW xs)(k:List Key)(cC:RelV y u):KT H (aW.map λgf=>if gf.1=k then(gf.1,y)else gf) (xs.map (putAt k u)):=by
 induction r with
 |nil=>exact .nil
 | @cons p q aK fw h t ih=>
  rw[i9,i9];refine .cons ?_ ih;obtain⟨O,a5,aG⟩:=h;unfold putAt;by_cases e:p.1=k
  .rw[aZ e,aZ (O.symm.trans e)];exact⟨O,a5,cC⟩
  rw[aL e,aL (λz=>e (O.trans z))];exact⟨O,a5,aG⟩
theorem KT.put(r:KT H aW xs)(k:List Key){b:I}(a0:H b=B (.tup (k.map fI)))(cC:RelV y u):KT H (il aW k y) (storedH xs k b u):=by
 have e:(aW.any λgf=>decide (gf.1=k))=(xU xs k).isSome:=by rw[E',(r.val k).a3h,Option.isSome_map]
 unfold il storedH;rw[e];by_cases q:(xU xs k).isSome=a9
 .rw[aZ q,aZ q];exact r.Kq k cC
 rw[aL q,aL q];exact aiM r ⟨Y,a0,cC⟩
theorem KT.keeps{H':ak}(r:KT H aW xs)(ba:∀b ys,H b=B (.tup ys)->H' b=B (.tup ys)):KT H' aW xs:=
 Paired.J2 r λ_ _ z=>⟨z.1,ba _ _ z.2.1,z.2.2⟩
section
variable{h:br}
theorem Rc{u:dy}(ok:f' P w H h)(e:f9 H a u):h7 P w H h a u:=e.ok ok
theorem Ks{aW:List (Key×V)}(ok:f' P w H h)(e:f9 H a (.oF aW)):aW.length<=cM/\(a==u4)=aJ/\∃vs,kz aW vs/\h.DictOf (mZ P w) a vs:=
 show h7 P w H h a (.oF aW)from Rc ok e
theorem a3i{aW:List (Key×V)}(ok:f' P w H h)(e:H a=B (.oF aW)):aW.length<=cM/\(a==u4)=aJ/\∃vs,kz aW vs/\h.DictOf (mZ P w) a vs:=Ks ok (.inl e)
theorem Kt{um:List Key}(ok:f' P w H h)(e:H a=B (.tup (um.map fI))):(DZ (mZ P w)).is h um a:=by obtain⟨_,b6,r,o,O,a5,n,aG⟩:=(show h7 P w H h a (.tup (um.map fI))from ok a _ e);exact⟨o,b6.toArray,n,O,a5,aG,by simpa using Rb r⟩
theorem Ku(ok:f' P w H h)(e:f9 H a (.g8 aW)):aW.length<=cM/\(a==u4)=aJ/\∃xs,KT H aW xs/\h.DictOfH (DZ (mZ P w)) a xs:=by
 obtain⟨z,y,xs,r,o,b7,fS,O,a5,aG,cG,eZ⟩:=(show h7 P w H h a (.g8 aW)from Rc ok e);refine⟨z,y,xs,r,o,b7,fS,O,a5,aG,cG,λx ag=>?_,eZ⟩;have all:∀{l:List (List Key×V)}{m:List (List Key×I×ae)},KT H l m->∀x∈m,(DZ (mZ P w)).is h x.1 x.2.1:=by
  intro l m q;induction q with
  |nil=>intro x ag;exact nomatch ag
  | @cons p q aK fw aQ t ih=>
   intro x ag;obtain e|ag:=dx.mp ag
   .subst e;exact Kt ok (by rw[<-aQ.1];exact aQ.2.1)
   exact ih x ag
 exact all r x ag
theorem a3j(ok:f' P w H h)(e:H a=B (.g8 aW)):aW.length<=cM/\(a==u4)=aJ/\∃xs,KT H aW xs/\h.DictOfH (DZ (mZ P w)) a xs:=Ku ok (.inl e)
end
def Bc(H:ak)(a:I)(y:V)(r:Option V):Prop:=
 (∃aW k,f9 H a (.oF aW)/\y=fI k/\r=jT aW k)∨∃aW k b,f9 H a (.g8 aW)/\y=.ref b/\H b=B (.tup (k.map fI))/\r=jT aW k
def yC(H:ak)(a:I)(y v:V)(H':ak):Prop:=
 (∃aW k,H a=B (.oF aW)/\y=fI k/\aW.length<cM/\H'=av H a (.oF (il aW k v)))∨∃aW k b,H a=B (.g8 aW)/\y=.ref b/\H b=B (.tup (k.map fI))/\aW.length<cM/\H'=av H a (.g8 (il aW k v))
theorem Bc.t{b:I}{k:List Key}(e:H a=B (.g8 aW))(h9:H b=B (.tup (k.map fI))):Bc H a (.ref b) (jT aW k):=.inr ⟨aW,k,b,.inl e,Y,h9,Y⟩
theorem yC.t{b:I}{k:List Key}{v:V}(e:H a=B (.g8 aW))(h9:H b=B (.tup (k.map fI)))(aq:aW.length<cM):yC H a (.ref b) v (av H a (.g8 (il aW k v))):=.inr ⟨aW,k,b,e,Y,h9,aq,Y⟩
section
variable{v:V}{r:ae}
theorem Inv.big(D:Inv X a4 G H s):u4<s.heap.objs.size:=by have h:mf<s.heap.objs.size:=(D.mod.glob.keeps D.gD).lt;exact Ih (by decide) h
theorem Rd{h':br}{t':Nat}{cE:dy}(D:Inv X a4 G H s)(iU:rl (H a))(ax:DL a s.heap h')(aF:∃q,h'.get? a=B q)(new:h7 X.prog X.w (av H a cE) h' a cE):Inv X a4 G (av H a cE) {s with heap:=h',toks:=t'}:=
 D.write (x:=a) (e:=a) iU (.inl Y) (λb q a0 z=>(ax.2 b a0).trans z) aF new
theorem a3k{H':ak}{h':br}{aW:List (Key×V)}{vs:List (Key×ae)}(z:aW.length<=cM)(hd:(a==u4)=aJ)(qz:kz aW vs)(dd:h'.DictOf (mZ P w) a vs):h7 P w H' h' a (.oF aW):=⟨z,hd,vs,qz,dd⟩
theorem a3l{H':ak}{Q:Unit->ay->Prop}(bz:A.units+1<t_)(D:Inv X a4 G H s)(g:yC H a y v H')(cC:RelV y u)(cA:RelV v r)(h:∀b3,Inv X a4 G H' b3->Q () b3):b8 (bq X.prog X.w) A (setItem (.ref a) u r) Q E s:=by
 obtain⟨aW,k,e,oZ,l,Kv⟩|⟨aW,k,b,e,oZ,h9,l,Kv⟩:=g
 .subst oZ Kv;obtain⟨z,hd,vs,qz,dd⟩:=a3i D.bR e;have aR:vs.length<=cM:=by rw[<-qz.length];exact z
  have aq:(il aW k v).length<=cM:=by have:=F0 aW k v;omega
  refine wpAny_setItem_pairs (hsz:=aR) (Kr cC) dd λh' F1 ax=>h _ ?_;have aF:∃q,h'.get? a=B q:=let⟨q,_,_,aQ,_⟩:=F1;⟨q,aQ⟩
  exact Rd D (by rw[e];exact Av) ax aF (a3k aq hd (qz.put k cA) F1)
 subst oZ Kv;cases(show u=dM b from cC);obtain⟨z,hd,xs,qz,dd⟩:=a3j D.bR e;have aR:xs.length<=cM:=by rw[<-a0i qz];exact z
 have aq:(il aW k v).length<=cM:=by have:=F0 aW k v;omega
 refine wpAny_setItem_heap (hsz:=aR) (ajo bz) (Kt D.bR h9) dd λh' F1 ax=>h _ ?_;obtain⟨q,b7,fS,aQ,a5,aG,cG,_,eZ⟩:=F1;refine Rd D (by rw[e];exact Av) ax ⟨q,aQ⟩ ⟨aq,hd,_,(qz.put k h9 cA).keeps λc _ qA=>?_,q,b7,fS,aQ,a5,aG,cG,eZ⟩;rw[aN (J1 qA e (λz=>nomatch z))];exact qA
end
def a3m(a_ ty l2:b'):er:=λaf G H=>l2 G H λv ai=>a_ G ai λx au=>ty G au λy bc=>∃a cT,x=.ref a/\yC bc a y v cT/\af.c6 G cT
variable{a_:b'}
section
variable{o i l3:bP}{iY l4:Pos}{ty l2:b'}
theorem Rf(bz:X.A.units+1<t_)(aU:bT X o a_)(hi:bT X i ty)(bk:bT X l3 l2)(ax:sm l3 (B (.Subscript o i iY)) pos.line X.env=pure aJ):jd X (.Assign [.Subscript o i iY] l3 pos) (a3m a_ ty l2):=by intro a4 s G H _ D h;refine wpAny_Assign_Subscript (bW (bk a4 s G H _ D h) λr s1 ⟨v,ai,aP,cA,bx⟩=>bW (aU a4 s1 G ai _ aP bx) λu s2 ⟨x,au,cL,cp,cw⟩=>bW (hi a4 s2 G au _ cL cw) λ_ _ ⟨y,_,dG,cC,a,cT,ex,g,h1⟩=>?_) ax;subst ex;obtain rfl:u=dM a:=cp;exact a3l bz dG g cC cA λ_ fU=>⟨G,cT,fU,h1⟩
end
theorem a3n(h:br)(a0:u4<h.objs.size):h7 P w H (h.push {cls:=.type "dict",data:=.dict #[]}) h.objs.size (.g8 []):=
 ⟨ek _,Ee.mpr (ed (gW a0)),[],.nil,_,#[],0,hP _ Y,⟨Y,Y,Y⟩,Y,Y,ai1⟩
def a3o:b':=λ_ H Q=>∀p,H p=aa->Q (.ref p) (av H p (.g8 []))
theorem a3p:bT X (.Dict [] [] pos) a3o:=λ_ s G H Q D h=>wpAny_Dict_empty ⟨.ref s.heap.objs.size,_,D.laid (a:=s.heap.objs.size) (o:=.g8 []) (t':=s.toks) (λ_ _ q=>e9 _ q) (cO _) (a3n s.heap D.big),Y,h _ (D.bR.fresh (cO _))⟩
structure a3q (X:bB) (o:bP) (m:a8) (fo:Pos) (e f:bP) (jS:Pos):Prop where
 base:xV o m X.env (eval o X.env)=eval o X.env
 a3r:((lD jS (fC [e,f] X.env)).all (λx=>!x.1)&&(tZ jS (u0 [] X.env)).all (λx=>x.1.isSome)
  &&decide (([e,f]:List bP).length+([]:List Ir).length+(if([]:List Ir).isEmpty then 0 else 1)<30))=a9
 line:(fo.endLine==jS.line)=a9
 trees:lD jS (fC [e,f] X.env)=[(aJ,eval e X.env),(aJ,eval f X.env)]
def Rg(H:ak)(a:I):Prop:=(∃aW,f9 H a (.oF aW))∨∃aW,f9 H a (.g8 aW)
theorem a3s(D:Inv X a4 G H s)(d:Rg H a):s.TypeIs (.ref a) "dict"/\(∀b,dM a=.ref b->∃cE,s.heap.get? b=B cE/\cE.dict=aa)/\(a==u4)=aJ:=by
 obtain⟨aW,e⟩|⟨aW,e⟩:=d
 .obtain⟨_,hd,_,_,dd⟩:=Ks D.bR e;refine⟨dd.typeIs,λb q=>?_,hd⟩;cases q;obtain⟨cE,_,_,O,a5,_⟩:=dd;exact⟨cE,O,a5.2.1⟩
 obtain⟨_,hd,_,_,dd⟩:=Ku D.bR e;refine⟨dd.typeIs,λb q=>?_,hd⟩;cases q;obtain⟨cE,_,_,O,a5,_⟩:=dd;exact⟨cE,O,a5.2.1⟩
section
variable{d:V}{r:ae}
theorem a3t(bz:A.units+1<t_)(D:Inv X a4 G H s)(g:Bc H a y o)(cC:RelV y u)(cI:RelV d r)(h:∀jb b3,Inv X a4 G H b3->RelV (o.getD d) jb->Q jb b3):b8 (bq X.prog X.w) A (mU (.builtin "dict.get") [.ref a,u,r]) Q E s:=by
 obtain⟨aW,k,e,oZ,l⟩|⟨aW,k,b,e,oZ,h9,l⟩:=g
 .subst oZ;obtain⟨z,hd,_,qz,dd⟩:=Ks D.bR e;refine call_meetsIn a0e dd.typeIs aiD (aiC _ _ _) (meets_dict_get_default (mZ X.prog X.w) a (Kr cC) hd r) ⟨_,dd.mapOf,h _ _ (D.tok _) ?_⟩;rw[l];exact(qz.val k).getD cI
 subst oZ;cases(show u=dM b from cC);obtain⟨z,hd,xs,qz,dd⟩:=Ku D.bR e;refine call_meetsIn a0e dd.typeIs aiD (aiC _ _ _) (meetsH_dict_get_default (DZ (mZ X.prog X.w)) a b hd r) ⟨ajo bz,k,xs,Kt D.bR h9,dd,h _ _ (D.tok _) ?_⟩;rw[l];exact(qz.val k).getD cI
end
def a3u(a_ ty wk:b'):b':=λG H Q=>a_ G H λx ai=>∃a,x=.ref a/\Rg ai a/\ty G ai λy au=>wk G au λz bc=>∃o,Bc bc a y o/\Q (o.getD z) bc
section
variable{o f:bP}{ty wk:b'}
theorem a3v(bz:X.A.units+1<t_)(aU:bT X o a_)(aF:bT X e ty)(hf:bT X f wk)(m:a3q X o "get" fo e f jS):bT X (.Call (.Attribute o "get" fo) [e,f] [] jS) (a3u a_ ty wk):=by intro a4 s G H Q D h;refine wpAny_Call_method m.base m.a3r m.line PySem.F.plainAttrs_dict a0e PySem.F.type_dict_get (bW (aU a4 s G H _ D h) λu s1 ⟨x,ai,aP,cp,a,ex,d,bx⟩=>?_);subst ex;obtain rfl:u=dM a:=cp;obtain⟨gK,nh,_⟩:=a3s aP d;refine⟨gK,nh,?_⟩;rw[m.trees];refine Pb Y (a0b (Pc (bW (aF a4 s1 G ai _ aP bx) λ_ s2 ⟨y,au,cL,cC,cw⟩=>Pc (bW (hf a4 s2 G au _ cL cw) λ_ _ ⟨z,bc,dG,JH,_,g,h1⟩=>a0c ?_))));exact a3t bz dG g cC JH λ_ _ fU AZ=>⟨_,bc,fU,AZ,h1⟩
end
section
variable{h':br}
theorem Inv.Rh{t':Nat}{ch:List I}(D:Inv X a4 G H s)(k:∀b o,b∉ch->s.heap.get? b=B o->h'.get? b=B o)(hf:∀b∈ch,kD X a4 H b):Inv X a4 G H {s with heap:=h',toks:=t'}:=by
 have ue:∀b u,H b=B u->b∉ch:=λb u e z=>by have q:=(hf b z).1;rw[q]at e;cases e
 refine D.step (g':=s.gens) (d':=s.drawn) (ch:=ch) (λb a0=>⟨(hf b a0).2.2.2.1,(hf b a0).2.1,(hf b a0).2.2.2.2.1,(hf b a0).2.2.2.2.2⟩) (λb o _ _ a7 e _=>k b o a7 e) (λb o _ _ a7 e _=>⟨o.slots,k b o a7 e⟩)
  (λ_ _ _ _ n=>n) (λb o a7 e=>⟨o,k b o a7 e⟩) (λ_ _ e=>e) (λ_ _ _ e=>e) (λb _ e=>⟨#[],by rw[e];simp⟩) (λm hm=>?_) (λb u e=>?_) D.bare
 .obtain⟨o,b7,fS,aU,r⟩:=hm;exact⟨o,b7,fS,k _ o (λz=>(hf _ z).2.1 Y) aU,r⟩
 refine(D.bR b u e).rk (λc v a7 q=>k c v ?_ q) (λ_ q=>q) λ_ _ q=>q;obtain z|z:=a7
 .rw[z];exact ue b u e
 exact ue c _ z
theorem Inv.F2{t':Nat}{ch:List I}{T:I}{cE:dy}(D:Inv X a4 G H s)(k:∀b o,b∉ch->s.heap.get? b=B o->h'.get? b=B o)(hf:∀b∈ch,kD X a4 H b)(dp:s.heap.objs.size<=T)(new:h7 X.prog X.w (av H T cE) h' T cE):Inv X a4 G (av H T cE) {s with heap:=h',toks:=t'}:=by
 have aH:H T=aa:=D.bR.fresh dp;have ue:∀b u,H b=B u->b∉ch:=λb u e z=>by have q:=(hf b z).1;rw[q]at e;cases e
 refine D.step (g':=s.gens) (d':=s.drawn) (ch:=ch) (λb a0=>⟨(hf b a0).2.2.2.1,(hf b a0).2.1,(hf b a0).2.2.2.2.1,(hf b a0).2.2.2.2.2⟩) (λb o _ _ a7 e _=>k b o a7 e) (λb o _ _ a7 e _=>⟨o.slots,k b o a7 e⟩)
  (λb o _ e n=>?_) (λb o a7 e=>⟨o,k b o a7 e⟩) (λb xs e=>?_) (λb o u e=>?_) (λb _ e=>⟨#[],?_⟩) (λm hm=>?_) (λb u e=>?_) D.bare
 .rw[aN (gW (kW (dF e) dp))];exact n
 .rw[aN (cU e aH)];exact e
 .rw[aN (cU e aH)];exact e
 .rw[aN (cU e aH),e];simp
 .obtain⟨o,b7,fS,aU,r⟩:=hm;exact⟨o,b7,fS,k _ o (λz=>(hf _ z).2.1 Y) aU,r⟩
 by_cases a0:b=T
 .subst a0;rw[b0]at e;cases e;exact new
 rw[aN a0]at e;refine(D.bR b u e).rk (λc v a7 q=>k c v ?_ q) (λc q=>by rw[aN (cU q aH)];exact q) λc xs q=>by rw[aN (cU q aH)];exact q
 obtain z|z:=a7
 .rw[z];exact ue b u e
 exact ue c _ z
end
theorem Kw{R:jC->ak->Prop}{d4:jC}{tn:Nat->br->Prop}{tk:Nat}(D:Inv X a4 G H s)(o:bJ)(T:ru X.prog X.w X.K tg d4 [s.heap.objs.size] s.heap.objs.size tn)(st:tn 0 (s.heap.push o))(q:R d4 H):Et X a4 G tg R (.ref s.heap.objs.size) {s with heap:=s.heap.push o,toks:=tk}:=by
 refine⟨s.heap.objs.size,[s.heap.objs.size],tn,d4,H,Y,D.kept λb _ e=>e9 _ e,T,st,λb a0=>?_,q⟩;have e:b=s.heap.objs.size:=by simpa using a0
 subst e;exact D.qn (cO _) (D.bR.fresh (cO _))
def Bd(lo c:Int)(n:Nat):jC:=⟨λi _=>i<n,λi H x H'=>H'=H/\x=.int (lo+(i:Nat)*c),λi _=>n<=i⟩
theorem a3w(a':I)(lo c:Int)(n:Nat):ru P w K tg (Bd lo c n) [a'] a' (λi h=>Pj h a' (lo+(i:Nat)*c) ((n:Int)-(i:Nat)) c) where
 mem:=by simp
 obj:=λi h st b a0=>by
  have e:b=a':=by simpa using a0
  subst e;exact⟨_,st,λv z=>nomatch z⟩
 keep:=λi h h' st k=>k a' (by simp) _ st
 item:=by intro X bK hw fu a7 i a4 s G H E D hf st aI;subst bK hw fu;obtain⟨fT,dS,f2,dw,fa,fb⟩:=hf a' (by simp);have W:=aj5 (prog:=X.prog) (w:=X.w) (D.ok.hd a7) a' lo c n;refine W.item i s _ _ aI st λv h' tk bk lI c7=>?_;obtain⟨t,rfl⟩:=bk;have aP:Inv X a4 G H {s with heap:=h',toks:=tk}:=D.turned (λb o a0 e=>c7 b o (by simpa using a0) e) fT dS dw fa fb;exact⟨_,Y,yl (s:={s with heap:=h',toks:=tk}) (n:="range_iterator") lI Y Y (by decide) ⟨.int (lo+(i:Nat)*c),H,aP,⟨t,Y⟩,⟨Y,Y⟩,lI,λb a0=>(hf b a0).1⟩⟩
 done:=by intro X bK hw fu a7 i a4 s G H E D hf st aI;subst bK hw fu;obtain⟨fT,dS,f2,dw,fa,fb⟩:=hf a' (by simp);exact ajF (D.ok.hd a7) st (by have:n<=i:=aI;omega) λh' h9=>⟨Y,D.turned (t':=s.toks) (λb o a0 e=>h9 b o a0 e) fT dS dw fa fb⟩
 self:=λA i s Q E st h=>ajD st h
def Be(i j c:Int)(n:Nat):Prop:=c≠0/\c.natAbs<1073741824/\alc i j c=a9/\a08 i j c=n
theorem Be.neg{i j:Int}(bf: -(2^62)<=i)(a3x:i<2^62)(a0: -(2^62)<=j)(sH:j<2^62):Be i j (-1) (i-j).toNat:=
 ⟨by decide,by decide,PySem.W.small_down bf a3x a0 sH,PySem.W.rangeSize_downNat i j⟩
def a3y(c0:gE):TI:=λG H R=>c0 G H λvs ai=>∃(i j c:Int)(n:Nat),vs=[.int i,.int j,.int c]/\Be i j c n/\R (Bd i c n) ai
theorem a3z{a b c:bP}{c0:gE}{p:Pos}(aI:hA X "range")(hm:X.a6 "range" =aa)(bf:hz X [a,b,c] c0)(ax:fC [a,b,c] X.env=(aJ,eval a X.env)::fC [b,c] X.env:=by rfl)(eF:(lD pos (fC [b,c] X.env)).any (·.1)=aJ:=by rfl):
  qo X tg (.Call (.Name "range" p) [a,b,c] [] pos) (a3y c0):=by
 intro a4 s G H R D h;refine Il (vZ D aI hm boot_range (DK (bW (bf pos a4 s G H _ D h) λ_ s1 ⟨_,ai,aP,cv,bx⟩=>?_) ax eF));obtain⟨i,j,k,n,e,⟨Bf,eG,gg,sV⟩,q⟩:=bx;subst e;cases cv with
 |cons r iC=>
  cases iC with
  |cons gq iC=>
   cases iC with
   |cons a3A iC=>
    cases iC;obtain⟨t,rfl⟩:=r;obtain⟨t',rfl⟩:=gq;obtain⟨a3B,rfl⟩:=a3A;refine call_range_3 Bf ?_ (.inl (ais eG));refine ajC (aiL ..) gg ?_;have cL:Inv X a4 G ai {s1 with heap:=s1.heap.push {cls:=.type "range",data:=.fields #[.int i t,.int j t',.int k a3B]}}:=aP.kept (t':=s1.toks) λb o e=>e9 _ e;refine Kw (tk:=s1.toks) cL _ (a3w _ i k n) ?_ q;have aO:i+((0:Nat):Int)*k=i:=by simp
    have aT:(n:Int)-((0:Nat):Int)=a08 i j k:=by rw[sV];simp
    show Pj _ _ (i+((0:Nat):Int)*k) ((n:Int)-((0:Nat):Int)) k;rw[aO,aT];exact hP _ Y
theorem a3C{lo c:Int}{cu:er}{af:Ends}(Pv:Nat->St->ak->Prop)(b9:Pv 0 G H)(ax:∀i G H,i<n->Pv i G H->g (.int (lo+(i:Nat)*c)) G H λcP au=>cu {af with c6:=Pv (i+1),en:=Pv (i+1),gD:=af.c6} cP au)(hd:∀G H,Pv n G H->af.c6 G H):∃W:Nat->Nat->St->ak->Prop,(∃m,W 0 m G H)/\∀i m G H,W i m G H->((Bd lo c n).stop i H/\af.c6 G H)∨((Bd lo c n).go i H/\∃N:St->ak->Prop,(∀aM H',N aM H'->∃m',m'<m/\W (i+1) m' aM H')/\∀x H',(Bd lo c n).jO i H x H'->g x G H' λcP au=>cu {af with c6:=N,en:=N,gD:=af.c6} cP au):=by
 refine⟨λi m G H=>m=n-i/\i<=n/\Pv i G H,⟨n,by simp,ek _,b9⟩,?_⟩;rintro i m G H ⟨rfl,hi,p⟩;by_cases c4:i<n
 .refine .inr ⟨c4,Pv (i+1),λaM H' fM=>⟨n-(i+1),by omega,Y,c4,fM⟩,λx H' y=>?_⟩;obtain⟨e,y⟩:=y;subst e y;exact ax i G _ c4 p
 have e:i=n:=by omega
 subst e;exact .inl ⟨cO _,hd G H p⟩
def o_(x:a8):jC:=⟨λi _=>i<x.cps.size,λi H v H'=>H'=H/\∃c,x.cps[i]? =B c/\v=.str ⟨#[c]⟩,λi _=>x.cps.size<=i⟩
theorem yD(a':I)(x:a8)(t:jy)(ty:String)(uu:ty="str_ascii_iterator"∨ty="str_iterator"):ru P w K tg (o_ x) [a'] a' (λi h=>h.IsStrIter a' ty x t i) where
 mem:=by simp
 obj:=λi h st b a0=>by
  have e:b=a':=by simpa using a0
  subst e;obtain⟨o,e,c,d⟩:=st;exact⟨o,e,λv z=>by rw[d]at z;cases z⟩
 keep:=λi h h' st k=>let⟨o,aU,r⟩:=st;⟨o,k a' (by simp) o aU,r⟩
 item:=by
  intro X bK hw fu a7 i a4 s G H E D hf st aI;subst bK hw fu;obtain⟨fT,dS,f2,dw,fa,fb⟩:=hf a' (by simp);have W:Walks X.prog X.w X.A a' [a'] [a'] x.cps.size (SignAt x) (λi h=>h.IsStrIter a' ty x t i):=by
   obtain e|e:=uu
   .rw[e];exact Walks.strAscii (D.ok.hd a7) a' x t
   rw[e];exact Walks.strWide (D.ok.hd a7) a' x t
  have ip:["enumerate","zip","dict_itemiterator","dict_reverseitemiterator","odict_iterator","itertools.zip_longest","itertools.pairwise"].contains ty=aJ:=by
   obtain e|e:=uu
   .rw[e];decide
   rw[e];decide
  refine W.item i s _ _ aI st λv h' tk bk lI c7=>?_;obtain⟨c,u,yE,rfl⟩:=bk;have aP:Inv X a4 G H {s with heap:=h',toks:=tk}:=D.turned (λb o a0 e=>c7 b o (by simpa using a0) e) fT dS dw fa fb;obtain⟨_,e,Kx,dd⟩:=id lI;exact⟨_,Y,yl (s:={s with heap:=h',toks:=tk}) e Kx dd ip ⟨.str ⟨#[c]⟩,H,aP,⟨u,Y⟩,⟨Y,c,yE,Y⟩,lI,λb a0=>(hf b a0).1⟩⟩
 done:=by
  intro X bK hw fu a7 i a4 s G H E D hf st aI;subst bK hw fu;obtain⟨fT,dS,f2,dw,fa,fb⟩:=hf a' (by simp);have ag:x.cps[i]? =aa:=ahy aI;obtain e|e:=uu
  .rw[e]at st;exact wpAny_pyNext_ascii_end (D.ok.hd a7) st ag λh' h9=>⟨Y,D.turned (t':=s.toks) (λb o a0 e=>h9 b o a0 e) fT dS dw fa fb⟩
  rw[e]at st;exact wpAny_pyNext_wide_end (D.ok.hd a7) st ag λh' h9=>⟨Y,D.turned (t':=s.toks) (λb o a0 e=>h9 b o a0 e) fT dS dw fa fb⟩
 self:=λA i s Q E st h=>by
  obtain e|e:=uu
  .rw[e]at st;exact wpAny_pyIter_striter_ascii st h
  rw[e]at st;exact wpAny_pyIter_striter_wide st h
def a3E(bY:b'):TI:=λG H R=>bY G H λv ai=>∃x,v=.str x/\R (o_ x) ai
theorem Ri(aF:bT X e bY):qo X tg e (a3E bY):=by
 intro a4 s G H R D h;refine bW (aF a4 s G H _ D h) λv s1 ⟨y,_,aP,cv,x,ex,q⟩=>?_;subst ex;obtain⟨t,rfl⟩:=cv;cases bf:x.cps.all (·<128)
 .exact wpAny_pyIter_wide bf (Kw (tk:=s1.toks) aP _ (yD _ x t "str_iterator" (.inr Y)) ⟨_,hP _ Y,Y,Y⟩ q)
 exact ajB bf (Kw (tk:=s1.toks) aP _ (yD _ x t "str_ascii_iterator" (.inl Y)) ⟨_,hP _ Y,Y,Y⟩ q)
def uy(K:bj)(a:I):jC:=
 ⟨λi H=>∃(xs:List V)(x:V),bp K H a xs/\xs[i]? =B x,λi H v H'=>∃T x,v=.ref T/\H T=aa/\H'=av H T (.tup [.int (i:Nat),x])/\∀xs,bp K H a xs->xs[i]? =B x,λi H=>∃xs:List V,bp K H a xs/\xs.length<=i⟩
theorem a3F{kI:List bP}{c7:Nat}{l4:Pos}(a e a':I):ru P w K (.Tuple kI c7 l4) (uy K a) [e,a'] e (λi h=>(∃o',Iq h e a' ((i:Nat):Int) o')/\h.IsListIter a' a i/\e≠a') where
 mem:=by simp
 obj:=λi h st b a0=>by
  obtain⟨⟨o',aF⟩,⟨o,aU,a7,hd⟩,_⟩:=st;have d7:b=e∨b=a':=by simpa using a0
  obtain z|z:=d7
  .rw[z];exact⟨_,aF,λv q=>nomatch q⟩
  rw[z];exact⟨o,aU,λv q=>by rw[hd]at q;cases q⟩
 keep:=λi h h' st k=>let⟨⟨o',aF⟩,hi,bV⟩:=st;⟨⟨o',k e (by simp) _ aF⟩,hi.at λo q=>k a' (by simp) o q,bV⟩
 item:=by
  intro X bK hw fu a7 i a4 s G H E D hf st aI;subst bK hw fu;obtain⟨⟨o',aF⟩,gh,bV⟩:=st;obtain⟨xs,x,aQ,ag⟩:=aI;obtain⟨b6,cA,p,aR⟩:=D.list aQ;obtain⟨u,bz,h8⟩:=cA.get ag;have rA:e<s.heap.objs.size:=dF aF;have Ky:a'<s.heap.objs.size:=by obtain⟨_,q,_⟩:=gh;exact dF q
  refine wpAny_pyNext_enum_item aF gh p.isList (x:=u) (by simpa using bz) bV λh' aU Bg dp _ aA=>?_;refine⟨_,Y,ajv (s:={s with heap:=h',toks:=s.toks+1}) aU λjm wb cF=>?_⟩;have wm:jm.get? s.heap.objs.size=B {cls:=.type "tuple",data:=.seq #[.int i s.toks,u]}:=(cF.2 _ (xK rA)).trans dp;have new:h7 X.prog X.w (av H s.heap.objs.size (.tup [.int (i:Nat),x])) jm s.heap.objs.size (.tup [.int (i:Nat),x]):=
   ⟨by show 2<=cM;decide,[.int i s.toks,u],.cons ⟨_,Y⟩ (.cons h8 .nil),⟨_,wm,Y,_,Y⟩⟩
  have aP:Inv X a4 G (av H s.heap.objs.size (.tup [.int (i:Nat),x])) {s with heap:=jm,toks:=s.toks+1}:=
   D.F2 (ch:=[e,a']) (λb cE a0 q=>(cF.2 b (λz=>a0 (by simp[z]))).trans (aA b cE (λz=>a0 (by simp[z])) (λz=>a0 (by simp[z])) q)) hf (cO _) new
  refine⟨.ref s.heap.objs.size,_,aP,Y,⟨_,x,Y,D.bR.fresh (cO _),Y,λ_ bl=>by rw[D.yh bl aQ];exact ag⟩,⟨⟨u,?_⟩,Bg.at λo q=>(cF.2 a' (ed bV)).trans q,bV⟩,λb a0=>?_⟩
  .have aO:((i+1:Nat):Int)=(i:Int)+1:=by omega
   rw[aO];exact wb
  have sH:b<s.heap.objs.size:=by
   have d7:b=e∨b=a':=by simpa using a0
   obtain z|z:=d7
   .rw[z];exact rA
   rw[z];exact Ky
  rw[aN (gW sH)];exact(hf b a0).1
 done:=by intro X bK hw fu a7 i a4 s G H E D hf st aI;subst bK hw fu;obtain⟨⟨o',aF⟩,gh,bV⟩:=st;obtain⟨xs,aQ,ag⟩:=aI;obtain⟨b6,cA,p,aR⟩:=D.list aQ;obtain⟨fT,dS,_,dw,fa,fb⟩:=hf a' (by simp);have aq:=cA.length;exact wpAny_pyNext_enum_end (D.ok.hd a7) aF gh p.isList (by simp;omega) λh' h9=>⟨Y,D.turned (t':=s.toks) (λb o a0 q=>h9 b o a0 q) fT dS dw fa fb⟩
 self:=λA i s Q E st h=>let⟨⟨_,aF⟩,_⟩:=st;IJ aF h
theorem Rj:DU "zip" =B (.type "zip"):=by decide+kernel
def sW(K:bj)(a b:I):jC:=
 ⟨λi H=>∃(xs ys:List V)(x y:V),bp K H a xs/\bp K H b ys/\xs[i]? =B x/\ys[i]? =B y,λi H v H'=>∃T x y,v=.ref T/\H T=aa/\H'=av H T (.tup [x,y])/\(∀xs,bp K H a xs->xs[i]? =B x)/\∀ys,bp K H b ys->ys[i]? =B y,λi H=>∃xs ys:List V,bp K H a xs/\bp K H b ys/\(xs.length<=i∨ys.length<=i)⟩
theorem a3G{kI:List bP}{c7:Nat}{l4:Pos}{b z TI fW gI g4:I}(af:a0s z TI fW gI g4 a b):ru P w K (.Tuple kI c7 l4) (sW K a b) [z,TI,fW,gI,g4] z (λi h=>DM h z TI fW .none/\Ag h TI (.ref gI) (.ref g4)/\(∃x y,Ag h fW x y)/\h.IsListIter gI a i/\h.IsListIter g4 b i) where
 mem:=by simp
 obj:=λi h st c a7=>by
  obtain⟨aR,iI,⟨x,y,jn⟩,⟨o1,aO,_,oL⟩,⟨o2,aT,_,h2⟩⟩:=st;have d7:c=z∨c=TI∨c=fW∨c=gI∨c=g4:=by simpa using a7
  obtain q|q|q|q|q:=d7
  .rw[q];exact⟨_,aR,λv q=>nomatch q⟩
  .rw[q];exact⟨_,iI,λv q=>nomatch q⟩
  .rw[q];exact⟨_,jn,λv q=>nomatch q⟩
  .rw[q];exact⟨o1,aO,λv q=>by rw[oL]at q;cases q⟩
  rw[q];exact⟨o2,aT,λv q=>by rw[h2]at q;cases q⟩
 keep:=λi h h' st k=>by obtain⟨aR,iI,⟨x,y,jn⟩,O,a5⟩:=st;exact⟨k z (by simp) _ aR,k TI (by simp) _ iI,⟨x,y,k fW (by simp) _ jn⟩,O.at λo q=>k gI (by simp) o q,a5.at λo q=>k g4 (by simp) o q⟩
 item:=by
  intro X bK hw fu a7 i a4 s G H E D hf st aI;subst bK hw fu;obtain⟨aR,iI,⟨Kz,KA,jn⟩,O,a5⟩:=st;obtain⟨xs,ys,x,y,p0,p1,ag,bl⟩:=aI;obtain⟨b6,cA,p,_⟩:=D.list p0;obtain⟨nc,sX,eY,_⟩:=D.list p1;obtain⟨u,bz,h8⟩:=cA.get ag;obtain⟨jU,KC,KD⟩:=sX.get bl;have Bh:z<s.heap.objs.size:=dF aR;refine ajH af aR iI jn O a5 p.isList eY.isList (x:=u) (y:=jU) (by simpa using bz) (by simpa using KC) λh' mq KG uz Bi dp _ aA=>?_;refine⟨_,Y,ajw (s:={s with heap:=h'}) mq λjm KH cF=>?_⟩;have wm:jm.get? s.heap.objs.size=B {cls:=.type "tuple",data:=.seq #[u,jU]}:=(cF.2 _ (xK Bh)).trans dp;have new:h7 X.prog X.w (av H s.heap.objs.size (.tup [x,y])) jm s.heap.objs.size (.tup [x,y]):=
   ⟨by show 2<=cM;decide,[u,jU],.cons h8 (.cons KD .nil),⟨_,wm,Y,_,Y⟩⟩
  have aP:Inv X a4 G (av H s.heap.objs.size (.tup [x,y])) {s with heap:=jm}:=
   D.F2 (t':=s.toks) (ch:=[z,TI,fW,gI,g4]) (λc o a0 q=>(cF.2 c (λeQ=>a0 (by simp[eQ]))).trans (aA c o (λeQ=>a0 (by simp[eQ])) (λeQ=>a0 (by simp[eQ])) (λeQ=>a0 (by simp[eQ])) (λeQ=>a0 (by simp[eQ])) q)) hf (cO _) new
  refine⟨.ref s.heap.objs.size,_,aP,Y,⟨_,x,y,Y,D.bR.fresh (cO _),Y,λl aq=>by rw[D.yh aq p0];exact ag,λl aq=>by rw[D.yh aq p1];exact bl⟩,⟨KH,?_,⟨u,jU,?_⟩,?_,?_⟩,λc sY=>?_⟩
  .exact(cF.2 _ af.TIz).trans (aA _ _ af.TIz af.TITO af.TIi1 af.TIi2 iI)
  .exact(cF.2 _ af.TOz).trans KG
  .exact uz.at λo q=>(cF.2 _ af.i1z).trans q
  .exact Bi.at λo q=>(cF.2 _ af.i2z).trans q
  have c4:c<s.heap.objs.size:=by
   have d7:c=z∨c=TI∨c=fW∨c=gI∨c=g4:=by simpa using sY
   obtain q|q|q|q|q:=d7
   .rw[q];exact Bh
   .rw[q];exact dF iI
   .rw[q];exact dF jn
   .rw[q];obtain⟨_,aO,_⟩:=O;exact dF aO
   rw[q];obtain⟨_,aT,_⟩:=a5;exact dF aT
  rw[aN (gW c4)];exact(hf c sY).1
 done:=by
  intro X bK hw fu a7 i a4 s G H E D hf st aI;subst bK hw fu;obtain⟨aR,iI,⟨Kz,KA,jn⟩,O,a5⟩:=st;obtain⟨xs,ys,p0,p1,Bj⟩:=aI;obtain⟨b6,cA,p,_⟩:=D.list p0;obtain⟨nc,sX,eY,_⟩:=D.list p1;have iJ:=cA.length;have gx:=sX.length;have aF:b6.toArray[i]? =aa∨nc.toArray[i]? =aa:=by
   obtain q|q:=Bj
   .exact .inl (by simp;omega)
   exact .inr (by simp;omega)
  exact wpAny_pyNext_zip_end (D.ok.hd a7) af aR iI jn O a5 p.isList eY.isList aF λh' aA=>⟨Y,D.Rh (t':=s.toks) (ch:=[z,TI,fW,gI,g4]) (λc o a0 q=>aA c o (λeQ=>a0 (by simp[eQ])) (λeQ=>a0 (by simp[eQ])) (λeQ=>a0 (by simp[eQ])) (λeQ=>a0 (by simp[eQ])) q) hf⟩
 self:=λA i s Q E st h=>PA st.1 h
def Rk(K:bj)(c0:gE):TI:=λG H R=>c0 G H λvs ai=>∃a b xs ys,vs=[.ref a,.ref b]/\bp K ai a xs/\bp K ai b ys/\R (sW K a b) ai
theorem a3H{aT:bP}{c0:gE}{p l4:Pos}{kI:List bP}{c7:Nat}(aI:hA X "zip")(hm:X.a6 "zip" =aa)(bf:hz X [e,aT] c0)(ax:fC [e,aT] X.env=(aJ,eval e X.env)::fC [aT] X.env:=by rfl)(eF:(lD pos (fC [aT] X.env)).any (·.1)=aJ:=by rfl):
  qo X (.Tuple kI c7 l4) (.Call (.Name "zip" p) [e,aT] [] pos) (Rk X.K c0):=by
 intro a4 s G H R D h;refine Il (vZ D aI hm Rj (DK (bW (bf pos a4 s G H _ D h) λ_ s1 ⟨_,ai,aP,cv,bx⟩=>?_) ax eF));obtain⟨a,b,_,_,ex,p0,p1,q⟩:=bx;subst ex;cases cv with
 |cons r iC=>
  cases iC with
  |cons gq iC=>
   cases iC;cases r;cases gq;obtain⟨_,_,p2,_⟩:=aP.list p0;obtain⟨_,_,eY,_⟩:=aP.list p1;have KI:a<s1.heap.objs.size:=p2.lt;have KJ:b<s1.heap.objs.size:=eY.lt;refine call_zip_2 p2.isList eY.isList λh' aR iI jn O a5 _ aA=>PA aR ?_;have cL:Inv X a4 G ai {s1 with heap:=h'}:=aP.kept (t':=s1.toks) aA;refine⟨s1.heap.objs.size+4,[s1.heap.objs.size+4,s1.heap.objs.size+2,s1.heap.objs.size+3,s1.heap.objs.size,s1.heap.objs.size+1],_,_,ai,Y,cL,a3G (aj2 s1.heap.objs.size a b KI KJ),⟨aR,iI,⟨_,_,jn⟩,O,a5⟩,λc sY=>?_,q⟩;have d7:c=s1.heap.objs.size+4∨c=s1.heap.objs.size+2∨c=s1.heap.objs.size+3∨c=s1.heap.objs.size∨c=s1.heap.objs.size+1:=by simpa using sY
   have hg:s1.heap.objs.size<=c:=by
    obtain z|z|z|z|z:=d7
    .rw[z];exact r8 _ _
    .rw[z];exact r8 _ _
    .rw[z];exact r8 _ _
    .rw[z];exact cO _
    rw[z];exact r8 _ _
   exact aP.qn hg (aP.bR.fresh hg)
end L2
section
namespace Bits
open PySem PyProof.Rows
end Bits
end
section
namespace TL
open PySem PySem.Builtin PySem.Builtin.Str PySem.StrLaws
abbrev dU(x:a8):List Nat:=x.cps.toList
theorem KL{x y:a8}(h:dU x=dU y):x=y:=Str.ext' (Array.toList_inj.mp h)
theorem Rl(x y:a8):dU (x++y)=dU x++dU y:=by show(x++y).cps.toList=_;rw[Str.cps_append,Array.toList_append]
def yF(S:List Nat):List (List Nat)->List Nat
 |[]=>[]
 |[p]=>p
 |p::q::r=>p++(S++yF S (q::r))
theorem F3(y:a8):∀yG:List a8,dU (a0l y yG)=yF (dU y) (yG.map dU)
 |[]=>rfl
 |[_]=>rfl
 |x::z::r=>by show dU (x++y++a0l y (z::r))=dU x++(dU y++yF (dU y) ((z::r).map dU));rw[Rl,Rl,F3 y (z::r),lA]
theorem join_eq(y:a8)(yG:List a8):DQ y yG=a0l y yG:=glued_eq_join y yG
end TL
end
namespace L2
open PySem PySem.Spec PyProof.Rows
theorem a3I{n:Nat}(h:n<=16777216):a09 n=aJ:=by
 have e:(2:Nat)^24=16777216:=by decide
 unfold a09 cM;exact gP (by omega)
theorem KN:∀{ys:List a8}{us:List ae},cB (ys.map V.str) us->StrsAre us ys
 |[],_,.nil=>.nil
 |y::ys,_,.cons r t=>by obtain⟨k,rfl⟩:=r;exact .cons y k (KN t)
variable{X:bB}
theorem a3J:yx X "str.join" (λx xs H Q=>∃a p,∃ys:List a8,x=.str a/\xs=[.ref p]/\(bp X.K H p (ys.map V.str)∨dq X.K H p (ys.map V.str))/\(ys.map (·.length)).sum+ys.length*a.length<=16777216/\Q (.str (DQ a ys)) H):=by
 intro _ s G H x xs v _ Q D cp cX h;obtain⟨a,p,ys,rfl,rfl,ar,aR,h⟩:=h;obtain⟨t,rfl⟩:=cp;cases cX with
 |cons cv cX=>
  cases cX;cases cv;obtain ar|ar:=ar
  .obtain⟨b6,r,⟨o,n,aU,a7,_,hd⟩,_⟩:=D.list ar;exact al6 (items:=b6.toArray) ⟨o,aU,a7,n,hd⟩ (by rw[ai5];exact KN r) aR λt' k=>⟨.str _,H,D.tok k,⟨t',Y⟩,h⟩
  obtain⟨b6,r,ba,_⟩:=D.tuple ar;exact al7 (items:=b6.toArray) ba (by rw[ai5];exact KN r) aR λt' k=>⟨.str _,H,D.tok k,⟨t',Y⟩,h⟩
theorem a3K{id:String}{g:a8->a8->V}(qh:∀(a b:a8)(t u:jy)(s:ay)(Q:ae->ay->Prop),(∀(v:ae)(k:Nat),RelV (g a b) v->Q v {s with toks:=k})->b8 (bq X.prog X.w) X.A (mU (.builtin id) [.str a t,.str b u]) Q X.bN s):yx X id (λx xs H Q=>∃a b,x=.str a/\xs=[.str b]/\Q (g a b) H):=by intro _ s G H x xs v _ Q D cp cX h;obtain⟨a,b,rfl,rfl,h⟩:=h;obtain⟨t,rfl⟩:=cp;cases cX with|cons cv cX=>cases cX;obtain⟨u,rfl⟩:=cv;exact qh a b t u s _ λv k r=>⟨g a b,H,D.tok k,r,h⟩
theorem a3L:yx X "str.find" (λx xs H Q=>∃a b,x=.str a/\xs=[.str b]/\Q (.int (DP a b)) H):=
 a3K (g:=λa b=>.int (DP a b)) λ_ _ _ _ s _ h=>PySem.SC.find (h _ (s.toks+1) ⟨_,Y⟩)
section
variable{o e:bP}{to bY:b'}
def Rm(r:V->List V->ak->cR->Prop)(to bY:b'):b':=λG H Q=>to G H λx ai=>(∃a,x=.str a)/\bY G ai λy au=>r x [y] au Q
theorem Rn{id:String}{name:a8}{fo pos:Pos}{r:V->List V->ak->cR->Prop}(slot:Slot "str" name id)(ty:typeOf (.builtin id)=pure (.type "method_descriptor"))(qh:yx X id r)(aU:bT X o to)(aF:bT X e bY)(ax:fC [e] X.env=[(aJ,eval e X.env)]:=by rfl)(qt:xV o name X.env (eval o X.env)=eval o X.env:=by rfl)(w9:(fo.endLine==pos.line)=a9:=by rfl):
  bT X (.Call (.Attribute o name fo) [e] [] pos) (Rm r to bY):=by
 intro a4 s G H Q D h;refine PySem.Call_method1 qt ax w9 (bW (aU a4 s G H _ D h) λv s1 ⟨x,ai,aP,cv,bx⟩=>?_);obtain⟨⟨a,rfl⟩,bx⟩:=bx;obtain⟨t,rfl⟩:=_root_.id cv;refine⟨"str",_,F.plainAttrs_str,slot,ty,Pz _ _ _,(λ_ e=>nomatch e),Pb Y (a0b (Pc ?_))⟩;exact bW (aF a4 s1 G ai _ aP bx) λu s2 ⟨y,au,cL,dR,cw⟩=>a0c (qh a4 s2 G au _ [y] _ [u] Q cL cv (.cons dR .nil) cw)
theorem Bk{fo pos:Pos}(aU:bT X o to)(aF:bT X e bY)(ax:fC [e] X.env=[(aJ,eval e X.env)]:=by rfl)(qt:xV o "join" X.env (eval o X.env)=eval o X.env:=by rfl)(w9:(fo.endLine==pos.line)=a9:=by rfl):
  bT X (.Call (.Attribute o "join" fo) [e] [] pos) (Rm (λx xs H Q=>∃a p,∃ys:List a8,x=.str a/\xs=[.ref p]/\(bp X.K H p (ys.map V.str)∨dq X.K H p (ys.map V.str))/\(ys.map (·.length)).sum+ys.length*a.length<=16777216/\Q (.str (DQ a ys)) H) to bY):=
 Rn F.slot_str_join F.type_str_join a3J aU aF ax qt w9
end
theorem F4:hr X (mV .NotIn) (λx y H Q=>∃(c:Nat)(z:a8),x=.str ⟨#[c]⟩/\y=.str z/\Q (.c1 (!decide (c∈z.cps.toList))) H):=by intro _ s G H x y v u Q D cp cC h;obtain⟨c,z,rfl,rfl,q⟩:=h;obtain⟨t,rfl⟩:=cp;obtain⟨_,rfl⟩:=cC;exact al8 (ha D q (f_ Bool.not (alS z c).symm))
theorem IsPart.raw{v:ae}{o:Option Int}(p:IsPart v o):∃l:Option (Int×jy),v=partValue l/\l.map (·.1)=o:=by cases p with|none=>exact⟨aa,rfl,rfl⟩|int i t=>exact⟨B (i,t),rfl,rfl⟩
def Bl(n d:Nat):Option Int->Int
 |none=>(d:Int)
 |some i=>max 0 (min (if i<0 then i+(n:Int)else i) (n:Int))
theorem Ro(n d:Nat)(o:Option Int):Bl n d o=((HT.es n d o:Nat):Int):=by
 cases o with
 |none=>rfl
 |some v=>
  show max (0:Int) (min (if v<0 then v+(n:Int)else v) (n:Int))=(((if v<0 then(v+(n:Int)).toNat else min v.toNat n):Nat):Int);by_cases bk:v<0
  .simp only[aZ bk];omega
  simp only[aL bk];omega
theorem a3M(a b:Option Int)(n:Nat):vH a b 1 n=sliceRange (Bl n 0 a) (Bl n n b) 1:=by
 have O:((1:Int)>0)=True:=by simp
 cases a<;>cases b<;>first
  |rfl
  |(simp only[vH,Bl,O,jB];rfl)
  |simp[vH,Bl]
theorem a3N(a b:Option Int)(n:Nat):vH a b 1 n=(eA (HT.es n n b-HT.es n 0 a)).map (λk=>HT.es n 0 a+k):=by
 rw[a3M,Ro,Ro];generalize HT.es n 0 a=p;generalize HT.es n n b=q;simp only[sliceRange,show((1:Int)>0)=True from by simp,jB];by_cases c4:(p:Int)<q
 .have dX:(((q:Int)-p+1-1)/1).toNat=q-p:=by first|omega|(simp;done)|(simp;omega)
  simp only[c4,jB,dX];refine tT λk _=>?_;omega
 have:q-p=0:=by omega
 simp[c4,this]
def Bm(z:a8)(lo hi:Option Int):a8:=
 ⟨((z.cps.toList.drop (HT.es z.length 0 lo)).take (HT.es z.length z.length hi-HT.es z.length 0 lo)).toArray⟩
theorem Rp(z:a8)(lo hi:Option Int):DO z lo hi=Bm z lo hi:=by
 have O:HT.es z.length 0 lo<=z.length:=HT.QI _ _ (ek _) _;have a5:HT.es z.length z.length hi<=z.length:=HT.QI _ _ (cO _) _;have ar:HT.es z.length 0 lo<=max (HT.es z.length 0 lo) (HT.es z.length z.length hi):=ZV _ _;have aQ:max (HT.es z.length 0 lo) (HT.es z.length z.length hi)<=z.length:=ZX.mpr ⟨O,a5⟩;have hd:max (HT.es z.length 0 lo) (HT.es z.length z.length hi)-HT.es z.length 0 lo=HT.es z.length z.length hi-HT.es z.length 0 lo:=by omega
 have e:vH lo hi 1 z.length=vH (B ((HT.es z.length 0 lo:Nat):Int)) (B ((max (HT.es z.length 0 lo) (HT.es z.length z.length hi):Nat):Int)) 1 z.length:=by rw[alU ar aQ,hd,a3N]
 have aT:DO z lo hi=DO z (B ((HT.es z.length 0 lo:Nat):Int)) (B ((max (HT.es z.length 0 lo) (HT.es z.length z.length hi):Nat):Int)):=by unfold DO;rw[e]
 rw[aT,alT z ar aQ,hd];rfl
theorem a3O(z:a8)(lo hi:Option Int):(Bm z lo hi).length<=z.length:=by show(((z.cps.toList.drop (HT.es z.length 0 lo)).take (HT.es z.length z.length hi-HT.es z.length 0 lo)).toArray).size<=z.cps.size;rw[iS,k9,mP,Zu];omega
def a3P:V->Option Int->Option Int->ak->cR->Prop:=λx lo hi H Q=>∃z,x=.str z/\z.length<=cM/\Q (.str (Bm z lo hi)) H
theorem a3Q:JU X a3P:=by
 intro a4 s G H x v _ _ _ _ _ Q D cp ax pl AX h;obtain⟨z,rfl,aR,q⟩:=h;obtain⟨t,rfl⟩:=cp;obtain⟨os,a3R,KO,KP⟩:=ax;obtain⟨l,rfl,rfl⟩:=IsPart.raw pl;obtain⟨u,rfl,rfl⟩:=IsPart.raw AX;refine⟨"str",_,F.slot_str_getitem.lookup,Pz _ _ _,?_⟩;refine wpAny_getItem_str_slice (l:=l) (u:=u) (st:=aa) ⟨os,a3R,KO,KP⟩ Y ?_;have aq:(DO z (l.map (·.1)) (u.map (·.1))).length<=cM:=by rw[Rp];exact dC (a3O z _ _) aR
 rw[<-Rp]at q;unfold DO at q aq;show Made.post (if((1:Int)==1&&(vH (l.map (·.1)) (u.map (·.1)) 1 z.length).length==z.length)=a9 then Made.val (.str z t)else Made.str ⟨((vH (l.map (·.1)) (u.map (·.1)) 1 z.length).filterMap (z.cps[·]?)).toArray⟩) (i0 X a4 G Q) s;by_cases c:((1:Int)==1&&(vH (l.map (·.1)) (u.map (·.1)) 1 z.length).length==z.length)=a9
 .rw[aZ c]at q ⊢;exact⟨.str z,H,D,⟨t,Y⟩,q⟩
 rw[aL c]at q aq ⊢;exact⟨aq,.str _,H,D.tok _,⟨_,Y⟩,q⟩
end L2
namespace Att
open PySem PySem.W PySem.Calls PyProof.Rows
end Att
namespace L2
open PySem PySem.Spec PyProof.Rows
def eH(s:bH)(j:Nat):bH:=match s with
 |.ClassDef _ _ _ body _ _ _ _ _ _ _=>body.getD j (.Pass ⟨0,0,0,0⟩)
 |_=>.Pass ⟨0,0,0,0⟩
def sZ(s:bH):Arguments:=match s with
 |.FunctionDef _ a _ _ _ _ _ _ _ _=>a
 |_=>{posonlyargs:=[],args:=[],vararg:=aa,kwonlyargs:=[],kw_defaults:=[],kwarg:=aa,defaults:=[]}
def lP(s:bH):List bH:=match s with
 |.FunctionDef _ _ b _ _ _ _ _ _ _=>b
 |_=>[]
def bo(s:bH):hZ:=match s with
 |.FunctionDef _ _ _ _ _ _ eX _ _ _=>eX
 |_=>{kind:=.function,names:=[],isGenerator:=aJ,isCoroutine:=aJ}
abbrev cj:jR:=λ_ _ _ _ _ _=>False
abbrev pQ:dN:=λ_ _ _=>False
theorem bw{X:bB}:lK cj X pQ:=λ_ _ _ _ _ _ _ h=>h.elim
structure o4 (K:bj) (x cm:a8) (st:bH) (f:I) (fd:ka):Prop where
 ex:∃(kd:ae)(od:Option I)(fI iD iE:ae)(i_:Option I)(b4 en:ae)(oV:Array (Option ae)),
  fd=si x cm (sZ st) (lP st) (bo st) .none fI iD iE i_ b4 en/\K.lookup f=B ⟨kd,od,.func fd,oV⟩/\Ak K b4 cm=a9
 dH:nH K (.ref f)=a9
variable{P:bQ}{w:bI}{K:bj}{aK:List a8}
section
variable{a6:a8->Option ae}{base:br}
theorem o4.ok{x cm:a8}{st:bH}{f:I}{fd:ka}{N:List a8}{k:Nat}{sp:bF}(F:o4 K x cm st f fd)(S:bZ N aK (bo st))(len:∀vs H Q E,sp vs H Q E->vs.length=aK.length)(sG:∀(b4:ae)(A:d9)(outer:List eB)(s:ay)(H:ak)(vs:List V)(Q:cR)(E:dN),dn k (A.deeper (fB cm (bo st) s.heap.objs.size f b4))->sp vs H Q E->∃t,ie (oU cj P w K a6 base N cm (bo st) f b4 A outer s H E).AE (lP st) t/\t {c6:=λ_ H'=>Q .bS H',ic:=Q} (start N vs) H):jD P w K a6 base cj (k+1) f fd aK sp:=by obtain⟨_,_,_,_,_,_,b4,_,_,rfl,lk,l1⟩:=F.ex;refine QG lk l1 S len λA outer s H vs Q E ah l6=>?_;obtain⟨t,h,q⟩:=sG b4 A outer s H vs Q E ah l6;exact⟨t,h.AE,q⟩
theorem o4.binds{x cm:a8}{st:bH}{f:I}{fd:ka}(F:o4 K x cm st f fd)(h:∀(fI iD iE:ae)(i_:Option I)(b4 en:ae)(us:List ae),us.length=aK.length->a0u (si x cm (sZ st) (lP st) (bo st) .none fI iD iE i_ b4 en) ⟨us,[]⟩=pure (aK.zip us)):Binds K fd aK []:=by obtain⟨_,_,fI,iD,iE,i_,b4,en,_,rfl,_,_⟩:=F.ex;exact .all (h fI iD iE i_ b4 en)
theorem F5{x cm:a8}{st:bH}{f:I}{kd:ae}{od i_:Option I}{oV:Array (Option ae)}{fI iD iE b4 en:ae}(l:K.lookup f=B ⟨kd,od,.func (si x cm (sZ st) (lP st) (bo st) .none fI iD iE i_ b4 en),oV⟩)(c:Ak K b4 cm=a9)(k:nH K (.ref f)=a9):o4 K x cm st f (si x cm (sZ st) (lP st) (bo st) .none fI iD iE i_ b4 en):=⟨⟨kd,od,fI,iD,iE,i_,b4,en,oV,Y,l,c⟩,k⟩
end
theorem F6{A:d9}{k:Nat}(ah:dn k A):A.units+1<t_:=lC (P1 (by decide:1<=64) _) ah.units
theorem gy{n:Nat}(h:n<=1000):n<cM:=lC h (by decide)
section
variable{X:bB}
theorem J(i:Nat){x:a8}{pos:Pos}(dD:X.N[i]? =B x:=by rfl)(bk:yf X.env.scope x:=by first|exact sg rfl|exact Ii (sg Y)|exact Ii (Ii Y))(hd:(x==("__debug__" :a8))=aJ:=by decide)(l1:(x==("__classdict__" :a8))=aJ:=by decide):bT X (.Name x pos) (dr i):=a1r dD bk hd l1
end
theorem gz{A gi:Prop}(h:gi):if aJ=a9 then A else gi:=by rw[aL hX];exact h
theorem hE{A gi:Prop}(h:A):if a9=a9 then A else gi:=by rw[aZ Y];exact h
theorem gj{c A gi:Prop}[Decidable c](O:c->A)(a5:¬c->gi):if c then A else gi:=by
 by_cases h:c
 .rw[aZ h];exact O h
 rw[aL h];exact a5 h
def aw(H H':ak):Prop:=∀b o,H b=B o->H' b=B o
theorem aw.refl(H:ak):aw H H:=λ_ _ h=>h
variable{H:ak}
theorem aw.trans{ai au:ak}(a:aw H ai)(b:aw ai au):aw H au:=λc o h=>b c o (a c o h)
theorem aw.free{H':ak}(e:aw H H'){l:I}(h:H' l=aa):H l=aa:=by cases q:H l with|none=>rfl|some o=>rw[e l o q]at h;cases h
theorem aw.seq{H':ak}{a:I}{xs:List V}(e:aw H H')(h:bp K H a xs):bp K H' a xs:=by
 obtain(h|⟨o,h⟩)|h:=h
 .exact .inl (.inl (e _ _ h))
 .exact .inl (.inr ⟨o,e _ _ h⟩)
 exact .inr h
open PySem.W (WData Codec OpenSpec Well WellAll ReadsW ReadsAllW)
mutual
inductive jV (K:bj) (H:ak):V->j9->Prop
 |bS:jV K H .bS .none
 |c1 (b:Bool):jV K H (.c1 b) (.bool b)
 |int (i:Int):jV K H (.int i) (.int i)
 |str (x:a8):jV K H (.str x) (.str x)
 |lE (b:Array UInt8):jV K H (.lE b) (.bytes b.toList)
 |lst {a:I} {xs:List V} {c9:List j9}:bp K H a xs->pR K H xs c9->jV K H (.ref a) (.list c9)
 |tup {a:I} {xs:List V} {c9:List j9}:dq K H a xs->pR K H xs c9->jV K H (.ref a) (.tuple c9)
inductive pR (K:bj) (H:ak):List V->List j9->Prop
 |nil:pR K H [] []
 |cons {v:V} {vs:List V} {d:j9} {c9:List j9}:jV K H v d->pR K H vs c9->pR K H (v::vs) (d::c9)
end
theorem KQ{K:bj}{H:ak}:∀ns:List Int,pR K H (ns.map V.int) (ns.map aiX)
 |[]=>.nil
 |n::r=>.cons (.int n) (KQ r)
theorem KR{K:bj}{H:ak}:∀(ns:List Int)(xs:List V),pR K H xs (ns.map aiX)->xs=ns.map V.int
 |[],xs,h=>by cases h;rfl
 |n::r,xs,h=>by cases h with|cons O a5=>cases O;rw[KR r _ a5]<;>rfl
variable{h:br}
section
variable{R:aiY}{cl:a8->Option I}
theorem a3S{a:I}{xs:List V}(bR:f' P w H h)(bb:K.In h)(q:bp K H a xs):∃(b6:List ae)(o:bJ)(n:Nat),cB xs b6/\h.get? a=B o/\o.cls=.type "list"/\o.data=.seq b6.toArray n:=by
 obtain q|⟨o,b6,n,e,a7,_,hd,_,bk⟩:=q
 .obtain⟨_,b6,n,bk,e⟩:=(show h7 P w H h a (.lst xs)from q.ok bR);exact⟨b6,_,n,bk,e,Y,Y⟩
 exact⟨b6.toList,o,n,bk,bb _ _ e,a7,by simp[hd]⟩
theorem a3T{a:I}{xs:List V}(bR:f' P w H h)(bb:K.In h)(q:dq K H a xs):∃(b6:List ae)(o:bJ)(n:Nat),cB xs b6/\h.get? a=B o/\o.cls=.type "tuple"/\o.data=.seq b6.toArray n:=by
 obtain q|⟨o,b6,n,e,a7,hd,_,bk⟩:=q
 .obtain⟨_,b6,bk,o,e,a7,n,hd⟩:=(show h7 P w H h a (.tup xs)from q.ok bR);exact⟨b6,o,n,bk,e,a7,hd⟩
 exact⟨b6.toList,o,n,bk,bb _ _ e,a7,by simp[hd]⟩
mutual
theorem jV.reads(bR:f' P w H h)(bb:K.In h):∀(d:j9)(v:V)(u:ae),jV K H v d->RelV v u->∃cV,ReadsW R cl h u d cV
 |.none,_,_,x,r=>by cases x;cases r;exact⟨_,ReadsW.none⟩
 |.bool b,_,_,x,r=>by cases x;cases r;exact⟨_,ReadsW.bool b⟩
 |.int i,_,_,x,r=>by cases x;obtain⟨t,rfl⟩:=r;exact⟨_,ReadsW.int i t⟩
 |.str s,_,_,x,r=>by cases x;obtain⟨t,rfl⟩:=r;exact⟨_,ReadsW.str s t⟩
 |.bytes b,_,_,x,r=>by cases x;obtain⟨t,rfl⟩:=r;exact⟨_,ReadsW.bytes _ t⟩
 |.list c9,_,_,x,r=>by cases x with|lst ax bf=>cases r;obtain⟨b6,o,n,cA,aU,a7,hd⟩:=a3S bR bb ax;obtain⟨cV,ah⟩:=jV.readsAll bR bb c9 _ b6 bf cA;exact⟨_,ReadsW.list aU a7 hd ah⟩
 |.tuple c9,_,_,x,r=>by cases x with|tup ax bf=>cases r;obtain⟨b6,o,n,cA,aU,a7,hd⟩:=a3T bR bb ax;obtain⟨cV,ah⟩:=jV.readsAll bR bb c9 _ b6 bf cA;exact⟨_,ReadsW.tuple aU a7 hd ah⟩
 |.float _,_,_,x,_=>by cases x
 |.dict _,_,_,x,_=>by cases x
 |.bytearray _,_,_,x,_=>by cases x
 |.set _,_,_,x,_=>by cases x
 |.frozenset _,_,_,x,_=>by cases x
 |.obj _ _,_,_,x,_=>by cases x
theorem jV.readsAll(bR:f' P w H h)(bb:K.In h):∀(c9:List j9)(vs:List V)(us:List ae),pR K H vs c9->cB vs us->∃cV,ReadsAllW R cl h us c9 cV
 |[],_,_,x,r=>by cases x;cases r;exact⟨_,ReadsAllW.nil⟩
 |d::c9,_,_,x,r=>by
  cases x with
  |cons O a5=>cases r with|cons cv dR=>obtain⟨cV,bx⟩:=jV.reads bR bb d _ _ O cv;obtain⟨_,cw⟩:=jV.readsAll bR bb c9 _ _ a5 dR;exact⟨_,ReadsAllW.cons bx cw⟩
end
end
mutual
def o5:j9->Bool
 |.none=>a9
 |.bool _=>a9
 |.int _=>a9
 |.str _=>a9
 |.bytes _=>a9
 |.list xs=>pS xs
 |.tuple xs=>pS xs
 |_=>aJ
def pS:List j9->Bool
 |[]=>a9
 |x::r=>o5 x&&pS r
end
theorem Rq{bu:Type}{f:bu->j9}(h:∀a,o5 (f a)=a9):∀l:List bu,pS (l.map f)=a9
 |[]=>rfl
 |x::r=>by show(o5 (f x)&&pS (r.map f))=a9;rw[h x,Rq h r]<;>rfl
theorem uA:∀(c:Codec)(a:c.denote),o5 (c.enc a)=a9
 |.unit,_=>rfl
 |.bool,_=>rfl
 |.int _ _,_=>rfl
 |.nat _ _,_=>rfl
 |.u8,_=>rfl
 |.bytes _ _,_=>rfl
 |.text _ _ _ _,_=>rfl
 |.list _ _ c,a=>Rq (λx=>uA c x) a
 |.pair c d,a=>by show(o5 (c.enc a.1)&&(o5 (d.enc a.2)&&a9))=a9;rw[uA c a.1,uA d a.2]<;>rfl
 |.triple c d e,a=>by show(o5 (c.enc a.1)&&(o5 (d.enc a.2.1)&&(o5 (e.enc a.2.2)&&a9)))=a9;rw[uA c a.1,uA d a.2.1,uA e a.2.2]<;>rfl
 |.option c,aa=>rfl
 |.option c,B x=>uA c x
theorem Rr:∀(c2:List Codec)(a:Pm c2),pS (DR c2 a)=a9
 |[],_=>rfl
 |c::c2,a=>by show(o5 (c.enc a.1)&&pS (DR c2 a.2))=a9;rw[uA c a.1,Rr c2 a.2]<;>rfl
theorem KS:∀{xs:List j9}{d:j9},d∈xs->d.weight<=Pn xs
 |[],d,h=>absurd h (by simp)
 |x::r,d,h=>by
  show d.weight<=x.weight+1+Pn r;obtain e|m:=dx.mp h
  .rw[e];omega
  have z:=KS m;omega
def lQ:ae->V
 |.none=>.bS
 |.bool b=>.c1 b
 |.int i _=>.int i
 |.str x _=>.str x
 |.bytes b _=>.lE b
 |.ref a=>.ref a
 |_=>.bS
def p3(A:List I):ae->Prop
 |.none=>True
 |.bool _=>True
 |.int _ _=>True
 |.str _ _=>True
 |.bytes _ _=>True
 |.ref a=>a∈A
 |_=>False
variable{A:List I}
theorem p3.mono{gi:List I}(h:∀a∈A,a∈gi):∀{u:ae},p3 A u->p3 gi u:=fun{u} x=>by cases u with|ref a=>exact h a x|none=>trivial|bool b=>trivial|int i t=>trivial|str s t=>trivial|bytes b t=>trivial|_=>exact hk x
theorem a3U{u:ae}(x:p3 A u):RelV (lQ u) u:=by cases u with|ref a=>rfl|none=>rfl|bool b=>rfl|int i t=>exact⟨t,rfl⟩|str s t=>exact⟨t,rfl⟩|bytes b t=>exact⟨t,rfl⟩|_=>exact hk x
theorem yH{A:List I}:∀{vs:List ae},(∀u∈vs,p3 A u)->cB (vs.map lQ) vs
 |[],_=>.nil
 |u::r,h=>.cons (a3U (h u (iy ..))) (yH λx ag=>h x (ez _ ag))
def pT(h:br)(A:List I)(a:I):Prop:=∃vs:List ae,vs.length<=cM/\(∀u∈vs,p3 A u)/\(h.get? a=B {cls:=.type "list",data:=.seq vs.toArray}∨h.get? a=B {cls:=.type "tuple",data:=.seq vs.toArray})
theorem pT.mono{gi:List I}{a:I}(k:∀a∈A,a∈gi)(x:pT h A a):pT h gi a:=by obtain⟨vs,O,a5,aG⟩:=x;exact⟨vs,O,λu bz=>(a5 u bz).mono k,aG⟩
theorem F7{P:vJ}{h:br}:∀{vs:List ae}{c9:List j9},xQ P h vs c9->vs.length=c9.length
 |_,_,.nil=>rfl
 |_,_,.cons _ b=>by show _+1=_+1;rw[F7 b]
variable{c9:List j9}
theorem Rt{P:vJ}{v:ae}(x:Well P h v (.list c9)):∃(a:I)(vs:List ae),v=.ref a/\h.get? a=B {cls:=.type "list",data:=.seq vs.toArray}/\xQ P h vs c9:=by cases x with|list aU lR=>exact⟨_,_,rfl,aU,lR⟩
theorem Ru{P:vJ}{v:ae}(x:Well P h v (.tuple c9)):∃(a:I)(vs:List ae),v=.ref a/\h.get? a=B {cls:=.type "tuple",data:=.seq vs.toArray}/\xQ P h vs c9:=by cases x with|tuple aU lR=>exact⟨_,_,rfl,aU,lR⟩
theorem Rv{P:vJ}{us:List ae}{d:j9}(x:xQ P h us (d::c9)):∃(v:ae)(vs:List ae),us=v::vs/\Well P h v d/\xQ P h vs c9:=by cases x with|cons a b=>exact⟨_,_,rfl,a,b⟩
theorem Rw{n:Nat}(h:n<=1048576):n<=cM:=dC h (by decide)
section
variable{P:vJ}
mutual
theorem a3V:∀(d:j9)(v:ae),Well P h v d->o5 d=a9->d.weight<=1048576->∃A:List I,p3 A v/\∀a∈A,pT h A a
 |.none,_,x,_,_=>by cases x;exact⟨[],trivial,λa m=>absurd m (by simp)⟩
 |.bool b,_,x,_,_=>by cases x;exact⟨[],trivial,λa m=>absurd m (by simp)⟩
 |.int i,_,x,_,_=>by cases x;exact⟨[],trivial,λa m=>absurd m (by simp)⟩
 |.str s,_,x,_,_=>by cases x;exact⟨[],trivial,λa m=>absurd m (by simp)⟩
 |.bytes b,_,x,_,_=>by cases x;exact⟨[],trivial,λa m=>absurd m (by simp)⟩
 |.list c9,_,x,p,z=>by
  obtain⟨a,vs,rfl,aU,lR⟩:=Rt x;have g0:Pn c9<=1048576:=z;obtain⟨A,O,a5⟩:=F8 c9 _ lR p λd hd=>dC (KS hd) g0;have k:∀b∈A,b∈a::A:=λb a0=>ez _ a0;refine⟨a::A,iy ..,λb a0=>?_⟩;obtain e|m:=dx.mp a0
  .rw[e];exact⟨vs,Rw (by rw[F7 lR];exact dC (aj3 c9) g0),λu bz=>(O u bz).mono k,.inl aU⟩
  exact(a5 b m).mono k
 |.tuple c9,_,x,p,z=>by
  obtain⟨a,vs,rfl,aU,lR⟩:=Ru x;have g0:Pn c9<=1048576:=z;obtain⟨A,O,a5⟩:=F8 c9 _ lR p λd hd=>dC (KS hd) g0;have k:∀b∈A,b∈a::A:=λb a0=>ez _ a0;refine⟨a::A,iy ..,λb a0=>?_⟩;obtain e|m:=dx.mp a0
  .rw[e];exact⟨vs,Rw (by rw[F7 lR];exact dC (aj3 c9) g0),λu bz=>(O u bz).mono k,.inr aU⟩
  exact(a5 b m).mono k
 |.float _,_,_,p,_=>qb (show aJ=a9 from p)
 |.dict _,_,_,p,_=>qb (show aJ=a9 from p)
 |.bytearray _,_,_,p,_=>qb (show aJ=a9 from p)
 |.set _,_,_,p,_=>qb (show aJ=a9 from p)
 |.frozenset _,_,_,p,_=>qb (show aJ=a9 from p)
 |.obj _ _,_,_,p,_=>qb (show aJ=a9 from p)
theorem F8:∀(c9:List j9)(vs:List ae),xQ P h vs c9->pS c9=a9->(∀d∈c9,d.weight<=1048576)->∃A:List I,(∀u∈vs,p3 A u)/\∀a∈A,pT h A a
 |[],_,x,_,_=>by cases x;exact⟨[],λu m=>absurd m (by simp),λa m=>absurd m (by simp)⟩
 |d::c9,_,x,p,z=>by
  obtain⟨v,vs,rfl,gJ,gw⟩:=Rv x;have q:o5 d=a9/\pS c9=a9:=ahD.mp p;obtain⟨A,et,eM⟩:=a3V d v gJ q.1 (z d (iy ..));obtain⟨gi,b1,b2⟩:=F8 c9 vs gw q.2 λe aF=>z e (ez _ aF);have Rx:∀b∈A,b∈A++gi:=λb a0=>kv.mpr (.inl a0);have Ry:∀b∈gi,b∈A++gi:=λb a0=>kv.mpr (.inr a0);refine⟨A++gi,λu bz=>?_,λb a0=>?_⟩
  .obtain e|m:=dx.mp bz
   .rw[e];exact et.mono Rx
   exact(b1 u m).mono Ry
  obtain m|m:=kv.mp a0
  .exact(eM b m).mono Rx
  exact(b2 b m).mono Ry
end
end
def F9(o:bJ):Option dy:=match o.data with
 |.seq vs _=>if(o.cls==tY "list")=a9 then B (.kA o (.lst (vs.toList.map lQ)))else B (.kA o (.tup (vs.toList.map lQ)))
 |_=>aa
def kJ(K:bj)(h:br)(A:List I):ak:=λb=>if b∈A then(if(K.lookup b).isNone=a9 then(h.get? b).bind F9 else aa)else aa
def Bn(H:ak):Prop:=∀b,H b=aa∨∃o u,H b=B (.kA o u)
theorem Rz(vs:List ae):F9 {cls:=.type "list",data:=.seq vs.toArray}=B (.kA {cls:=.type "list",data:=.seq vs.toArray} (.lst (vs.map lQ))):=by show(if(tY "list" ==tY "list")=a9 then B (dy.kA {cls:=.type "list",data:=.seq vs.toArray} (.lst (vs.toArray.toList.map lQ)))else B (dy.kA {cls:=.type "list",data:=.seq vs.toArray} (.tup (vs.toArray.toList.map lQ))))=_;rw[aZ (PS _)]
theorem RA(vs:List ae):F9 {cls:=.type "tuple",data:=.seq vs.toArray}=B (.kA {cls:=.type "tuple",data:=.seq vs.toArray} (.tup (vs.map lQ))):=by show(if(tY "tuple" ==tY "list")=a9 then B (dy.kA {cls:=.type "tuple",data:=.seq vs.toArray} (.lst (vs.toArray.toList.map lQ)))else B (dy.kA {cls:=.type "tuple",data:=.seq vs.toArray} (.tup (vs.toArray.toList.map lQ))))=_;rw[aL (by decide)]
theorem Fb{b:I}{o:bJ}(a0:b∈A)(aA:K.lookup b=aa)(e:h.get? b=B o):kJ K h A b=F9 o:=by unfold kJ;rw[aZ a0,aA,aZ (show(aa:Option bJ).isNone=a9 from Y),e]<;>rfl
theorem a3W{b:I}{u:dy}(q:kJ K h A b=B u):b∈A/\K.lookup b=aa:=by
 unfold kJ at q;by_cases a0:b∈A
 .rw[aZ a0]at q;cases aA:K.lookup b with|none=>exact⟨a0,rfl⟩|some o=>rw[aA,aL (by simp)]at q;cases q
 rw[aL a0]at q;cases q
theorem Fc(jo:∀a∈A,pT h A a){b:I}{u:dy}(q:kJ K h A b=B u):K.lookup b=aa/\∃vs:List ae,vs.length<=cM/\(∀u∈vs,p3 A u)/\((h.get? b=B {cls:=.type "list",data:=.seq vs.toArray}/\u=.kA {cls:=.type "list",data:=.seq vs.toArray} (.lst (vs.map lQ)))∨(h.get? b=B {cls:=.type "tuple",data:=.seq vs.toArray}/\u=.kA {cls:=.type "tuple",data:=.seq vs.toArray} (.tup (vs.map lQ)))):=by
  obtain⟨a0,aA⟩:=a3W q;obtain⟨vs,O,a5,aG⟩:=jo b a0;refine⟨aA,vs,O,a5,?_⟩;obtain e|e:=aG
  . rw[Fb a0 aA e,Rz]at q;exact .inl ⟨e,(gX q).symm⟩
  rw[Fb a0 aA e,RA]at q;exact .inr ⟨e,(gX q).symm⟩
theorem a3X(jo:∀a∈A,pT h A a):Bn (kJ K h A):=λb=>by
 cases q:kJ K h A b with
 |none=>exact .inl Y
 |some u=>
  obtain⟨_,_,_,_,⟨_,e⟩|⟨_,e⟩⟩:=Fc jo q
  .exact .inr ⟨_,_,by rw[e]⟩
  exact .inr ⟨_,_,by rw[e]⟩
theorem a3Y(jo:∀a∈A,pT h A a):f' P w (kJ K h A) h:=λb u q=>by
 obtain⟨_,vs,O,a5,⟨e,rfl⟩|⟨e,rfl⟩⟩:=Fc jo q
 .exact⟨e,by rw[cW];exact O,vs,_,yH a5,e⟩
 exact⟨e,by rw[cW];exact O,vs,yH a5,_,e,Y,_,Y⟩
theorem Fd{c e4:ae}{vs us:List ae}(e:(B {cls:=c,data:=.seq vs.toArray}:Option bJ)=B {cls:=e4,data:=.seq us.toArray}):c=e4/\vs=us:=by have aO:=gX e;have aT:c=e4:=f_ Obj.cls aO;have dX:Pd vs.toArray=Pd us.toArray:=f_ Obj.data aO;injection dX with hF;refine⟨aT,?_⟩;have ki:=f_ Zv hF;simpa using ki
theorem a3Z(bb:K.In h)(jo:∀a∈A,pT h A a){a:I}{vs:List ae}(bf:a∈A)(e:h.get? a=B {cls:=.type "list",data:=.seq vs.toArray}):(∀u∈vs,p3 A u)/\bp K (kJ K h A) a (vs.map lQ):=by
 obtain⟨us,O,a5,aG⟩:=jo a bf;have bz:us=vs:=by
  obtain q|q:=aG
  .rw[e]at q;exact(Fd q).2.symm
  rw[e]at q;exact absurd (aiV (Fd q).1) (by decide)
 subst bz;refine⟨a5,?_⟩;cases aA:K.lookup a with|none=>exact .inl (.inr ⟨_,by rw[Fb bf aA e,Rz]⟩)|some o=>have aT:=bb a o aA;rw[e]at aT;obtain rfl:=gX aT;exact .inr ⟨_,us.toArray,_,aA,Y,Y,Y,by rw[iS];exact O,by simpa using yH a5⟩
theorem a40(bb:K.In h)(jo:∀a∈A,pT h A a){a:I}{vs:List ae}(bf:a∈A)(e:h.get? a=B {cls:=.type "tuple",data:=.seq vs.toArray}):(∀u∈vs,p3 A u)/\dq K (kJ K h A) a (vs.map lQ):=by
 obtain⟨us,O,a5,aG⟩:=jo a bf;have bz:us=vs:=by
  obtain q|q:=aG
  .rw[e]at q;exact absurd (aiV (Fd q).1) (by decide)
  rw[e]at q;exact(Fd q).2.symm
 subst bz;refine⟨a5,?_⟩;cases aA:K.lookup a with|none=>exact .inl (.inr ⟨_,by rw[Fb bf aA e,RA]⟩)|some o=>have aT:=bb a o aA;rw[e]at aT;obtain rfl:=gX aT;exact .inr ⟨_,us.toArray,_,aA,Y,Y,by rw[iS];exact O,by simpa using yH a5⟩
mutual
theorem a41{KU:vJ}(bb:K.In h)(jo:∀a∈A,pT h A a):∀(d:j9)(v:ae),Well KU h v d->o5 d=a9->p3 A v->jV K (kJ K h A) (lQ v) d
 |.none,_,x,_,_=>by cases x;exact .bS
 |.bool b,_,x,_,_=>by cases x;exact .c1 b
 |.int i,_,x,_,_=>by cases x;exact .int i
 |.str s,_,x,_,_=>by cases x;exact .str s
 |.bytes b,_,x,_,_=>by cases x;have z:=jV.lE (K:=K) (H:=kJ K h A) b.toArray;exact z
 |.list c9,_,x,p,bz=>by obtain⟨a,vs,rfl,aU,lR⟩:=Rt x;obtain⟨a5,ax⟩:=a3Z bb jo bz aU;exact .lst ax (Fe bb jo c9 _ lR p a5)
 |.tuple c9,_,x,p,bz=>by obtain⟨a,vs,rfl,aU,lR⟩:=Ru x;obtain⟨a5,ax⟩:=a40 bb jo bz aU;exact .tup ax (Fe bb jo c9 _ lR p a5)
 |.float _,_,_,p,_=>qb (show aJ=a9 from p)
 |.dict _,_,_,p,_=>qb (show aJ=a9 from p)
 |.bytearray _,_,_,p,_=>qb (show aJ=a9 from p)
 |.set _,_,_,p,_=>qb (show aJ=a9 from p)
 |.frozenset _,_,_,p,_=>qb (show aJ=a9 from p)
 |.obj _ _,_,_,p,_=>qb (show aJ=a9 from p)
theorem Fe{KU:vJ}(bb:K.In h)(jo:∀a∈A,pT h A a):∀(c9:List j9)(vs:List ae),xQ KU h vs c9->pS c9=a9->(∀u∈vs,p3 A u)->pR K (kJ K h A) (vs.map lQ) c9
 |[],_,x,_,_=>by cases x;exact .nil
 |d::c9,_,x,p,bz=>by obtain⟨v,vs,rfl,gJ,gw⟩:=Rv x;have q:o5 d=a9/\pS c9=a9:=ahD.mp p;exact .cons (a41 bb jo d v gJ q.1 (bz _ (iy ..))) (Fe bb jo c9 vs gw q.2 λu m=>bz u (ez _ m))
end
theorem a42{a6 kc:a8->Option ae}{CX:jR}{k:Nat}{eg:I}{fd:ka}{sp:bF}{du:ay}{rB:List ae}{R:aiY}{cl:a8->Option I}{d0:j9}(bb:K.In du.heap)(rC:du.heap.Ns mf a6)(a0:du.heap.Ns a0v kc)(wo:∀x:a8,x≠"__name__"->kc x=DU x)(RB:du.heap.NoLimit)(aI:du.gens=#[])(rD:xQ w.params du.heap rB c9)(eF:pS c9=a9)(a43:∀d∈c9,d.weight<=1048576)(ah:dn k DV)(F:∀base:br,K.In base->base.Ns mf a6->jD P w K a6 base CX k eg fd aK sp)(a44:∀(s:ay)(us:List ae),us.length=aK.length->xN s fd ⟨us,[]⟩ (aK.zip us))(eS:c9.length=aK.length)(l6:∀(H:ak)(xs:List V),Bn H->pR K H xs c9->sp xs H (λv H'=>jV K H' v d0) λ_ _ _=>False)(Bo:∀H e b3,CX [] H du (λ_ _ _=>False) e b3->False):me (bq P w) DV (.call (.ref eg) ⟨rB,[]⟩) (λr b3=>∃u cV,r=.ok (.ret u)/\ReadsW R cl b3.heap u d0 cV/\OldK du.heap b3.heap/\b3.os=du.os/\xM b3.gens) du:=by
 obtain⟨A,aU,jo⟩:=F8 c9 rB rD eF a43;have yI:Bn (kJ K du.heap A):=a3X jo;have bR:f' P w (kJ K du.heap A) du.heap:=a3Y jo;have l9:=Fe bb jo c9 rB rD eF aU;have a45:=yH aU;have fu:∀b u,kJ K du.heap A b=B u->K.lookup b=aa:=λb u q=>(Fc jo q).1;have yu:∀{b:I}{o:bJ}{b7:Array Pe}{fS:Nat},du.heap.get? b=B o->o.data=.dict b7 fS->kJ K du.heap A b=aa:=fun{b o b7 fS} e d=>by
  cases q:kJ K du.heap A b with
  |none=>rfl
  |some u=>
   obtain⟨_,vs,_,_,⟨aT,_⟩|⟨aT,_⟩⟩:=Fc jo q
   .rw[aT]at e;cases e;have d':Pd vs.toArray _=aiA b7 fS:=d;cases d'
   rw[aT]at e;cases e;have d':Pd vs.toArray _=aiA b7 fS:=d;cases d'
 generalize kJ K du.heap A=H at yI bR l9 fu yu;have RC:∀{b:I}{o:bJ},du.heap.get? b=B o->H b=aa->(sv du.heap H).get? b=B o:=λe n=>a1i e n;have Ff:∀{b:I}{m:a8->Option ae},du.heap.Ns b m->(sv du.heap H).Ns b m:=fun{b m} ⟨o,b7,fS,e,d,r⟩=>⟨o,b7,fS,RC e (yu e d),d,r⟩;have a46:∀b o,K.lookup b=B o->H b=aa:=λb o e=>by cases q:H b with|none=>rfl|some u=>rw[fu b u q]at e;cases e
 have RD:K.In (sv du.heap H):=λb o e=>RC (bb b o e) (a46 b o e);have gL:Mod K a6 (sv du.heap H):=⟨RD,Ff rC,⟨kc,Ff a0,wo⟩,let⟨p4,O,a5⟩:=RB;⟨p4,Ff O,a5⟩⟩;have e0:qr P w K a6 (sv du.heap H) DV [] du H:=⟨Y,gL,λb o e=>a1j e,Ac (a1h _ _),trivial,λb a0=>absurd (show b∈([]:List I)from a0) (by simp),bR,.of_eq aI⟩;have aq:rB.length=aK.length:=by rw[F7 rD];exact eS
 refine vN ((F _ RD (Ff rC)).run DV [] du H ⟨rB,[]⟩ rB (rB.map lQ) _ _ ah e0 (a44 du rB aq) a45 (l6 H _ yI l9)) λr b3 x=>?_;cases r with
 |error e=>exact(Bo H e b3 x).elim
 |ok dE=>
  cases dE with
  |next=>exact hk x
  |brk=>exact hk x
  |cont=>exact hk x
  |ret u=>
   obtain⟨v,H',os,bare,un,RE,gq,q⟩:=x;have kept:∀b o,du.heap.get? b=B o->b3.heap.get? b=B o:=λb o e=>by
    cases cw:H b with
    |none=>exact un.keep b o e cw (by intro z;exact absurd (show b∈([]:List I)from z) (by simp)) (by simp)
    |some jU=>
     obtain z|⟨cE,RF,z⟩:=yI b
     .rw[cw]at z;cases z
     have g0:=un.rm b cE _ z;obtain⟨aO,_⟩:=bR b _ z;obtain⟨aT,_⟩:=RE b _ g0;rw[e]at aO;cases aO;exact aT
   have a47:K.In b3.heap:=λb o e=>kept b o (bb b o e);obtain⟨cV,eo⟩:=jV.reads (R:=R) (cl:=cl) RE a47 d0 v u q gq;exact⟨u,cV,Y,eo,OldK.of_keep kept,os,bare⟩
theorem a48(h:WData.layableAll c9=a9):∀d∈c9,d.weight<=1048576:=λd hd=>(PySem.W.layableW_iff.mp (xC.mp h d hd)).2.2
theorem RG:∀(c2:List Codec)(a:Pm c2),(DR c2 a).length=c2.length
 |[],_=>rfl
 |c::c2,a=>by show(DR c2 a.2).length+1=c2.length+1;rw[RG c2 a.2]
theorem a49{r:OpenSpec}{k:Nat}{q:bQ}{KV:List a8}{KW:(a8->Option ae)->br->Prop}{wq:bI->br->Prop}{d:DefRec}{K:vJ->bj}{CX:bI->jR}{sp:bI->bF}(KX:r.wellSaid=a9)(RH:d.params.defaults=[])(eS:r.args.length=aK.length)(ah:dn k DV)(KY:∀(w:bI)(h:br),wq w h->(K w.params).In h)(F:∀(w:bI)(a6:a8->Option ae)(eg:I)(h:br),wq w h->(K w.params).In h->h.Ns mf a6->a6 d.name=B (.ref eg)->∃fd:ka,(∀(s:ay)(us:List ae),us.length=aK.length->xN s fd ⟨us,[]⟩ (aK.zip us))/\∀base:br,(K w.params).In base->base.Ns mf a6->jD r.prog w (K w.params) a6 base (CX w) k eg fd aK (sp w))(l6:∀(w:bI)(H:ak)(xs:List V)(a:Pm r.args),Bn H->aiW r.args a=a9->Iw r.args r.asked a=a9->pR (K w.params) H xs (DR r.args a)->sp w xs H (λv H'=>jV (K w.params) H' v (r.ret.enc (Iw r.args r.f a))) λ_ _ _=>False)(Bo:∀(w:bI)(H:ak)(s:ay)(e:ae)(b3:ay),CX w [] H s (λ_ _ _=>False) e b3->False):aiZ q KV KW wq r d [] (λf vs=>mU f vs):=by intro w gv du a6 _ aj Bp eg o _ _ _ _ _ _ _ _ _ KZ aI args _ _ wt a4a _ rD _;obtain⟨a,aO,aT⟩:=PySem.W.os_pre_some wt;obtain⟨dX,oW⟩:=Codec.encAll_of_decAll r.args args a aO;subst dX;have bb:=KY w _ Bp;obtain⟨fd,a0,fe⟩:=F w a6 eg _ Bp bb aj.T.g KZ;refine PySem.W.enter_call (vN (a42 (R:=[]) (cl:=classAt gv.heap) (d0:=r.ret.enc (Iw r.args r.f a)) bb aj.T.g aj.T.b aj.T.builtins aj.T.nolimit aI rD (Rr _ _) (a48 a4a) ah fe a0 (by rw[RG];exact eS) (λH xs yI l9=>l6 w H xs a yI oW aT l9) λH e b3=>Bo w H du e b3) λ_ b3 aQ=>?_);obtain⟨u,s_,rfl,O,a5,aG,cG⟩:=aQ;exact⟨.inl ⟨u,_,s_,Y,λ_=>rfl,O,(OpenSpec.post_iff KX oW _ _).mpr Y,λz=>qb (show aJ=a9 from z)⟩,a5,aG,cG⟩
theorem RI{r:OpenSpec}{k:Nat}{q:bQ}{KV:List a8}{KW:(a8->Option ae)->br->Prop}{wq:bI->br->Prop}{d:DefRec}{K:vJ->bj}{CX:jR}{sp:bj->bF}(KX:r.wellSaid=a9)(RH:d.params.defaults=[])(eS:r.args.length=aK.length)(ah:dn k DV)(KY:∀(w:bI)(h:br),wq w h->(K w.params).In h)(F:∀(w:bI)(a6:a8->Option ae)(eg:I)(h:br),wq w h->(K w.params).In h->h.Ns mf a6->a6 d.name=B (.ref eg)->∃fd:ka,(∀(s:ay)(us:List ae),us.length=aK.length->xN s fd ⟨us,[]⟩ (aK.zip us))/\∀base:br,(K w.params).In base->base.Ns mf a6->jD r.prog w (K w.params) a6 base CX k eg fd aK (sp (K w.params)))(l6:∀(K:bj)(H:ak)(xs:List V)(a:Pm r.args),Bn H->aiW r.args a=a9->Iw r.args r.asked a=a9->pR K H xs (DR r.args a)->sp K xs H (λv H'=>jV K H' v (r.ret.enc (Iw r.args r.f a))) λ_ _ _=>False)(Bo:∀(H:ak)(s:ay)(e:ae)(b3:ay),CX [] H s (λ_ _ _=>False) e b3->False):aiZ q KV KW wq r d [] (λf vs=>mU f vs):=
 a49 (K:=K) (CX:=λ_=>CX) (sp:=λw=>sp (K w.params)) KX RH eS ah KY F (λw H xs a O a5 aG cG=>l6 (K w.params) H xs a O a5 aG cG) λ_ H s e b3=>Bo H s e b3
end L2
namespace Tf
open Tafl
theorem RJ(c:Nat):∀(l:List Nat)(n:Nat),(l.foldl (λ(n c:Nat)=>n|||2^c) n).testBit c=(n.testBit c||decide (c∈l))
 |[],n=>by simp
 |x::l,n=>by
  rw[vB,RJ c l,Nat.testBit_or,Nat.testBit_two_pow];by_cases h:x=c
  .subst h;simp
  have h':¬c=x:=λe=>h e.symm;simp[h,h']
theorem Fg(l:List Nat)(c:Nat):(pE l).testBit c=decide (c∈l):=by unfold pE;rw[RJ];simp
variable{n c:Nat}
theorem Fh:c∈u7 n↔c<192/\n.testBit c=a9:=by unfold u7 GONE;rw[j7,fR]
abbrev Cell(r:Rules)(c:Nat):Prop:=r.isCell c=a9
variable{r:Rules}
theorem kj:Cell r c↔c%13<r.wide/\c/13<r.high:=by unfold Cell Rules.isCell mh;simp
structure dh (r:Rules):Prop where
 wi:5<=r.wide
 p5:r.wide<=13
 eZ:5<=r.high
 pU:r.high<=13
theorem dh.lt(s:dh r)(h:Cell r c):c<169:=by have O:=(kj.mp h).2;have:=s.pU;omega
structure ea (r:Rules) (p:Pos):Prop where
 a7:∀c,p.hunters.testBit c=a9->Cell r c
 p4:∀c,p.men.testBit c=a9->Cell r c
 eh:p.king=255∨Cell r p.king
 hm:∀c,p.hunters.testBit c=a9->p.men.testBit c=aJ
 aA:p.hunters.testBit p.king=aJ
 s':p.men.testBit p.king=aJ
 gM:p.side<=1
theorem a4b(s:dh r):¬Cell r 255:=λh=>by have:=s.lt h;omega
variable{p:Pos}
theorem la:p.on c=.king↔p.king=c:=by
 unfold y3;by_cases h:p.king=c
 .simp[h]
 simp[h];split<;>(try split)<;>simp
theorem wu(w:ea r p):p.on c=.hunter↔p.hunters.testBit c=a9:=by
 unfold y3;by_cases h:p.king=c
 .have:=w.aA;rw[h]at this;simp[h,this]
 rw[aL h];cases a5:p.hunters.testBit c<;>cases aG:p.men.testBit c<;>simp
theorem wx(w:ea r p):p.on c=.man↔p.men.testBit c=a9:=by
 unfold y3;by_cases h:p.king=c
 .have:=w.s';rw[h]at this;simp[h,this]
 rw[aL h];have:=w.hm c;cases a5:p.hunters.testBit c<;>cases aG:p.men.testBit c<;>simp_all
theorem K_(w:ea r p)(s:dh r)(h:p.on c≠ .none)(a5:c≠255):Cell r c:=by
 cases e:p.on c with
 |none=>exact absurd e h
 |hunter=>exact w.a7 c ((wu w).mp e)
 |man=>exact w.p4 c ((wx w).mp e)
 |king=>
  have:=la.mp e;obtain k|k:=w.eh
  .omega
  rw[<-this];exact k
variable{q:Pos}
theorem a4c(s:dh r)(wp:ea r p)(jF:ea r q)(h:∀c,c<169->p.on c=q.on c)(ax:p.side=q.side):p=q:=by
 have bU:p.hunters=q.hunters:=ai9 λc=>by
  by_cases a7:c<169
  .have e:=h c a7;have a:=wu wp (c:=c);have b:=wu jF (c:=c);rw[e]at a;exact hM.mpr (a.symm.trans b)
  have a:p.hunters.testBit c=aJ:=by cases z:p.hunters.testBit c with|false=>rfl|true=>exact absurd (s.lt (wp.a7 c z)) a7
  have b:q.hunters.testBit c=aJ:=by cases z:q.hunters.testBit c with|false=>rfl|true=>exact absurd (s.lt (jF.a7 c z)) a7
  rw[a,b]
 have hm:p.men=q.men:=ai9 λc=>by
  by_cases a7:c<169
  .have e:=h c a7;have a:=wx wp (c:=c);have b:=wx jF (c:=c);rw[e]at a;exact hM.mpr (a.symm.trans b)
  have a:p.men.testBit c=aJ:=by cases z:p.men.testBit c with|false=>rfl|true=>exact absurd (s.lt (wp.p4 c z)) a7
  have b:q.men.testBit c=aJ:=by cases z:q.men.testBit c with|false=>rfl|true=>exact absurd (s.lt (jF.p4 c z)) a7
  rw[a,b]
 have aA:p.king=q.king:=by
  obtain k|k:=wp.eh
  .obtain kE|kE:=jF.eh
   .omega
   have lt:=s.lt kE;have e:=h q.king lt;rw[la.mpr (rfl:q.king=q.king)]at e;exact la.mp e
  have lt:=s.lt k;have e:=h p.king lt;rw[la.mpr (rfl:p.king=p.king)]at e;exact(la.mp e.symm).symm
 cases p;cases q;simp_all
def room(r:Rules)(d c:Nat):Nat:=if d=0 then r.high-1-c/13 else if d=1 then r.wide-1-c%13 else if d=2 then c/13 else c%13
def jq(d c n:Nat):Prop:=if d=0 then n%13=c%13/\c<n else if d=1 then n/13=c/13/\c<n else if d=2 then n%13=c%13/\n<c else n/13=c/13/\n<c
variable{d:Nat}
theorem jq.trans{a b:Nat}(h:jq d a b)(h':jq d b c):jq d a c:=by
 unfold jq at*;split at h
 .simp_all;omega
 split at h
 .simp_all;omega
 split at h
 .simp_all;omega
 simp_all;omega
theorem jq.ne{a b:Nat}(h:jq d a b):a≠b:=by
 unfold jq at h;intro e;subst e;split at h
 .omega
 split at h
 .omega
 split at h<;>omega
theorem jq.dir{d' a b:Nat}(hd:d<4)(Eh:d'<4)(h:jq d a b)(h':jq d' a b):d=d':=by
 unfold jq at h h';have aO:d=0∨d=1∨d=2∨d=3:=by omega
 have aT:d'=0∨d'=1∨d'=2∨d'=3:=by omega
 rcases aO with rfl|rfl|rfl|rfl<;>rcases aT with rfl|rfl|rfl|rfl<;>simp at h h' ⊢<;>omega
theorem wy(s:dh r)(a7:Cell r c)(h:r.next d c=B n):Cell r n/\room r d n+1=room r d c/\jq d c n:=by
 have oH:=kj.mp a7;have:=s.p5;have:=s.pU;unfold ajP mh cellOf mh at h;rw[kj];unfold room jq;by_cases d0:d=0
 .subst d0;simp only[jB]at h ⊢;split at h
  .cases h;omega
  cases h
 by_cases oL:d=1
 .subst oL;simp at h ⊢;obtain⟨O,rfl⟩:=h;omega
 by_cases h2:d=2
 .subst h2;simp at h ⊢;obtain⟨O,rfl⟩:=h;omega
 simp[d0,oL,h2]at h ⊢;obtain⟨O,rfl⟩:=h;omega
theorem a4d(s:dh r)(a7:Cell r c):room r d c<13:=by
 have oH:=kj.mp a7;have:=s.p5;have:=s.pU;unfold room;split
 .omega
 split
 .omega
 split<;>omega
theorem RK(s:dh r){d:Nat}:∀(f c:Nat),Cell r c->(∀n∈r.manWay p d f c,jq d c n/\Cell r n)/\(r.manWay p d f c).Pairwise (jq d)
 |0,c,_=>by simp[y5]
 |f+1,c,a7=>by
  unfold y5;cases e:r.next d c with
  |none=>simp
  |some n=>
   obtain⟨O,_,aG⟩:=wy s a7 e;have ih:=RK s (d:=d) f n O;dsimp only;split
   .simp
   split
   .simp
   .split
    .exact⟨λm hm=>⟨aG.trans (ih.1 m hm).1,(ih.1 m hm).2⟩,ih.2⟩
    simp
   refine⟨λm hm=>?_,DF.mpr ⟨λm hm=>(ih.1 m hm).1,ih.2⟩⟩;obtain rfl|hm:=dx.mp hm
   .exact⟨aG,O⟩
   exact⟨aG.trans (ih.1 m hm).1,(ih.1 m hm).2⟩
theorem RL(s:dh r){d:Nat}:∀(f c:Nat),Cell r c->(∀n∈r.kingWay p d f c,jq d c n/\Cell r n)/\(r.kingWay p d f c).Pairwise (jq d)
 |0,c,_=>by simp[y4]
 |f+1,c,a7=>by
  unfold y4;cases e:r.next d c with
  |none=>simp
  |some n=>
   obtain⟨O,_,aG⟩:=wy s a7 e;have ih:=RL s (d:=d) f n O;dsimp only;split
   .simp
   split
   .refine⟨λm hm=>?_,DF.mpr ⟨λm hm=>(ih.1 m hm).1,ih.2⟩⟩;obtain rfl|hm:=dx.mp hm
    .exact⟨aG,O⟩
    exact⟨aG.trans (ih.1 m hm).1,(ih.1 m hm).2⟩
   refine⟨λm hm=>?_,by simp⟩;simp at hm;subst hm;exact⟨aG,O⟩
def way(r:Rules)(p:Pos)(c d:Nat):List Nat:=if p.king=c then r.kingWay p d mh c else r.manWay p d mh c
theorem RM(c:Nat):r.reach p c=hy.flatMap (way r p c):=rfl
theorem Fi(s:dh r)(a7:Cell r c)(d:Nat):(∀n∈way r p c d,jq d c n/\Cell r n)/\(way r p c d).Pairwise (jq d):=by
 unfold way;split
 .exact RL s _ _ a7
 exact RK s _ _ a7
theorem Fj(s:dh r)(a7:Cell r c)(d:Nat):(way r p c d).Nodup:=(Fi s a7 d).2.imp λh=>h.ne
theorem RN(s:dh r)(a7:Cell r c):(r.reach p c).Nodup/\∀n∈r.reach p c,Cell r n/\n≠c:=by
 rw[RM];refine⟨?_,λn aH=>?_⟩
 .unfold hy;simp only[mO,OZ,hN];have yJ:∀a b,a<4->b<4->a≠b->∀n,n∈way r p c a->n∈way r p c b->False:=λa b bf a0 ne n O a5=>ne (jq.dir bf a0 ((Fi s a7 a).1 n O).1 ((Fi s a7 b).1 n a5).1);refine ZO.mpr ⟨Fj s a7 0,ZO.mpr ⟨Fj s a7 1,ZO.mpr ⟨Fj s a7 2,Fj s a7 3,?_⟩,?_⟩,?_⟩
  .intro a bf b a0 e;subst e;exact yJ 2 3 (by omega) (by omega) (by omega) a bf a0
  .intro a bf b a0 e;subst e;obtain a0|a0:=kv.mp a0
   .exact yJ 1 2 (by omega) (by omega) (by omega) a bf a0
   exact yJ 1 3 (by omega) (by omega) (by omega) a bf a0
  intro a bf b a0 e;subst e;obtain a0|a0:=kv.mp a0
  .exact yJ 0 1 (by omega) (by omega) (by omega) a bf a0
  obtain a0|a0:=kv.mp a0
  .exact yJ 0 2 (by omega) (by omega) (by omega) a bf a0
  exact yJ 0 3 (by omega) (by omega) (by omega) a bf a0
 obtain⟨d,_,hd⟩:=A9.mp aH;have:=(Fi s a7 d).1 n hd;exact⟨this.2,λe=>this.1.ne e.symm⟩
theorem K':∀{l gb:List Nat},l.Pairwise (·< ·)->gb.Pairwise (·< ·)->(∀x,x∈l↔x∈gb)->l=gb
 |[],[],_,_,_=>rfl
 |[],b::gb,_,_,h=>by have:=(h b).mpr (iy);simp at this
 |a::l,[],_,_,h=>by have:=(h a).mp (iy);simp at this
 |a::l,b::gb,O,a5,h=>by
  obtain⟨et,eM⟩:=DF.mp O;obtain⟨b1,b2⟩:=DF.mp a5;have e:a=b:=by
   obtain e|m:=dx.mp ((h a).mp iy)
   .exact e
   obtain e|m':=dx.mp ((h b).mpr iy)
   .exact e.symm
   have:=b1 a m;have:=et b m';omega
  subst e;rw[K' eM b2 λx=>?_];constructor
  .intro ag;obtain e|m:=dx.mp ((h x).mp (ez _ ag))
   .have:=et x ag;omega
   exact m
  intro ag;obtain e|m:=dx.mp ((h x).mpr (ez _ ag))
  .have:=b1 x ag;omega
  exact m
theorem L0(n:Nat)(q:Nat->Bool):((eA n).filter q).Pairwise (·< ·):=al2 _ ZP
theorem sorted_ints{l:List Nat}{ns:List Int}(ar:ns.Perm (l.map λ(n:Nat)=>(n:Int)))(ax:ns.Pairwise (·<=·))(aH:l.Nodup)(a0:∀x∈l,x<192):
  ns=((eA 192).filter λt=>l.contains t).map λ(n:Nat)=>(n:Int):=by
 have yK:∀z∈ns,∃n:Nat,n∈l/\z=n:=λz aR=>by obtain⟨n,O,a5⟩:=fA.mp (ar.mem_iff.mp aR);exact⟨n,O,a5.symm⟩
 have aO:ns=(ns.map ahL).map λ(n:Nat)=>(n:Int):=by
  rw[ix];conv=>lhs;rw[<-ZM ns]
  refine tT λz aR=>?_;obtain⟨n,_,rfl⟩:=yK z aR;simp
 have uB:ns.Nodup:=ar.nodup_iff.mpr (aH.map _ λa b h e=>h (by exact_mod_cast e));have c4:(ns.map ahL).Pairwise (·< ·):=by rw[ZQ];have a4e:=al1 ax uB;refine ahN (fun{a b} bf a0 h=>?_) a4e;obtain⟨n,_,rfl⟩:=yK a bf;obtain⟨m,_,rfl⟩:=yK b a0;have O:=h.1;have a5:=h.2;simp;omega
 rw[aO,K' c4 (L0 192 _) λx=>?_];rw[j7,fR,xD];constructor
 .intro h;obtain⟨z,aR,rfl⟩:=fA.mp h;obtain⟨n,aH,rfl⟩:=yK z aR;simp;exact⟨a0 n aH,aH⟩
 intro h;refine fA.mpr ⟨(x:Int),ar.mem_iff.mpr (fA.mpr ⟨x,h.2,Y⟩),by simp⟩
variable{m:Nat×Nat}
theorem RO{d:Nat}:∀(f c:Nat),∀n∈r.manWay p d f c,r.free p n=a9
 |0,c=>by simp[y5]
 |f+1,c=>by
  unfold y5;cases e:r.next d c with
  |none=>simp
  |some n=>
   have ih:=RO (d:=d) f n;dsimp only;split
   .simp
   rename_i hf
   have hf:r.free p n=a9:=by simpa using hf
   split
   .simp
   .split
    .exact ih
    simp
   intro m hm;obtain rfl|hm:=dx.mp hm
   .exact hf
   exact ih m hm
theorem RP{d:Nat}:∀(f c:Nat),∀n∈r.kingWay p d f c,r.free p n=a9
 |0,c=>by simp[y4]
 |f+1,c=>by
  unfold y4;cases e:r.next d c with
  |none=>simp
  |some n=>
   have ih:=RP (d:=d) f n;dsimp only;split
   .simp
   rename_i hf
   have hf:r.free p n=a9:=by simpa using hf
   intro m hm;obtain rfl|hm:=dx.mp hm
   .exact hf
   split at hm
   .exact ih m hm
   simp at hm
theorem a4f(h:n∈r.reach p c):r.free p n=a9:=by
 rw[RM]at h;obtain⟨d,_,hd⟩:=A9.mp h;unfold way at hd;split at hd
 .exact RP _ _ n hd
 exact RO _ _ n hd
theorem a4g(h:r.free p n=a9):p.on n=.none:=by unfold IQ at h;simp at h;exact h.2
def hS(p:Pos)(c:Nat):Bool:=if p.side=0 then p.on c== .hunter else p.on c== .man||p.on c== .king
theorem RQ(w:ea r p)(s:dh r)(aA:p.king≠255):c∈p.own↔Cell r c/\hS p c=a9:=by
 unfold Pos.own hS;split
 .rw[Fh];constructor
  .rintro⟨_,h⟩;exact⟨w.a7 c h,by rw[(wu w).mpr h];rfl⟩
  rintro⟨O,a5⟩;have a5:p.on c=.hunter:=by simpa using a5
  exact⟨by have:=s.lt O;omega,(wu w).mp a5⟩
 rw[j7,fR];unfold GONE;constructor
 .rintro⟨_,h⟩;rw[sb]at h;obtain h|h:=h
  .exact⟨w.p4 c h,by rw[(wx w).mpr h];rfl⟩
  have h:c=p.king:=by simpa using h
  subst h;refine⟨w.eh.resolve_left aA,?_⟩;rw[la.mpr Y];rfl
 rintro⟨O,a5⟩;refine⟨by have:=s.lt O;omega,?_⟩;rw[sb]at a5 ⊢;obtain a5|a5:=a5
 .have a5:p.on c=.man:=by simpa using a5
  exact .inl ((wx w).mp a5)
 have a5:p.on c=.king:=by simpa using a5
 have:=la.mp a5;exact .inr (by simp[this])
theorem RR(h:r.ended p=0):p.king≠255:=by unfold IP IU at h;intro e;simp[e]at h
theorem a4h:m∈r.moves p↔r.ended p=0/\m.1∈p.own/\m.2<192/\m.2∈r.reach p m.1:=by
 unfold ajM GONE;by_cases h:r.ended p=0
 .simp only[h,ne_eq,not_true_eq_false,jA,PT];rw[A9];constructor
  .rintro⟨c,O,a5⟩;obtain⟨t,aG,rfl⟩:=fA.mp a5;rw[j7,fR,xD]at aG;exact⟨O,aG⟩
  rintro⟨O,a5,aG⟩;refine⟨m.1,O,fA.mpr ⟨m.2,?_,Y⟩⟩;rw[j7,fR,xD];exact⟨a5,aG⟩
 simp[h]
structure p6 (r:Rules) (p:Pos) (m:Nat×Nat):Prop where
 eG:Cell r m.1
 gg:Cell r m.2
 own:hS p m.1=a9
 free:p.on m.2=.none
 nw:r.kindAt m.2≠ .wall
 ne:m.2≠m.1
 RS:p.king≠255
theorem p7(w:ea r p)(s:dh r)(h:m∈r.moves p):p6 r p m:=by obtain⟨b9,O,_,aG⟩:=a4h.mp h;have aA:=RR b9;obtain⟨eG,own⟩:=(RQ w s aA).mp O;have f:=a4f aG;have q:=(RN s eG).2 _ aG;exact⟨eG,q.1,own,a4g f,by unfold IQ at f;simp at f;exact f.1,q.2,aA⟩
theorem RT(w:ea r p):p.side=0∨p.side=1:=by have:=w.gM;omega
theorem a4i(w:ea r p)(h:p.on c=.none):p.hunters.testBit c=aJ/\p.men.testBit c=aJ/\p.king≠c:=by
 refine⟨?_,?_,λe=>?_⟩
 .cases z:p.hunters.testBit c with|false=>rfl|true=>have:=(wu w).mpr z;rw[h]at this;cases this
 .cases z:p.men.testBit c with|false=>rfl|true=>have:=(wx w).mpr z;rw[h]at this;cases this
 have:=la.mpr e;rw[h]at this;cases this
theorem RU{a b:Nat}(aH:∀c,n.testBit c=a9->c<192):(pE (b::(u7 n).filter λ(c:Nat)=>c !=a)).testBit c=decide (c=b∨(n.testBit c=a9/\c≠a)):=by
 rw[Fg];apply Ef.mpr;rw[dx,j7,Fh];constructor
 .rintro(h|⟨⟨O,a5⟩,aG⟩)
  .exact .inl h
  exact .inr ⟨a5,by simpa using aG⟩
 rintro(h|⟨O,a5⟩)
 .exact .inl h
 exact .inr ⟨⟨aH c O,O⟩,by simpa using a5⟩
theorem Fl(w:ea r p)(m:Nat×Nat):(p.shifted m).side=1-p.side:=by
 unfold PG;split
 .rfl
 split
 .rename_i h;simp[h]
 have:=RT w;simp;omega
theorem Fm(w:ea r p)(s:dh r)(l:p6 r p m):ea r (p.shifted m)/\(p.shifted m).king≠255/\∀c,(p.shifted m).on c=if c=m.2 then p.on m.1 else if c=m.1 then .none else p.on c:=by
 obtain⟨b1,b2,lS⟩:=a4i w l.free;have p8:=Fl w m;have dZ:m.1≠255:=λe=>by have:=s.lt l.eG;omega
 have cS:m.2≠255:=λe=>by have:=s.lt l.gg;omega
 have a0:∀c,p.hunters.testBit c=a9->c<192:=λc h=>by have:=s.lt (w.a7 c h);omega
 have kc:∀c,p.men.testBit c=a9->c<192:=λc h=>by have:=s.lt (w.p4 c h);omega
 by_cases aA:p.king=m.1
 .
  have e:p.shifted m={p with king:=m.2,side:=1-p.side}:=by unfold PG;rw[aZ aA]
  rw[e];refine⟨⟨w.a7,w.p4,.inr l.gg,w.hm,b1,b2,by show 1-p.side<=1;omega⟩,cS,λc=>?_⟩;show(if m.2=c then PF else if p.hunters.testBit c=a9 then .hunter else if p.men.testBit c=a9 then .man else .none)=_;by_cases a5:c=m.2
  .rw[aZ a5.symm,aZ a5,la.mpr aA]
  rw[aL (λe=>a5 e.symm),aL a5];by_cases O:c=m.1
  .have:=w.aA;have:=w.s';rw[O,<-aA];simp_all
  rw[aL O];unfold y3;rw[aL (show¬p.king=c from λe=>O (e.symm.trans aA))]
 have own:=l.own;have a4j:p.on m.1≠ .king:=λe=>aA (la.mp e);unfold hS at own;by_cases b9:p.side=0
 .rw[aZ b9]at own;have o1:p.on m.1=.hunter:=by simpa using own
  have L1:=(wu w).mp o1;have e:p.shifted m={p with hunters:=pE (m.2::(u7 p.hunters).filter λ(c:Nat)=>c !=m.1),side:=1}:=by unfold PG;rw[aL aA,aZ b9]
  rw[e];have t2:∀c,(pE (m.2::(u7 p.hunters).filter λ(c:Nat)=>c !=m.1)).testBit c=decide (c=m.2∨(p.hunters.testBit c=a9/\c≠m.1)):=λc=>RU a0;refine⟨⟨λc h=>?_,w.p4,w.eh,λc h=>?_,?_,w.s',by show 1<=1;omega⟩,l.RS,λc=>?_⟩
  .dsimp only at h;rw[t2]at h;obtain h|h:=e3 h
   .rw[h];exact l.gg
   exact w.a7 c h.1
  .dsimp only at h;rw[t2]at h;obtain h|h:=e3 h
   .rw[h];exact b2
   exact w.hm c h.1
  .dsimp only;rw[t2];apply gP;rintro(h|h)
   .exact lS h
   have:=w.aA;rw[this]at h;simp at h
  show(if p.king=c then PF else if(pE _).testBit c=a9 then .hunter else if p.men.testBit c=a9 then .man else .none)=_;rw[t2];by_cases a5:c=m.2
  .subst a5;rw[aL lS,aZ Y,aZ (by simp),o1]
  rw[aL a5];by_cases O:c=m.1
  .subst O;have:=w.hm _ L1;simp[aA,a5,this]
  rw[aL O];unfold y3;simp[O,a5]
 rw[aL b9]at own;have o1:p.on m.1=.man:=by
  rw[sb]at own;obtain h|h:=own
  .simpa using h
  exact absurd (by simpa using h) a4j
 have L1:=(wx w).mp o1;have e:p.shifted m={p with men:=pE (m.2::(u7 p.men).filter λ(c:Nat)=>c !=m.1),side:=0}:=by unfold PG;rw[aL aA,aL b9]
 rw[e];have t2:∀c,(pE (m.2::(u7 p.men).filter λ(c:Nat)=>c !=m.1)).testBit c=decide (c=m.2∨(p.men.testBit c=a9/\c≠m.1)):=λc=>RU kc;refine⟨⟨w.a7,λc h=>?_,w.eh,λc h=>?_,w.aA,?_,by show 0<=1;omega⟩,l.RS,λc=>?_⟩
 .dsimp only at h;rw[t2]at h;obtain h|h:=e3 h
  .rw[h];exact l.gg
  exact w.p4 c h.1
 .dsimp only;rw[t2];apply gP;have h:p.hunters.testBit c=a9:=h;rintro(h'|h')
  .rw[h',b1]at h;cases h
  have:=w.hm c h;rw[this]at h';simp at h'
 .dsimp only;rw[t2];apply gP;rintro(h|h)
  .exact lS h
  have:=w.s';rw[this]at h;simp at h
 show(if p.king=c then PF else if p.hunters.testBit c=a9 then .hunter else if(pE _).testBit c=a9 then .man else .none)=_;rw[t2];by_cases a5:c=m.2
 .subst a5;rw[aL lS,aZ Y,aL (by rw[b1];simp),aZ (by simp),o1]
 rw[aL a5];by_cases O:c=m.1
 .subst O;have:p.hunters.testBit m.1=aJ:=by cases z:p.hunters.testBit m.1 with|false=>rfl|true=>have:=w.hm _ z;rw[L1]at this;cases this
  simp[aA,a5,this]
 rw[aL O];unfold y3;simp[O,a5]
theorem Fn(w:ea r p)(s:dh r)(l:p6 r p m):ea r (r.comes p m)/\(r.comes p m).side=1-p.side/\∀c,c≠255->(r.comes p m).on c=if(r.takes p m).contains c=a9 then .none else(p.shifted m).on c:=by
 obtain⟨jF,gk,_⟩:=Fm w s l;have p8:=Fl w m;have a0:∀c,(pE ((u7 (p.shifted m).hunters).filter λ(c:Nat)=>!(r.takes p m).contains c)).testBit c=decide ((p.shifted m).hunters.testBit c=a9/\(r.takes p m).contains c=aJ):=λc=>by
  rw[Fg];apply Ef.mpr;rw[j7,Fh];constructor
  .rintro⟨⟨O,a5⟩,aG⟩;exact⟨a5,by simpa using aG⟩
  rintro⟨O,a5⟩;exact⟨⟨by have:=s.lt (jF.a7 c O);omega,O⟩,by simpa using a5⟩
 have kc:∀c,(pE ((u7 (p.shifted m).men).filter λ(c:Nat)=>!(r.takes p m).contains c)).testBit c=decide ((p.shifted m).men.testBit c=a9/\(r.takes p m).contains c=aJ):=λc=>by
  rw[Fg];apply Ef.mpr;rw[j7,Fh];constructor
  .rintro⟨⟨O,a5⟩,aG⟩;exact⟨a5,by simpa using aG⟩
  rintro⟨O,a5⟩;exact⟨⟨by have:=s.lt (jF.p4 c O);omega,O⟩,by simpa using a5⟩
 have nN:¬Cell r 255:=a4b s;have a4k:(p.shifted m).hunters.testBit 255=aJ:=by cases z:(p.shifted m).hunters.testBit 255 with|false=>rfl|true=>exact absurd (jF.a7 _ z) nN
 have a4l:(p.shifted m).men.testBit 255=aJ:=by cases z:(p.shifted m).men.testBit 255 with|false=>rfl|true=>exact absurd (jF.p4 _ z) nN
 unfold Rules.comes IU;refine⟨⟨λc h=>?_,λc h=>?_,?_,λc h=>?_,?_,?_,?_⟩,p8,λc a7=>?_⟩
 .dsimp only at h;rw[a0]at h;exact jF.a7 c (e3 h).1
 .dsimp only at h;rw[kc]at h;exact jF.p4 c (e3 h).1
 .dsimp only;split
  .exact .inl Y
  exact jF.eh
 .dsimp only at h ⊢;rw[a0]at h;rw[kc];apply gP;have:=jF.hm c (e3 h).1;rw[this];simp
 .dsimp only;rw[a0];apply gP;split
  .rw[a4k];simp
  rw[jF.aA];simp
 .dsimp only;rw[kc];apply gP;split
  .rw[a4l];simp
  rw[jF.s'];simp
 .dsimp only;have:=jF.gM;exact this
 show(if(if(r.takes p m).contains (p.shifted m).king=a9 then 255 else(p.shifted m).king)=c then PF else if(pE _).testBit c=a9 then .hunter else if(pE _).testBit c=a9 then .man else .none)=_;rw[a0,kc];unfold y3;by_cases aA:(p.shifted m).king=c
 .subst aA;have aO:=jF.aA;have aT:=jF.s';by_cases ba:(r.takes p m).contains (p.shifted m).king=a9
  .simp only[ba,jB,aO,aT,qa,Aw,decide_false,jA];rw[aL (λe=>gk e.symm)]
  rw[aL ba,aZ Y,aL ba,aZ Y]
 have L3:¬(if(r.takes p m).contains (p.shifted m).king=a9 then 255 else(p.shifted m).king)=c:=by
  split
  .exact λe=>a7 e.symm
  exact aA
 rw[aL L3];by_cases ba:(r.takes p m).contains c=a9
 .simp only[ba,jB,Zw,and_false,decide_false,qa,jA]
 have Fo:(r.takes p m).contains c=aJ:=by simpa using ba
 simp only[Fo,aA,and_true,Bool.decide_eq_true,qa,jA]
def heldBy(r:Rules)(q:Pos)(men:Bool):Option Nat->Bool
 |none=>aJ
 |some b=>r.helps men (q.on b)||r.against q men b
def pV(r:Rules)(q:Pos)(d n:Nat):Bool:=if q.on n=.king/\r.four=a9 then hy.all λe=>heldBy r q a9 (r.next e n)else heldBy r q (q.on n != .hunter) (r.next d n)
def kk(r:Rules)(q:Pos)(t d:Nat):Option Nat:=match r.next d t with
 |none=>aa
 |some n=>if hS q n=a9/\pV r q d n=a9 then B n else aa
def found(r:Rules)(q:Pos)(t:Nat):List Nat:=if q.on t=.king/\r.armed=aJ then[]else hy.filterMap (kk r q t)
theorem Fp:(d,n)∈r.neighbours c↔d∈hy/\r.next d c=B n:=by
 unfold ajO;rw[vE];constructor
 .rintro⟨e,O,a5⟩;cases z:r.next e c with|none=>rw[z]at a5;cases a5|some k=>rw[z]at a5;have a5:(e,k)=(d,n):=gX a5;cases a5;exact⟨O,z⟩
 rintro⟨O,a5⟩;exact⟨d,O,by rw[a5];rfl⟩
theorem a4m(f:Nat->Bool)(c:Nat):(((r.neighbours c).length==4&&(r.neighbours c).all λ(m:Nat×Nat)=>f m.2)=a9)↔(hy.all λe=>match r.next e c with|none=>aJ|some b=>f b)=a9:=by unfold ajO hy;cases b9:r.next 0 c<;>cases O:r.next 1 c<;>cases a5:r.next 2 c<;>cases aG:r.next 3 c<;>simp[List.filterMap,b9,O,a5,aG]
theorem a4n{hunters:Bool}{t:Nat}:c∈r.menTaken q hunters t↔¬(hunters=aJ/\q.king=t/\r.armed=aJ)/\∃d,d∈hy/\r.next d t=B c/\q.on c=(if hunters=a9 then ajJ else .hunter)/\heldBy r q hunters (r.next d c)=a9:=by
 unfold Rules.menTaken;by_cases h:hunters=aJ/\q.king=t/\r.armed=aJ
 .simp[h]
 rw[aL h,vE];constructor
 .rintro⟨⟨d,n⟩,O,a5⟩;obtain⟨aG,cG⟩:=Fp.mp O;refine⟨h,d,aG,?_⟩;dsimp only at a5;by_cases eZ:(q.on n==(if hunters=a9 then ajJ else .hunter))=a9
  .rw[aZ eZ]at a5;have eZ:=eq_of_beq eZ;cases z:r.next d n with
   |none=>rw[z]at a5;cases a5
   |some b=>
    rw[z]at a5;dsimp only at a5;split at a5
    .rename_i iH
     cases a5;refine⟨cG,eZ,?_⟩;rw[z];show(r.helps hunters (q.on b)||r.against q hunters b)=a9;rw[sb];exact iH
    cases a5
  rw[aL eZ]at a5;cases a5
 rintro⟨_,d,O,a5,aG,cG⟩;refine⟨(d,c),Fp.mpr ⟨O,a5⟩,?_⟩;dsimp only;rw[aZ (h_.mpr aG)];cases z:r.next d c with
 |none=>rw[z]at cG;cases cG
 |some b=>rw[z]at cG;have cG:(r.helps hunters (q.on b)||r.against q hunters b)=a9:=cG;rw[sb]at cG;dsimp only;rw[aZ cG]
theorem a4o(b:Option Nat):heldBy r q a9 b=(match b with|none=>aJ|some b=>q.on b== .hunter||r.against q a9 b):=by cases b<;>rfl
theorem a4p{t:Nat}:r.kingTaken q t=a9↔∃d,d∈hy/\r.next d t=B q.king/\pV r q d q.king=a9:=by
  unfold Rules.kingTaken;rw[A1];have aU:q.on q.king=.king:=la.mpr Y;have key:∀d,pV r q d q.king=a9↔(if r.four=a9 then(r.neighbours q.king).length==4&&(r.neighbours q.king).all λ(m:Nat×Nat)=>q.on m.2== .hunter||r.against q a9 m.2 else match r.next d q.king with
      |some b=>q.on b== .hunter||r.against q a9 b
      |none=>aJ)=a9:=λd=>by
    unfold pV;rw[aU];by_cases cG:r.four=a9
    . rw[aZ ⟨Y,cG⟩,aZ cG,a4m λb=>q.on b== .hunter||r.against q a9 b];apply Eq.to_iff;congr 2
    rw[aL (λe=>cG e.2),aL cG];show heldBy r q a9 _=a9↔_;rw[a4o];cases r.next d q.king<;>rfl
  constructor
  . rintro⟨⟨d,n⟩,O,a5⟩;obtain⟨aG,cG⟩:=Fp.mp O;dsimp only at a5;rw[i8]at a5;have e:=eq_of_beq a5.1;subst e;exact⟨d,aG,cG,(key d).mpr a5.2⟩
  rintro⟨d,O,a5,aG⟩;refine⟨(d,q.king),Fp.mpr ⟨O,a5⟩,?_⟩;dsimp only;rw[i8];exact⟨by simp,(key d).mp aG⟩
theorem RV{t:Nat}:c∈found r q t↔¬(q.on t=.king/\r.armed=aJ)/\∃d,d∈hy/\r.next d t=B c/\hS q c=a9/\pV r q d c=a9:=by
 unfold found;by_cases h:q.on t=.king/\r.armed=aJ
 .simp[h]
 rw[aL h,vE];constructor
 .rintro⟨d,O,a5⟩;refine⟨h,d,O,?_⟩;unfold kk at a5;cases z:r.next d t with
  |none=>rw[z]at a5;cases a5
  |some n=>
   rw[z]at a5;dsimp only at a5;split at a5
   .rename_i aG
    cases a5;exact⟨Y,aG⟩
   cases a5
 rintro⟨_,d,O,a5,aG⟩;refine⟨d,O,?_⟩;unfold kk;rw[a5];dsimp only;rw[aZ aG]
theorem L4(w:ea r p)(s:dh r)(l:p6 r p m):r.takes p m=(eA 192).filter λc=>(found r (p.shifted m) m.2).contains c:=by
 obtain⟨_,_,a4q⟩:=Fm w s l;have p8:=Fl w m;have Bq:(p.shifted m).on m.2=p.on m.1:=by rw[a4q,aZ Y]
 unfold Rules.takes GONE;dsimp only;refine I6 λc _=>?_;apply hM.mpr;rw[sb,xD,xD,i8,i8,h_,h_,a4n,RV,a4p,Bq];have own:=l.own;unfold hS at own;obtain b9|O:=RT w
 .
  rw[aZ b9]at own;have o1:p.on m.1=.hunter:=by simpa using own
  have os:∀c,hS (p.shifted m) c=((p.shifted m).on c== .man||(p.shifted m).on c== .king):=λc=>by unfold hS;rw[p8,b9];rfl
  rw[b9,o1];simp only[PS,Zw,Aw,not_false_eq_true,PT,jB,reduceCtorEq];constructor
  .rintro(⟨d,O,a5,aG,cG⟩|⟨⟨d,O,a5,aG⟩,rfl⟩)
   .refine⟨d,O,a5,by rw[os,aG];rfl,?_⟩;unfold pV;rw[aG];simp only[reduceCtorEq,Aw,jA];exact cG
   exact⟨d,O,a5,by rw[os,la.mpr Y];rfl,aG⟩
  rintro⟨d,O,a5,aG,cG⟩;rw[os,sb]at aG;obtain aG|aG:=aG
  .have aG:=eq_of_beq aG;refine .inl ⟨d,O,a5,aG,?_⟩;unfold pV at cG;rw[aG]at cG;simp only[reduceCtorEq,Aw,jA]at cG;exact cG
  have aG:=la.mp (eq_of_beq aG);subst aG;exact .inr ⟨⟨d,O,a5,cG⟩,Y⟩
 .
  have b9:¬p.side=0:=by omega
  have os:∀c,hS (p.shifted m) c=((p.shifted m).on c== .hunter):=λc=>by unfold hS;rw[p8,O];rfl
  have a4r:(p.shifted m).king=m.2↔p.on m.1=.king:=by rw[<-Bq];exact la.symm
  rw[O];simp only[Nat.one_ne_zero,Aw,qk,jA,qa,PT,a4r,show((1:Nat)==0)=aJ from Y];constructor
  .rintro⟨a5,d,aG,cG,eZ,iH⟩;refine⟨a5,d,aG,cG,by rw[os,eZ];rfl,?_⟩;unfold pV;rw[eZ];simp only[reduceCtorEq,Aw,jA];exact iH
  rintro⟨a5,d,aG,cG,eZ,iH⟩;rw[os]at eZ;have eZ:=eq_of_beq eZ;refine⟨a5,d,aG,cG,eZ,?_⟩;unfold pV at iH;rw[eZ]at iH;simp only[reduceCtorEq,Aw,jA]at iH;exact iH
theorem L5(s:dh r){t:Nat}(ba:Cell r t):(found r q t).Nodup/\∀c∈found r q t,Cell r c/\c≠t:=by
 refine⟨?_,λc a7=>?_⟩
 .unfold found;split
  .simp
  have ar:hy.Pairwise (λa b=>a≠b/\a<4/\b<4):=by unfold hy;simp
  refine ahM _ (λa b h x ag y bl=>?_) ar;have key:∀d x,kk r q t d=B x->jq d t x:=λd x ag=>by
   unfold kk at ag;cases z:r.next d t with
   |none=>rw[z]at ag;cases ag
   |some n=>
    rw[z]at ag;dsimp only at ag;split at ag
    .cases ag;exact(wy s ba z).2.2
    cases ag
  intro e;subst e;exact h.1 (jq.dir h.2.1 h.2.2 (key a x ag) (key b x bl))
 obtain⟨_,d,_,h,_⟩:=RV.mp a7;have:=wy s ba h;exact⟨this.1,λe=>this.2.2.ne e.symm⟩
def hT(r:Rules)(p:Pos)(c:Nat):List Nat:=if hS p c=a9 then(eA 192).filter λt=>(r.reach p c).contains t else[]
variable{f:Nat}
theorem RW(h:hS p c=a9):p.on c≠ .none:=by unfold hS at h;intro e;rw[e]at h;split at h<;>simp at h
theorem a4s(w:ea r p)(s:dh r)(aA:p.king≠255):p.own=(eA 169).filter λc=>hS p c:=by
 refine K' ?_ (L0 169 _) λc=>?_
 .unfold Pos.own u7 GONE;split<;>exact L0 192 _
 rw[RQ w s aA,j7,fR];constructor
 .rintro⟨O,a5⟩;exact⟨s.lt O,a5⟩
 rintro⟨O,a5⟩;exact⟨K_ w s (RW a5) (by omega),a5⟩
theorem RX{bu hp:Type}(q:bu->Bool)(f:bu->List hp):∀l:List bu,(l.filter q).flatMap f=l.flatMap λa=>if q a=a9 then f a else[]
 |[]=>rfl
 |a::l=>by rw[qd,mO,<-RX q f l];split<;>simp
theorem L6(w:ea r p)(s:dh r)(h:r.ended p=0):r.moves p=(eA 169).flatMap λc=>(hT r p c).map λt=>(c,t):=by have aA:=RR h;unfold ajM;rw[aL (by simp[h]),a4s w s aA,RX];congr 1;funext c;unfold hT GONE;split<;>simp
theorem a4t(w:ea r p)(s:dh r)(h:r.ended p=0):m∈r.moves p↔m.1<169/\m.2∈hT r p m.1:=by
 rw[L6 w s h,A9];constructor
 .rintro⟨c,O,a5⟩;obtain⟨t,aG,rfl⟩:=fA.mp a5;exact⟨fR.mp O,aG⟩
 rintro⟨O,a5⟩;exact⟨m.1,fR.mpr O,fA.mpr ⟨m.2,a5,Y⟩⟩
theorem RY(w:ea r p)(s:dh r)(h:r.ended p=0):r.moves p=[]↔∀c,c<169->hT r p c=[]:=by
 rw[L6 w s h,List.flatMap_eq_nil_iff];constructor
 .intro h c a7;have:=h c (fR.mpr a7);simpa using this
 intro h c a7;rw[h c (fR.mp a7)];rfl
theorem a4u(s:dh r)(e:r.next d c=B n):r.manWay p d (f+1) c=if r.free p n=aJ then[]else match r.kindAt n with
   |.exit=>[]
   |.seat=>if r.passed=a9 then r.manWay p d f n else[]
   |_=>n::r.manWay p d f n:=by
 conv=>lhs;unfold y5
 rw[e];dsimp only;split
 .rfl
 cases r.kindAt n<;>rfl
theorem a4v(s:dh r)(e:r.next d c=B n):r.kingWay p d (f+1) c=if r.free p n=aJ then[]else n::(if r.slides=a9 then r.kingWay p d f n else[]):=by
 conv=>lhs;unfold y4
 rw[e]
theorem RZ(e:r.next d c=aa):r.manWay p d (f+1) c=[]/\r.kingWay p d (f+1) c=[]:=by unfold y5 y4;rw[e];exact⟨Y,Y⟩
def yL(r:Rules)(k:Bool)(n:Nat):Bool:=k||r.kindAt n== .plain
def yM(r:Rules)(k:Bool)(n:Nat):Bool:=if k=a9 then r.slides else match r.kindAt n with
 |.seat=>r.passed
 |.exit=>aJ
 |_=>a9
def p9(r:Rules)(p:Pos)(k:Bool)(d:Nat):Nat->Nat->List Nat:=if k=a9 then r.kingWay p d else r.manWay p d
theorem a4w(s:dh r){k:Bool}(e:r.next d c=B n):p9 r p k d (f+1) c=if r.free p n=aJ then[]else(if yL r k n=a9 then[n]else[])++(if yM r k n=a9 then p9 r p k d f n else[]):=by
 unfold p9 yL yM;cases k with
 |true=>
  simp only[jB,ahG];rw[a4v s e];split
  .rfl
  rfl
 |false=>
  simp only[qa,jA,Dw];rw[a4u s e];split
  .rfl
  rename_i hf
  have hw:r.kindAt n≠ .wall:=by intro d7;unfold IQ at hf;rw[d7]at hf;simp at hf
  cases a4x:r.kindAt n with|plain=>simp|seat=>simp|exit=>simp|wall=>exact absurd a4x hw
theorem R_{k:Bool}(e:r.next d c=aa):p9 r p k d (f+1) c=[]:=by
 unfold p9;cases k
 .exact(RZ e).1
 exact(RZ e).2
theorem L7(c d:Nat):way r p c d=p9 r p (p.on c== .king) d 13 c:=by
 unfold way p9 mh;by_cases h:p.king=c
 .rw[aZ h,aZ (by rw[la.mpr h];rfl)]
 rw[aL h,aL (by simp only[h_];exact λe=>h (la.mp e))]
theorem yN:∀b:aS,cc b []=0
 |[]=>rfl
 |_::_=>rfl
theorem qB(b:aS):cc [] b=0:=by cases b<;>rfl
theorem iK(x y:UInt8)(l m:aS):cc (x::l) (y::m)=if x=y then cc l m+1 else 0:=rfl
theorem pa:∀(w b:aS),dt w b=a9↔cc b w=w.length
 |[],b=>by simp[dt,yN]
 |x::w,[]=>by simp[dt,qB]
 |x::w,y::b=>by
  rw[iK];show(x==y&&dt w b)=a9↔_;rw[i8,pa w b,h_];by_cases h:x=y
  .subst h;simp
  have:¬y=x:=λe=>h e.symm;simp[h,this]
theorem yO:∀(b w:aS),cc b w<=w.length
 |[],w=>by rw[qB];omega
 |_::_,[]=>by simp[cc]
 |x::b,y::w=>by rw[iK];have:=yO b w;split<;>simp<;>omega
theorem R':∀(b w:aS),cc b w<=b.length
 |[],w=>by rw[qB];simp
 |_::_,[]=>by simp[cc]
 |x::b,y::w=>by rw[iK];have:=R' b w;split<;>simp<;>omega
def kl(c:eP)(n:Nat):eP:=⟨c.rest.drop n,c.at_+n⟩
theorem S0(c:eP):kl c 0=c:=rfl
theorem a4y(c:eP):c.on=kl c 1:=rfl
theorem Fq:∀(w:aS)(c:eP),eu w c=if dt w c.rest=a9 then .ok (kl c w.length)else .error (c.at_+cc c.rest w)
 |[],c=>by simp[eu,dt,S0]
 |x::w,⟨[],a⟩=>by simp[eu,a0Y,dt,cc]
 |x::w,⟨y::b,a⟩=>by
  unfold eu;show(if B y=B x then _ else _)=_;rw[iK];by_cases h:y=x
  .subst h;rw[aZ Y,Fq w];simp only[a4y,kl,OX,DA,dt,PS,Dx,jB,fQ];split
   .rw[show a+1+w.length=a+(w.length+1) by omega]
   rw[show a+1+cc b w=a+(cc b w+1) by omega]
  have h':¬x=y:=λe=>h e.symm;simp[h,h',dt]
theorem L8:∀(w v:aS)(c:eP),eu (w++v) c=(eu w c).bind (eu v)
 |[],v,c=>rfl
 |x::w,v,c=>by
  show(if c.next=B x then eu (w++v) c.on else .error c.at_)=ahH (if c.next=B x then eu w c.on else .error c.at_) (eu v);split
  .exact L8 w v c.on
  rfl
def t4(b:aS)(l:List (Nat×aS)):Nat:=(l.map λw=>cc b w.2).foldr max 0
theorem S1(b:aS)(w:Nat×aS)(l:List (Nat×aS)):t4 b (w::l)=max (cc b w.2) (t4 b l):=rfl
def uC(l:List (Nat×aS)):Prop:=l.Pairwise λa b=>dt a.2 b.2=aJ/\dt b.2 a.2=aJ
theorem L9(b:aS):dt [] b=a9:=by cases b<;>rfl
def lT(x:UInt8)(l:List (Nat×aS)):List (Nat×aS):=l.filterMap λ(w:Nat×aS)=>if w.2.head? =B x then B (w.1,w.2.drop 1)else aa
theorem S2(x:UInt8)(i:Nat)(y:UInt8)(w:aS)(l:List (Nat×aS)):lT x ((i,y::w)::l)=if y=x then(i,w)::lT x l else lT x l:=by unfold lT;rw[vA];by_cases h:y=x<;>simp[h]
theorem a4z{x:UInt8}:∀{l:List (Nat×aS)},uC l->uC (lT x l):=fun{l} h=>by
 unfold uC lT at*;refine ahM _ (λa b a4A u bz v bk=>?_) h;obtain⟨i,S3⟩:=a;obtain⟨j,S4⟩:=b;cases S3 with
 |nil=>simp at bz
 |cons y S3=>cases S4 with|nil=>simp at bk|cons z S4=>simp only[List.head?_cons,al4,OX,DA,Option.ite_none_right_eq_some]at bz bk;obtain⟨rfl,rfl⟩:=bz;obtain⟨rfl,rfl⟩:=bk;simpa[dt]using a4A
theorem S5(x:UInt8)(b:aS):∀{l:List (Nat×aS)},(∀w∈l,w.2≠[])->(l.find? λw=>dt w.2 (x::b))=((lT x l).find? λw=>dt w.2 b).map λw=>(w.1,x::w.2)
 |[],_=>rfl
 |(i,[])::l,h=>absurd Y (h _ iy)
 |(i,y::w)::l,h=>by
  rw[S2,sd,S5 x b λw hw=>h w (ez _ hw)];by_cases e:y=x
  .subst e;rw[aZ Y,sd];show(match(y==y&&dt w b)with|true=>_|false=>_)=_;rw[PS,Dx];cases dt w b<;>rfl
  rw[aL e];show(match(y==x&&dt w b)with|true=>_|false=>_)=_;rw[Ee.mpr e];rfl
theorem S6(x:UInt8)(b:aS):∀{l:List (Nat×aS)},(∀w∈l,w.2≠[])->t4 (x::b) l=if lT x l=[]then 0 else t4 b (lT x l)+1
 |[],_=>rfl
 |(i,[])::l,h=>absurd Y (h _ iy)
 |(i,y::w)::l,h=>by
  rw[S2,S1,S6 x b λw hw=>h w (ez _ hw)];show max (cc (x::b) (y::w)) _=_;rw[iK];by_cases e:y=x
  .subst e;rw[aZ Y,aZ Y,aL (show¬((i,w)::lT y l=[]) by intro e;cases e),S1];show max (cc b w+1) _=max (cc b w) _+1;by_cases e:lT y l=[]
   .rw[e];simp[t4]
   rw[aL e];omega
  rw[aL (λq=>e q.symm),aL e];simp
theorem S7:∀(f:Nat)(l:List (Nat×aS))(c:eP),uC l->l≠[]->(∀w∈l,w.2.length<f)->IX f l c=match l.find? λw=>dt w.2 c.rest with
   |some w=>.ok (w.1,kl c w.2.length)
   |none=>.error (c.at_+t4 c.rest l)
 |0,l,c,_,bV,aq=>by cases l with|nil=>exact absurd rfl bV|cons w l=>have:=aq w iy;omega
 |f+1,l,c,ar,bV,aq=>by
  unfold IX;cases aF:l.find? λ(w:Nat×aS)=>w.2.isEmpty with
  |some w=>
   have a4B:=OY aF;have a4C:=DD aF;have La:w.2=[]:=by simpa using a4B
   have:l=[w]:=by
    cases l with
    |nil=>exact absurd Y bV
    |cons a l=>
     obtain⟨O,_⟩:=DF.mp ar;obtain e|m:=dx.mp a4C
     .subst e;cases l with|nil=>rfl|cons b l=>have:=(O b iy).1;rw[La,L9]at this;cases this
     have:=(O w m).2;rw[La,L9]at this;cases this
   subst this;simp[List.find?,La,L9,S0]
  |none=>
   have aH:∀w∈l,w.2≠[]:=λw hw e=>by have:=xE.mp aF w hw;simp[e]at this
   obtain⟨b,a⟩:=c;cases b with
   |nil=>
    show ahI a=_;have aO:(l.find? λw=>dt w.2 [])=aa:=xE.mpr λw hw=>by have:=aH w hw;cases z:w.2 with|nil=>exact absurd z this|cons x t=>simp[dt]
    have aT:t4 [] l=0:=by unfold t4;clear aF aH aO aq ar bV;induction l with|nil=>rfl|cons w l ih=>rw[i9,ZH,ih,qB];rfl
    simp only[aO,aT,DG]
   |cons x b=>
    show(if(lT x l).isEmpty=a9 then ahI a else IX f (lT x l) ⟨b,a+1⟩)=_;dsimp only;rw[S5 x b aH,S6 x b aH];by_cases ba:lT x l=[]
    .simp[ba]
    rw[aL (by simpa using ba),aL ba,S7 f (lT x l) ⟨b,a+1⟩ (a4z ar) ba]
    .dsimp only;cases(lT x l).find? λw=>dt w.2 b with|some w=>simp[kl];omega|none=>simp;omega
    intro w hw;unfold lT at hw;obtain⟨u,bz,e⟩:=vE.mp hw;have:=aq u bz;split at e
    .cases e;have a4D:=aH u bz;cases z:u.2 with|nil=>exact absurd z a4D|cons y t=>rw[z]at this;simp at this ⊢;omega
    cases e
def t5(lo hi d:Nat):Bool:=decide (0<d)&&y7 lo hi d
variable{lo hi:Nat}
theorem S8(hd:0<d)(bU:hi<1000000):y7 lo hi d=a9↔∃k,d*10^k<=hi/\lo<=d*10^k+(10^k-1):=by
 unfold y7;rw[A1];constructor
 .rintro⟨k,_,h⟩;rw[i8]at h;exact⟨k,e3 h.1,e3 h.2⟩
 rintro⟨k,O,a5⟩;refine⟨k,fR.mpr ?_,?_⟩
 .by_cases aA:k<6
  .exact aA
  have e:10^k=10^6*10^(k-6):=by rw[<-aii];congr 1;omega
  have p:0<10^(k-6):=DI (by simp);have:1000000<=10^k:=by rw[e];exact ZW _ p
  have:=Nat.le_mul_of_pos_left (10^k) hd;omega
 rw[i8];exact⟨eE O,eE a5⟩
theorem a4E(d k:Nat):d*10^(k+1)=d*10^k*10/\d*10^(k+1)+(10^(k+1)-1)=(d*10^k+(10^k-1))*10+9:=by
 have e:10^(k+1)=10^k*10:=Z_ ..;have p:0<10^k:=DI (by simp);have aT:d*10^(k+1)=d*10^k*10:=by rw[e,ZY]
 refine⟨aT,?_⟩;rw[aT,e];omega
variable{k:Nat}
theorem a4F(hd:0<d)(bU:hi<1000000)(O:d*10^k<=hi)(a5:lo<=d*10^k+(10^k-1)):y7 lo hi d=a9:=(S8 hd bU).mpr ⟨k,O,a5⟩
theorem a4G(hd:0<d)(bU:hi<1000000)(O:hi<d*10^k)(a5:∀j,j<k->¬lo<=d*10^j+(10^j-1)):y7 lo hi d=aJ:=by
 cases z:y7 lo hi d with
 |false=>rfl
 |true=>
  obtain⟨j,_,cG⟩:=(S8 hd bU).mp z;by_cases bX:j<k
  .exact absurd cG (a5 j bX)
  have e:10^j=10^k*10^(j-k):=by rw[<-aii];congr 1;omega
  have p:0<10^(j-k):=DI (by simp);have:d*10^k<=d*10^j:=by rw[e,<-ZY];exact ZW _ p
  omega
theorem S9(h:t5 lo hi d=a9):0<d/\d<=hi:=by unfold t5 at h;rw[i8]at h;have b9:=e3 h.1;refine⟨b9,?_⟩;have h:=h.2;unfold y7 at h;obtain⟨k,_,h⟩:=A1.mp h;rw[i8]at h;have O:=e3 h.1;have p:0<10^k:=DI (by simp);have:=ZW d p;omega
def more(lo hi d:Nat)(c:eP):Option Nat:=match c.next with
 |some x=>if IW x=a9/\t5 lo hi (10*d+(x.toNat-48))=a9 then B (10*d+(x.toNat-48))else aa
 |none=>aa
theorem Sa{e:Nat}{c:eP}(h:more lo hi d c=B e):y8 lo hi (f+1) d c=y8 lo hi f e (kl c 1):=by
 unfold more at h;conv=>lhs;unfold y8
 cases a7:c.next with
 |none=>rw[a7]at h;cases h
 |some x=>
  rw[a7]at h;dsimp only at h ⊢;split at h
  .rename_i O
   cases h;have a5:=O.2;unfold t5 at a5;rw[i8]at a5;rw[aZ ⟨O.1,e3 a5.1,a5.2⟩];rfl
  cases h
theorem Sb{c:eP}(h:more lo hi d c=aa):y8 lo hi (f+1) d c=if lo<=d/\d<=hi then .ok (d,c)else .error c.at_:=by
 unfold more at h;unfold y8;cases a7:c.next with
 |none=>rfl
 |some x=>
  rw[a7]at h;dsimp only at h ⊢;split at h
  .cases h
  rename_i O
  rw[aL];rintro⟨a5,aG,cG⟩;exact O ⟨a5,by unfold t5;rw[i8];exact⟨eE aG,cG⟩⟩
theorem a4H{p:UInt8->Bool}{c:eP}{x:UInt8}(a7:c.next=B x)(ar:p x=a9):oE p (n+1) c=(x::(oE p n (kl c 1)).1,(oE p n (kl c 1)).2):=by
 conv=>lhs;unfold oE
 rw[a7];dsimp only;rw[aZ ar];rfl
theorem a4I{p:UInt8->Bool}{c:eP}(h:∀x,c.next=B x->p x=aJ):oE p (n+1) c=([],c):=by unfold oE;cases a7:c.next with|none=>rfl|some x=>simp[h x a7]
def pc:kZ->Nat
 |.none=>46
 |.hunter=>104
 |.man=>109
 |.king=>75
def eh:Kind->Nat
 |.plain=>46
 |.seat=>83
 |.exit=>88
 |.wall=>35
theorem Lb{a b:kZ}(h:pc a=pc b):a=b:=by cases a<;>cases b<;>first|rfl|(exact absurd h (by decide))
theorem a4J{a b:Kind}(h:eh a=eh b):a=b:=by cases a<;>cases b<;>first|rfl|(exact absurd h (by decide))
def bd(p:Pos):List Nat:=(eA 169).map λc=>pc (p.on c)
def e'(r:Rules):List Nat:=(eA 169).map λc=>if r.isCell c=a9 then eh (r.kindAt c)else 46
theorem km(p:Pos):(bd p).length=169:=by simp[bd]
theorem Lc(r:Rules):(e' r).length=169:=by simp[e']
theorem qC(p:Pos)(h:c<169):(bd p)[c]? =B (pc (p.on c)):=by simp[bd,h]
theorem Sd(r:Rules)(s:dh r)(h:Cell r c):(e' r)[c]? =B (eh (r.kindAt c)):=by have:=s.lt h;have h:r.isCell c=a9:=h;simp[e',this,h]
theorem a4K(s:dh r)(wp:ea r p)(jF:ea r q)(h:bd p=bd q)(ax:p.side=q.side):p=q:=by refine a4c s wp jF (λc a7=>?_) ax;have a:=qC p a7;rw[h,qC q a7]at a;exact(Lb (gX a)).symm
theorem a4L(s:dh r)(w:ea r p):(p.king=255->∀(c:Nat),(bd p)[c]?≠B 75)/\(p.king≠255->p.king<169/\(bd p)[p.king]? =B 75/\∀(c:Nat),c<p.king->(bd p)[c]?≠B 75):=by
 have key:∀(c:Nat),(bd p)[c]? =B 75->p.king=c:=λc h=>by
  have a7:c<169:=by have:=(ec.mp h).1;rw[km]at this;exact this
  rw[qC p a7]at h;exact la.mp (Lb (a:=p.on c) (b:=.king) (gX h))
 refine⟨λaA c h=>?_,λaA=>?_⟩
 .have e:=key c h;have:c<169:=by have:=(ec.mp h).1;rw[km]at this;exact this
  omega
 have lt:=s.lt (w.eh.resolve_left aA);refine⟨lt,?_,λc a7 h=>?_⟩
 .rw[qC p lt,la.mpr Y];rfl
 have:=key c h;omega
def uD(l:List Nat)(b:List Nat):List Nat:=l.foldl (λb c=>b.set c 46) b
theorem Ld:∀(l b:List Nat),(uD l b).length=b.length
 |[],b=>rfl
 |c::l,b=>by show(uD l (b.set c 46)).length=_;rw[Ld l,qf]
theorem Se:∀(l b:List Nat){c:Nat},c<b.length->(uD l b)[c]? =if l.contains c=a9 then B 46 else b[c]?
 |[],b,c,_=>by simp[uD]
 |x::l,b,c,h=>by
  show(uD l (b.set x 46))[c]? =_;rw[Se l (b.set x 46) (by rw[qf];exact h),OV];by_cases aq:l.contains c=a9
  .simp only[aq,OS,jB]
  have aq:l.contains c=aJ:=by simpa using aq
  simp only[aq,ahF,qa,jA];by_cases e:c=x
  .subst e;simp[h]
  rw[A7 (λq=>e q.symm)];simp[e]
theorem a4M(w:ea r p)(s:dh r)(l:p6 r p m):bd (p.shifted m)=((bd p).set m.2 (pc (p.on m.1))).set m.1 46:=by
 obtain⟨_,_,on⟩:=Fm w s l;have iJ:=s.lt l.eG;have gx:=s.lt l.gg;refine I5 λc=>?_;by_cases a7:c<169
 .rw[qC _ a7,on];by_cases O:c=m.1
  .subst O;rw[aL (λe=>l.ne e.symm),aZ Y,I9 (by rw[qf,km];exact a7)];rfl
  rw[A7 (λe=>O e.symm)];by_cases a5:c=m.2
  .subst a5;rw[aZ Y,I9 (by rw[km];exact a7)]
  rw[aL a5,aL O,A7 (λe=>a5 e.symm),qC _ a7]
 rw[qe (by rw[km];omega),qe (by rw[qf,qf,km];omega)]
theorem a4N(w:ea r p)(s:dh r)(l:p6 r p m):bd (r.comes p m)=uD (r.takes p m) (bd (p.shifted m)):=by
 obtain⟨_,_,on⟩:=Fn w s l;refine I5 λc=>?_;by_cases a7:c<169
 .rw[qC _ a7,on c (by omega),Se _ _ (by rw[km];exact a7),qC _ a7];split<;>rfl
 rw[qe (by rw[km];omega),qe (by rw[Ld,km];omega)]
variable{l:List (Nat×Nat)}{i:Nat}
theorem Br(l:List (Nat×Nat))(m:Nat×Nat):r.after (l++[m])=r.comes (r.after l) m:=by unfold Rules.after;rw[ZG];rfl
theorem Sf:∀(l:List (Nat×Nat))(p:Pos)(m:Nat×Nat),r.rowFrom p (l++[m])=r.rowFrom p l++[r.comes (l.foldl (λ(p:Pos)(m:Nat×Nat)=>r.comes p m) p) m]
 |[],p,m=>rfl
 |x::l,p,m=>by show p::r.rowFrom (r.comes p x) (l++[m])=p::(r.rowFrom (r.comes p x) l++[_]);rw[Sf l];rfl
theorem Fs(l:List (Nat×Nat))(m:Nat×Nat):r.row (l++[m])=r.row l++[r.after (l++[m])]:=by unfold Rules.row;rw[Sf,Br];rfl
theorem Sg:∀(l:List (Nat×Nat))(p:Pos),(r.rowFrom p l).length=l.length+1
 |[],p=>rfl
 |x::l,p=>by show(p::r.rowFrom (r.comes p x) l).length=_;rw[fQ,Sg l];rfl
theorem rE(l:List (Nat×Nat)):(r.row l).length=l.length+1:=Sg l _
theorem Sh:∀(l:List (Nat×Nat))(p:Pos)(k:Nat),k<=l.length->(r.rowFrom p l)[k]? =B ((l.take k).foldl (λ(p:Pos)(m:Nat×Nat)=>r.comes p m) p)
 |[],p,k,h=>by
  have:k=0:=by simpa using h
  subst this;rfl
 |x::l,p,0,_=>rfl
 |x::l,p,k+1,h=>by show(r.rowFrom (r.comes p x) l)[k]? =_;rw[Sh l _ k (by simpa using h)];rfl
theorem Le(h:k<=l.length):(r.row l)[k]? =B (r.after (l.take k)):=Sh l _ k h
inductive Row (r:Rules):List (Nat×Nat)->Prop
 |nil:Row r []
 |snoc {l:List (Nat×Nat)} {m:Nat×Nat}:Row r l->m∈r.moves (r.after l)->Row r (l++[m])
theorem Row.last(h:Row r l):∀{x:List (Nat×Nat)}{m:Nat×Nat},l=x++[m]->Row r x/\m∈r.moves (r.after x):=by intro x m e;cases h with|nil=>exact absurd e (by simp)|snoc O a5=>obtain⟨aO,aT⟩:=List.append_inj' e rfl;cases aT;subst aO;exact⟨O,a5⟩
theorem Row.take(h:Row r l)(k:Nat):Row r (l.take k):=by
 induction h with
 |nil=>simp;exact .nil
 |snoc O a5 ih=>
  rename_i l m
  by_cases aA:k<=l.length
  .rw[xH aA];exact ih
  rw[lB (by simp;omega)];exact .snoc O a5
theorem Row.dropLast(h:Row r l):Row r l.dropLast:=by rw[List.dropLast_eq_take];exact h.take _
theorem Row.wf(s:dh r)(ig:ea r r.begins)(h:Row r l):ea r (r.after l):=by induction h with|nil=>exact ig|snoc O a5 ih=>rw[Br];exact(Fn ih s (p7 ih s a5)).1
theorem Si(l:List (Nat×Nat))(m:Nat×Nat)(h:i<l.length):qj r (l++[m]) i=qj r l i:=by
 unfold qj;rw[xH (by omega),xH (by omega)];have e:(l++[m]).getD i (0,0)=l.getD i (0,0):=by simp[A4,kV h]
 rw[e]
theorem Sj(l:List (Nat×Nat))(m:Nat×Nat):qj r (l++[m]) l.length=m.1::m.2::r.overBy (l++[m])::r.takes (r.after l) m:=by
 unfold qj;have e:(l++[m]).getD l.length (0,0)=m:=by simp[A4]
 rw[e,lB (by simp),xH (cO _),j8]
theorem rF{q:Nat×Nat}:q∈r.cells↔q.1<r.wide/\q.2<r.high:=by
 unfold Rules.cells cellsOf;rw[A9];constructor
 .rintro⟨y,bl,h⟩;obtain⟨x,ag,rfl⟩:=fA.mp h;exact⟨fR.mp ag,fR.mp bl⟩
 rintro⟨O,a5⟩;exact⟨q.2,fR.mpr a5,fA.mpr ⟨q.1,fR.mpr O,Y⟩⟩
theorem pW{q:Nat×Nat}:q∈r.asWritten↔q.1<r.wide/\q.2<r.high:=by
 unfold ajK;rw[A9];constructor
 .rintro⟨i,hi,h⟩;obtain⟨x,ag,rfl⟩:=fA.mp h;have:=fR.mp hi;exact⟨fR.mp ag,by dsimp only;omega⟩
 rintro⟨O,a5⟩;refine⟨r.high-1-q.2,fR.mpr (by omega),fA.mpr ⟨q.1,fR.mpr O,?_⟩⟩;have:r.high-1-(r.high-1-q.2)=q.2:=by omega
 rw[this]
def o6(r:Rules)(c:Nat):kZ:=r.piece (c%13) (c/13)
theorem uE(s:dh r){x y:Nat}(ag:x<r.wide):cellOf x y%13=x/\cellOf x y/13=y:=by have:=s.p5;unfold cellOf mh;omega
theorem Sk(s:dh r)(q:kZ)(c:Nat):(pE ((r.cells.map λ(z:Nat×Nat)=>(r.piece z.1 z.2,cellOf z.1 z.2)).filterMap λ(x:kZ×Nat)=>if x.1=q then B x.2 else aa)).testBit c=decide (Cell r c/\o6 r c=q):=by
 rw[Fg];apply Ef.mpr;rw[vE];constructor
 .rintro⟨x,ag,h⟩;obtain⟨z,aR,rfl⟩:=fA.mp ag;obtain⟨hC,_⟩:=rF.mp aR;dsimp only at h;split at h
  .rename_i e
   cases h;obtain⟨aO,aT⟩:=uE s (y:=z.2) hC;refine⟨kj.mpr (by omega),?_⟩;unfold o6;rw[aO,aT];exact e
  cases h
 rintro⟨O,a5⟩;obtain⟨eG,gg⟩:=kj.mp O;refine⟨(r.piece (c%13) (c/13),cellOf (c%13) (c/13)),fA.mpr ⟨(c%13,c/13),rF.mpr ⟨eG,gg⟩,Y⟩,?_⟩;have e:cellOf (c%13) (c/13)=c:=by unfold cellOf mh;omega
 dsimp only;rw[e];exact aZ a5
structure Lf (r:Rules) (k:Nat):Prop where
 cell:Cell r k
 at_:o6 r k=.king
 only:∀c,Cell r c->o6 r c=.king->c=k
theorem a4O(s:dh r)(o:Lf r k):r.begins.king=k:=by unfold Rules.begins;dsimp only;cases e:(r.cells.map λ(q:Nat×Nat)=>(r.piece q.1 q.2,cellOf q.1 q.2)).find? λ(x:kZ×Nat)=>x.1== .king with|none=>exfalso;have h:=xE.mp e;obtain⟨eG,gg⟩:=kj.mp o.cell;have:=h (r.piece (k%13) (k/13),cellOf (k%13) (k/13)) (fA.mpr ⟨(k%13,k/13),rF.mpr ⟨eG,gg⟩,Y⟩);have a:=o.at_;unfold o6 at a;simp[a]at this|some x=>have O:=OY e;have a5:=DD e;obtain⟨z,aR,rfl⟩:=fA.mp a5;obtain⟨hC,_⟩:=rF.mp aR;obtain⟨aO,aT⟩:=uE s (y:=z.2) hC;show cellOf z.1 z.2=k;refine o.only _ (kj.mpr (by omega)) ?_;unfold o6;rw[aO,aT];simpa using O
theorem Ft(s:dh r)(o:Lf r k)(hf:r.first<=1):ea r r.begins/\r.begins.side=r.first/\r.begins.king=k/\∀c,Cell r c->r.begins.on c=o6 r c:=by
 have aA:=a4O s o;have a0:∀c,r.begins.hunters.testBit c=decide (Cell r c/\o6 r c=.hunter):=λc=>Sk s .hunter c;have kc:∀c,r.begins.men.testBit c=decide (Cell r c/\o6 r c=.man):=λc=>Sk s .man c;refine⟨⟨λc h=>?_,λc h=>?_,?_,λc h=>?_,?_,?_,hf⟩,Y,aA,λc a7=>?_⟩
 .rw[a0]at h;exact(e3 h).1
 .rw[kc]at h;exact(e3 h).1
 .rw[aA];exact .inr o.cell
 .rw[a0]at h;rw[kc];apply gP;rw[(e3 h).2];simp
 .rw[aA,a0];apply gP;rw[o.at_];simp
 .rw[aA,kc];apply gP;rw[o.at_];simp
 unfold y3;rw[aA,a0,kc];by_cases e:k=c
 .subst e;rw[aZ Y,o.at_]
 rw[aL e];cases z:o6 r c with|none=>simp[a7]|hunter=>simp[a7]|man=>simp[a7]|king=>exact absurd (o.only c a7 z).symm e
variable{bu hp:Type}
theorem dI{Fu:Type}{m:Except Fu bu}{f:bu->Except Fu hp}{b:hp}(h:(m>>=f)=.ok b):∃a,m=.ok a/\f a=.ok b:=by cases m with|error e=>cases h|ok a=>exact⟨a,rfl,h⟩
theorem Fv{c e4:eP}(eZ:hi<100000)(h:ua lo hi c=.ok (d,e4)):lo<=d/\d<=hi:=by
 have key:∀(f d0:Nat)(c:eP),d0*10^f<1000000*10∨True->y8 lo hi f d0 c=.ok (d,e4)->f≠0->(lo<=d/\d<=hi)∨(∃eG,y8 lo hi 0 d eG=.ok (d,e4)/\10^(f-1)*(if d0=0 then 1 else d0*10)<=d/\d<=hi):=by
  intro f;induction f with
  |zero=>intro d0 c _ _ h;exact absurd Y h
  |succ f ih=>
   intro d0 c _ h _;cases hm:more lo hi d0 c with
   |none=>
    rw[Sb hm]at h;split at h
    .rename_i a0
     have e:(d0,c)=(d,e4):=qc h;cases e;exact .inl a0
    cases h
   |some e=>
    rw[Sa hm]at h;have aF:0<e/\e<=hi/\e≥10*d0:=by
     unfold more at hm;split at hm
     .split at hm
      .rename_i ag
       have:=S9 ag.2;cases hm;omega
      cases hm
     cases hm
    cases f with
    |zero=>have aT:(e,kl c 1)=(d,e4):=qc h;cases aT;refine .inr ⟨kl c 1,Y,?_,aF.2.1⟩;simp;split<;>omega
    |succ f=>
     obtain z|⟨eG,hC,g0,Fw⟩:=ih e (kl c 1) (.inr trivial) h (by omega)
     .exact .inl z
     refine .inr ⟨eG,hC,?_,Fw⟩;have:¬e=0:=by omega
     rw[aL this]at g0;have p:10^(f+1+1-1)=10^(f+1-1)*10:=by simp[Z_]
     rw[p];refine dC ?_ g0;rw[ZY];refine Nat.mul_le_mul_left _ ?_;split<;>omega
 obtain z|⟨eG,_,z,g0⟩:=key 6 0 c (.inr trivial) h (by decide)
 .exact z
 simp at z;omega
theorem Sl:∀(f:Nat)(l:List (Nat×aS))(c:eP){i n:Nat}{e4:eP},(∀w∈l,w.1<n)->IX f l c=.ok (i,e4)->i<n
 |0,l,c,i,n,e4,_,h=>by cases h
 |f+1,l,c,i,n,e4,aq,h=>by
  unfold IX at h;split at h
  .rename_i w hw
   have e:(w.1,c)=(i,e4):=qc h;cases e;exact aq w (DD hw)
  split at h
  .cases h
  dsimp only at h;split at h
  .cases h
  refine Sl f _ _ (λw hw=>?_) h;obtain⟨u,bz,e⟩:=vE.mp hw;split at e
  .cases e;exact aq u bz
  cases e
theorem yP{l:List String}{c e4:eP}(h:mX l c=.ok (i,e4)):i<l.length:=by unfold mX at h;refine Sl _ _ _ (λw hw=>?_) h;obtain⟨j,bX,rfl⟩:=fA.mp hw;exact fR.mp bX
theorem Sm{bu:Type}{ei:UInt8->Option bu}:∀(n:Nat)(c:eP){l:List bu}{e4:eP},nJ ei n c=.ok (l,e4)->l.length=n/\e4.at_=c.at_+n+1
 |0,c,l,e4,h=>by
  unfold nJ at h;rw[Fq]at h;split at h
  .have e:(([]:List bu),kl c [kY].length)=(l,e4):=qc h;cases e;exact⟨Y,Y⟩
  cases h
 |n+1,c,l,e4,h=>by
  unfold nJ at h;cases aA:c.next.bind ei with
  |none=>rw[aA]at h;cases h
  |some k=>rw[aA]at h;dsimp only at h;cases ah:nJ ei n c.on with|error e=>rw[ah]at h;cases h|ok z=>rw[ah]at h;have e:(k::z.1,z.2)=(l,e4):=qc h;obtain⟨_,_⟩:=z;cases e;obtain⟨a,b⟩:=Sm n c.on ah;refine⟨by simp[a],?_⟩;rw[b];show c.at_+1+n+1=_;omega
theorem Bs{bu:Type}{ei:UInt8->Option bu}{w:Nat}:∀(n:Nat)(c:eP){l:List (List bu)}{aK:List Nat}{e4:eP},oD ei w n c=.ok (l,aK,e4)->l.length=n/\aK=(eA n).map (λi=>c.at_+i*(w+1))/\(∀x∈l,x.length=w)/\e4.at_=c.at_+n*(w+1)
 |0,c,l,aK,e4,h=>by have e:(([]:List (List bu)),([]:List Nat),c)=(l,aK,e4):=qc h;cases e;simp
 |n+1,c,l,aK,e4,h=>by
  unfold oD at h;obtain⟨⟨cv,d⟩,O,h⟩:=dI h;obtain⟨⟨iJ,a4P,aO⟩,a5,h⟩:=dI h;have e:(cv::iJ,c.at_::a4P,aO)=(l,aK,e4):=qc h;cases e;obtain⟨et,eM⟩:=Sm _ _ O;obtain⟨b1,b2,lS,wz⟩:=Bs n d a5;refine⟨by simp[b1],?_,λx ag=>?_,?_⟩
  .rw[ZR,i9,ix,b2];congr 1
   .simp
   refine tT λi _=>?_;show d.at_+i*(w+1)=c.at_+(i+1)*(w+1);rw[eM,Ig];omega
  .obtain rfl|ag:=dx.mp ag
   .exact et
   exact lS x ag
  rw[wz,eM,Ig];omega
structure h3 (r:Rules):Prop where
 b_:dh r
 gl:r.ground.length=r.high
 Sn:∀x∈r.ground,x.length=r.wide
 aV:r.start.length=r.high
 Lg:∀x∈r.start,x.length=r.wide
 ga:∃a,r.groundAt=(eA r.high).map λi=>a+i*(r.wide+1)
 nX:∃a,r.startAt=(eA r.high).map λi=>a+i*(r.wide+1)
 f2:r.first<2
 s4:r.seat<4
 mx:r.exits<4
 g2:r.goal<2
 t3:r.thrice<3
 iJ:1<=r.limit
 ak9:r.limit<=60000
variable{b:aS}
theorem Lh(h:pD b=.ok r):h3 r:=by
 unfold pD at h;obtain⟨_,_,h⟩:=dI h;obtain⟨⟨n,_⟩,_,h⟩:=dI h;obtain⟨_,_,h⟩:=dI h;obtain⟨⟨w,_⟩,hw,h⟩:=dI h;obtain⟨_,_,h⟩:=dI h;obtain⟨⟨_,_⟩,So,h⟩:=dI h;obtain⟨_,_,h⟩:=dI h;obtain⟨⟨g,_,_⟩,aI,h⟩:=dI h;obtain⟨_,_,h⟩:=dI h;obtain⟨⟨_,_,_⟩,ax,h⟩:=dI h;obtain⟨_,_,h⟩:=dI h;obtain⟨⟨f,_⟩,hf,h⟩:=dI h;obtain⟨_,_,h⟩:=dI h;obtain⟨⟨_,_⟩,_,h⟩:=dI h;obtain⟨_,_,h⟩:=dI h;obtain⟨⟨_,_⟩,_,h⟩:=dI h;obtain⟨_,_,h⟩:=dI h;obtain⟨⟨_,_⟩,_,h⟩:=dI h;obtain⟨_,_,h⟩:=dI h;obtain⟨⟨_,_⟩,_,h⟩:=dI h;obtain⟨_,_,h⟩:=dI h;obtain⟨⟨_,_⟩,mv,h⟩:=dI h;obtain⟨_,_,h⟩:=dI h;obtain⟨⟨x,_⟩,ag,h⟩:=dI h;obtain⟨_,_,h⟩:=dI h;obtain⟨⟨o,_⟩,aU,h⟩:=dI h;obtain⟨_,_,h⟩:=dI h;obtain⟨⟨t,_⟩,ba,h⟩:=dI h;obtain⟨_,_,h⟩:=dI h;obtain⟨⟨l,_⟩,aq,h⟩:=dI h;obtain⟨_,_,h⟩:=dI h;split at h
 .have e:=qc h;subst e;obtain⟨lG,oI⟩:=Fv (by decide) hw;obtain⟨O,a5⟩:=Fv (by decide) So;obtain⟨iJ,gx⟩:=Fv (by decide) aq;obtain⟨jr,g2,lU,_⟩:=Bs _ _ aI;obtain⟨gK,nh,t3,_⟩:=Bs _ _ ax;exact⟨⟨lG,oI,O,a5⟩,jr,lU,gK,t3,⟨_,g2⟩,⟨_,nh⟩,yP hf,yP mv,yP ag,yP aU,yP ba,iJ,gx⟩
 cases h
def kn(a b:Nat×Nat):Prop:=a.2<b.2∨(a.2=b.2/\a.1<=b.1)
variable{a:Nat×Nat}
theorem Sp{b:Nat×Nat}:Eb a b=a9↔kn a b:=by unfold Eb kn;simp
theorem a5b(a:Nat×Nat):kn a a:=.inr ⟨Y,cO _⟩
theorem kn.trans{b c:Nat×Nat}(h:kn a b)(h':kn b c):kn a c:=by unfold kn at*;omega
theorem a5c{b:Nat×Nat}(h:¬kn a b):kn b a:=by unfold kn at*;omega
theorem kn.antisymm{b:Nat×Nat}(h:kn a b)(h':kn b a):a=b:=by
 unfold kn at*;obtain⟨et,eM⟩:=a;obtain⟨b1,b2⟩:=b;simp only at*;have:et=b1/\eM=b2:=by omega
 rw[this.1,this.2]
def Lk(m:Option (Nat×Nat))(x:Nat×Nat):Option (Nat×Nat):=match m with
 |some y=>if Eb y x=a9 then B y else B x
 |none=>B x
theorem Sq:∀(l:List (Nat×Nat))(m:Nat×Nat),∃f,l.foldl Lk (B m)=B f/\f∈m::l/\∀x∈m::l,kn f x
 |[],m=>⟨m,Y,by simp,λx ag=>by
  have:x=m:=by simpa using ag
  rw[this];exact a5b m⟩
 |y::l,m=>by
  have e:Lk (B m) y=B (if Eb m y=a9 then m else y):=by unfold Lk;dsimp only;cases Eb m y<;>rfl
  rw[vB,e];obtain⟨f,O,a5,aG⟩:=Sq l (if Eb m y=a9 then m else y);refine⟨f,O,?_,λx ag=>?_⟩
  .obtain h|h:=dx.mp a5
   .split at h
    .rw[h];simp
    rw[h];simp
   exact ez _ (ez _ h)
  have hf:=aG _ iy;obtain h|h:=dx.mp ag
  .subst h;split at hf
   .exact hf
   rename_i ax
   exact hf.trans (a5c λz=>ax (Sp.mpr z))
  obtain h|h:=dx.mp h
  .subst h;split at hf
   .rename_i ax
    exact hf.trans (Sp.mp ax)
   exact hf
  exact aG x (ez _ h)
theorem Sr(m:Nat×Nat)(l:List (Nat×Nat)):∃f,firstOf (m::l)=B f/\f∈m::l/\∀x∈m::l,kn f x:=Sq l m
theorem a5d{f:Nat×Nat}(h:f∈l)(h':∀x∈l,kn f x):firstOf l=B f:=by cases l with|nil=>cases h|cons m l=>obtain⟨g,e,jr,g2⟩:=Sr m l;rw[e,(h' g jr).antisymm (g2 f h)]
theorem a5e(aI:pD b=.ok r){f:Nat×Nat}(h:f∈ri b.length r)(h':∀x∈ri b.length r,kn f x):mi b=.error f:=by unfold mi;rw[aI];dsimp only;rw[a5d h h']
theorem a5f(aI:pD b=.ok r)(h:ri b.length r=[]):mi b=.ok r:=by unfold mi;rw[aI];dsimp only;rw[h];rfl
theorem a5g{p:Nat}(aI:pD b=.error p):mi b=.error (1,p):=by unfold mi;rw[aI]
structure Right (r:Rules):Prop where
 g:h3 r
 king:∃k,Lf r k
theorem right_of(g:h3 r)(h:ri n r=[]):Right r:=by
 refine⟨g,?_⟩;unfold ri at h;simp only[List.append_eq_nil_iff,List.map_eq_nil_iff]at h;obtain⟨_,_,cG,_,iH⟩:=h;have aA:r.kings≠[]:=by intro e;rw[aZ (.inl e)]at iH;cases iH
 obtain⟨q,l,e⟩:=ZC aA;rw[e]at cG;have:l=[]:=cG;subst this;have aQ:q∈r.kings:=by rw[e];simp
 unfold PJ at aQ;obtain⟨a5h,a5i⟩:=j7.mp aQ;obtain⟨bx,_⟩:=pW.mp a5h;obtain⟨aO,aT⟩:=uE g.b_ (y:=q.2) bx;refine⟨cellOf q.1 q.2,kj.mpr (by omega),?_,λc a7 hf=>?_⟩
 .unfold o6;rw[aO,aT];simpa using a5i
 obtain⟨eG,gg⟩:=kj.mp a7;have m:(c%13,c/13)∈r.kings:=by unfold PJ;exact j7.mpr ⟨pW.mpr ⟨eG,gg⟩,by unfold o6 at hf;simp[hf]⟩
 rw[e]at m;have m:(c%13,c/13)=q:=by simpa using m
 rw[<-m];unfold cellOf mh;dsimp only;omega
theorem judge_ok(h:mi b=.ok r):Right r:=by
 unfold mi at h;cases aI:pD b with
 |error p=>rw[aI]at h;cases h
 |ok z=>rw[aI]at h;dsimp only at h;cases hw:ri b.length z with|nil=>rw[hw]at h;have e:z=r:=qc h;subst e;exact right_of (Lh aI) hw|cons m l=>obtain⟨f,e,_⟩:=Sr m l;rw[hw,e]at h;cases h
def zs(b:aS):List Int:=b.map λc=>((c.toNat:Nat):Int)
theorem Ll(b:aS):(zs b).length=b.length:=by simp[zs]
theorem Bt{t:List Int}(h:(t.all λ(z:Int)=>decide (0<=z)&&decide (z<=255))=a9):∃b,t=zs b/\text? t=B b:=by
 refine⟨t.map λ(n:Int)=>mY n.toNat,?_,?_⟩
 .unfold zs;rw[ix];conv=>lhs;rw[<-ZM t]
  refine tT λz aR=>?_;have aR:=xC.mp h z aR;rw[i8]at aR;have b9:=e3 aR.1;have O:=e3 aR.2;show z=(((mY z.toNat).toNat:Nat):Int);rw[UInt8.toNat_ofNat_of_lt' (by show z.toNat<256;omega)];omega
 unfold text? NeutralIO.bytes;rw[aZ h]
inductive Means:List (List Int)->Ec->Prop
 |begin_ (t:aS):Means [[0],zs t] (.begin_ t)
 |move (x y:Nat):Means [[1,x,y]] (.move x y)
 |say (t:aS):Means [[2],zs t] (.say t)
 |end_ (h:Nat):Means [[3,h]] (.end_ h)
 |back:Means [[4]] .back
 |now:Means [[5]] .now
 |at_ (k:Nat):Means [[6,k]] (.at_ k)
 |made (k:Nat):Means [[7,k]] (.made k)
 |text (h g:aS):Means [[8],zs h,zs g] (.text h g)
 |read (t:aS):Means [[9],zs t] (.read t)
theorem Bu{z:Int}(h:(decide (0<=z))=a9):∃n:Nat,z=n/\nat? z=B n:=by have h:=e3 h;refine⟨z.toNat,by omega,?_⟩;unfold nat?;rw[aZ h]
theorem a5j{c:List (List Int)}(h:a15 c=a9):∃x,Means c x/\vU c=B x:=by
 unfold a15 at h;split at h
 .obtain⟨b,rfl,e⟩:=Bt h;exact⟨_,.begin_ b,by simp[vU,e]⟩
 .rw[i8]at h;obtain⟨n,rfl,aO⟩:=Bu h.1;obtain⟨m,rfl,aT⟩:=Bu h.2;exact⟨_,.move n m,by simp[vU,aO,aT]⟩
 .obtain⟨b,rfl,e⟩:=Bt h;exact⟨_,.say b,by simp[vU,e]⟩
 .obtain⟨n,rfl,aO⟩:=Bu h;exact⟨_,.end_ n,by simp[vU,aO]⟩
 .exact⟨_,.back,Y⟩
 .exact⟨_,.now,Y⟩
 .obtain⟨n,rfl,aO⟩:=Bu h;exact⟨_,.at_ n,by simp[vU,aO]⟩
 .obtain⟨n,rfl,aO⟩:=Bu h;exact⟨_,.made n,by simp[vU,aO]⟩
 .rw[i8]at h;obtain⟨b,rfl,aO⟩:=Bt h.1;obtain⟨g,rfl,aT⟩:=Bt h.2;exact⟨_,.text b g,by simp[vU,aO,aT]⟩
 .obtain⟨b,rfl,e⟩:=Bt h;exact⟨_,.read b,by simp[vU,e]⟩
 cases h
theorem a5k:∀c,PE c=c:=by intro c;unfold PE;split<;>rfl
def tell(s:ja):List Ec->List Int
 |[]=>[]
 |x::l=>let r:=fk s x
  ((r.2.nums.length:Int)::r.2.nums)++tell r.1 l
structure a5l (l:List Int) (c2:List (List (List Int))) (xs:List Ec):Prop where
 put:l=hY c2
 len:c2.length=xs.length
 means:∀(i:Nat) c x,c2[i]? =B c->xs[i]? =B x->Means c x
 most:c2.length<=60
 bytes:c2.foldl (λ(n:Nat)(c:List (List Int))=>n+ajT c) 0<=1500
 Ss:PD l=tell vT xs
theorem Su:∀(c2:List (List (List Int)))(s:ja),(∀c∈c2,a15 c=a9)->∃xs,c2.length=xs.length/\(∀(i:Nat) c x,c2[i]? =B c->xs[i]? =B x->Means c x)/\a02 (aim Ed s c2)=tell s xs
 |[],s,_=>⟨[],Y,λi c x h=>by simp at h,Y⟩
 |c::c2,s,h=>by
  obtain⟨x,ag,a7⟩:=a5j (h c iy);have e:Ed s c=((fk s x).1,(fk s x).2.nums):=by unfold Ed;rw[a7]
  obtain⟨xs,l,m,t⟩:=Su c2 (fk s x).1 λc a7=>h c (ez _ a7);refine⟨x::xs,by simp[l],λi e4 eN O a5=>?_,?_⟩
  .cases i with|zero=>simp at O a5;subst O;subst a5;exact ag|succ i=>exact m i e4 eN (by simpa using O) (by simpa using a5)
  show a02 ((Ed s c).2::aim Ed (Ed s c).1 c2)=_;rw[e];show(((fk s x).2.nums.length:Int)::(fk s x).2.nums)++a02 _=_;rw[t];rfl
theorem a5m{l:List Int}(h:IL l=a9):∃c2 xs,a5l l c2 xs:=by
 unfold IL at h;cases a7:a0X l with
 |none=>rw[a7]at h;cases h
 |some c2=>
  rw[a7]at h;dsimp only at h;rw[i8,i8]at h;have bf:=h.1.2;unfold alZ at bf;rw[i8,i8,i8]at bf;obtain⟨_,Sv,a0,lR⟩:=bf;have lR:=xC.mp lR;obtain⟨xs,O,a5,aG⟩:=Su c2 vT lR;refine⟨c2,xs,?_,O,a5,e3 Sv,e3 a0,?_⟩
  .unfold a0X at a7;cases aR:PyFlat.calls PyWqacdb.shape l.length l with
   |none=>rw[aR]at a7;cases a7
   |some z=>
    rw[aR]at a7;have e:z.map PE=c2:=gX a7;have aT:z.map PE=z:=by
     conv=>rhs;rw[<-ZM z]
     exact tT λc _=>a5k c
    rw[aT]at e;subst e;exact(PyFlat.put_calls _ _ _ aR).1
  unfold PD;rw[a7];exact aG
theorem Sw:∀(i:Nat)(b w:aS),i<=b.length->i<=w.length->b.take i=w.take i->cc b w=i+cc (b.drop i) (w.drop i)
 |0,b,w,_,_,_=>by simp
 |i+1,[],w,h,_,_=>by simp at h
 |i+1,_::_,[],_,h,_=>by simp at h
 |i+1,x::b,y::w,O,a5,e=>by simp only[ZS,ZA]at e;obtain⟨rfl,e⟩:=e;rw[iK,aZ Y,Sw i b w (by simpa using O) (by simpa using a5) e];simp only[OX];omega
theorem Fx{w:aS}(h:i<=b.length)(h':i<=w.length)(e:b.take i=w.take i)(ax:∀x y,b[i]? =B x->w[i]? =B y->x≠y):cc b w=i:=by
 rw[Sw i b w h h' e];suffices cc (b.drop i) (w.drop i)=0 by omega
 cases a0:b.drop i with
 |nil=>rw[qB]
 |cons x r=>
  cases hw:w.drop i with
  |nil=>rfl
  |cons y t=>
   rw[iK,aL];refine ax x y ?_ ?_
   .have:(b.drop i)[0]? =B x:=by rw[a0];rfl
    simpa using this
   have:(w.drop i)[0]? =B y:=by rw[hw];rfl
   simpa using this
theorem Sx{w:aS}{x:UInt8}(e:b.take i=w.take i)(O:b[i]? =B x)(a5:w[i]? =B x):b.take (i+1)=w.take (i+1):=by rw[tU,tU,e,O,a5]
def hG(b:aS)(n:Nat):eP:=⟨b.drop n,n⟩
theorem Sy(b:aS)(n:Nat):(hG b n).next=b[n]?:=by unfold hG a0Y;simp
theorem a5n(b:aS)(n:Nat):(hG b n).on=hG b (n+1):=by unfold hG Cur.on;simp only[Dy]
variable{fE:List Nat}
section
variable{ei:UInt8->Option bu}
def yT(ei:UInt8->Option bu)(b:aS)(m x:Nat)(l:List bu):Prop:=l.length=x/\∀y,nJ ei (x+y) (hG b m)=(nJ ei y (hG b (m+x))).map λr=>(l++r.1,r.2)
theorem a5o{Fu:Type}(z:Except Fu (List bu×hp)):z.map (λr=>(([]:List bu)++r.1,r.2))=z:=by cases z with|error e=>rfl|ok r=>obtain⟨_,_⟩:=r;rfl
theorem a5p(m:Nat):yT ei b m 0 []:=⟨Y,λy=>by rw[a00,DG];exact(a5o _).symm⟩
theorem a5q{m x:Nat}{l:List bu}(R:yT ei b m x l){c:UInt8}{k:bu}(a7:b[m+x]? =B c)(aA:ei c=B k):yT ei b m (x+1) (l++[k]):=by
 refine⟨by rw[df,R.1];rfl,λy=>?_⟩;rw[show x+1+y=x+(y+1) by omega,R.2 (y+1)];conv=>lhs;unfold nJ
 rw[Sy,a7];show ahJ _ (match ei c with|some k=>_|none=>_)=_;rw[aA];dsimp only;rw[a5n,show m+x+1=m+(x+1) by omega];cases nJ ei y (hG b (m+(x+1)))with|error e=>rfl|ok r=>show xB _=xB _;simp
theorem a5r{m x:Nat}{l:List bu}(R:yT ei b m x l)(h:b[m+x]?.bind ei=aa)(y:Nat):nJ ei (x+(y+1)) (hG b m)=.error (m+x):=by
 rw[R.2 (y+1)];conv=>lhs;unfold nJ
 rw[Sy,h];rfl
theorem Sz{m x:Nat}{l:List bu}(R:yT ei b m x l):nJ ei x (hG b m)=(eu [kY] (hG b (m+x))).map λd=>(l,d):=by have:=R.2 0;rw[DG]at this;rw[this];unfold nJ;cases eu [kY] (hG b (m+x))with|error e=>rfl|ok d=>show xB _=xB _;simp
def yU(ei:UInt8->Option bu)(wide:Nat)(b:aS)(n i:Nat)(cH:List (List bu))(fE:List Nat)(m:Nat):Prop:=
 cH.length=i/\fE.length=i/\(∀r∈cH,r.length=wide)/\∀j,oD ei wide (i+j) (hG b n)=(oD ei wide j (hG b m)).map λr=>(cH++r.1,fE++r.2.1,r.2.2)
theorem a5s(wide n:Nat):yU ei wide b n 0 [] [] n:=⟨Y,Y,(λr (h:r∈([]:List (List bu)))=>nomatch h),λj=>by rw[a00];cases oD ei wide j (hG b n)with|error e=>rfl|ok r=>rfl⟩
theorem a5t{wide m m':Nat}{cH:List (List bu)}(R:yU ei wide b n i cH fE m){r:List bu}(ah:nJ ei wide (hG b m)=.ok (r,hG b m'))(aq:r.length=wide):yU ei wide b n (i+1) (cH++[r]) (fE++[m]) m':=by
 obtain⟨O,a5,aG,cG⟩:=R;refine⟨by rw[df,O];rfl,by rw[df,a5];rfl,λq aQ=>?_,λj=>?_⟩
 .obtain h|h:=kv.mp aQ
  .exact aG q h
  rw[jL.mp h];exact aq
 rw[show i+1+j=i+(j+1) by omega,cG (j+1)];conv=>lhs;unfold oD
 rw[ah];show ahJ _ (ahH (oD ei wide j (hG b m')) _)=_;cases oD ei wide j (hG b m')with|error e=>rfl|ok z=>show xB _=xB _;simp[hG]
theorem SA{wide m:Nat}{cH:List (List bu)}(R:yU ei wide b n i cH fE m)(ah:nJ ei wide (hG b m)=.error k)(j:Nat):oD ei wide (i+(j+1)) (hG b n)=.error k:=by
 rw[R.2.2.2 (j+1)];conv=>lhs;unfold oD
 rw[ah];rfl
theorem a5u{wide m:Nat}{cH:List (List bu)}(R:yU ei wide b n i cH fE m):oD ei wide i (hG b n)=.ok (cH,fE,hG b m):=by have:=R.2.2.2 0;rw[DG]at this;rw[this];show xB _=xB _;simp
end
theorem Lm(l m:List bu)(d:bu)(h:i<l.length):(l++m).getD i d=l.getD i d:=by rw[tQ,tQ,kV h]
abbrev h4:=Nat×Nat×Nat
theorem Bv{bu hp:Type}{f g:bu->Option hp}:∀{l:List bu},(∀x∈l,f x=g x)->l.filterMap f=l.filterMap g
 |[],_=>rfl
 |x::l,h=>by rw[vA,vA,h x (by simp),Bv λy bl=>h y (ez _ bl)]
theorem Ln{bu hp:Type}{f g:bu->List hp}:∀{l:List bu},(∀x∈l,f x=g x)->l.flatMap f=l.flatMap g
 |[],_=>rfl
 |x::l,h=>by rw[mO,mO,h x (by simp),Ln λy bl=>h y (ez _ bl)]
section
variable{bu:Type}(d5:bu->Nat)(d:bu)
def Fy(high i p:Nat)(row:List bu)(x:Nat):Option h4:=if d5 (row.getD x d)=46 then aa else B (13*(high-1-i)+x,d5 (row.getD x d),p+x)
def qD(high i p:Nat)(row:List bu):List h4:=(eA row.length).filterMap (Fy d5 d high i p row)
theorem a5v(high i p:Nat)(row:List bu)(k:bu):qD d5 d high i p (row++[k])=qD d5 d high i p row++(if d5 k=46 then[]else[(13*(high-1-i)+row.length,d5 k,p+row.length)]):=by
 unfold qD;rw[df,gu,xG,ahR];congr 1
 .refine Bv λx ag=>?_;have ag:=fR.mp ag;unfold Fy;rw[Lm _ _ _ ag]
 have e:(row++[k]).getD row.length d=k:=by simp
 unfold Fy;rw[vA,ahS,e];by_cases z:d5 k=46
 .rw[aZ z,aZ z]
 rw[aL z,aL z]
def kK(high:Nat)(cH:List (List bu))(fE:List Nat):List h4:=(eA cH.length).flatMap λi=>qD d5 d high i (fE.getD i 0) (cH.getD i [])
theorem a5w(high:Nat)(cH:List (List bu))(fE:List Nat)(r:List bu)(p:Nat)(h:fE.length=cH.length):kK d5 d high (cH++[r]) (fE++[p])=kK d5 d high cH fE++qD d5 d high cH.length p r:=by
 unfold kK;rw[df,gu,xG,A3];congr 1
 .refine Ln λi hi=>?_;have hi:=fR.mp hi;rw[Lm _ _ _ hi,Lm _ _ _ (by omega)]
 have aO:(cH++[r]).getD cH.length []=r:=by simp
 have aT:(fE++[p]).getD cH.length 0=p:=by rw[<-h];simp
 rw[mO,OZ,hN,aO,aT]
theorem Lo{cH:List (List bu)}{wide high:Nat}(aq:cH.length=high)(hw:∀r∈cH,r.length=wide):kK d5 d high cH fE=((eA high).flatMap λ(i:Nat)=>(eA wide).map λ(x:Nat)=>(x,high-1-i)).filterMap λ(q:Nat×Nat)=>if d5 (at_ d cH high q.1 q.2)=46 then aa else B (cellOf q.1 q.2,d5 (at_ d cH high q.1 q.2),fE.getD (high-1-q.2) 0+q.1):=by
 unfold kK;rw[List.filterMap_flatMap,aq];refine Ln λi hi=>?_;have hi:=fR.mp hi;have ah:(cH.getD i []).length=wide:=by rw[tQ,f7 (by omega)];exact hw _ (ahY ..)
 unfold qD;rw[ah,List.filterMap_map];refine Bv λx _=>?_;unfold Fy at_ cellOf mh;show _=if _ then _ else _
 dsimp only;rw[show high-1-(high-1-i)=i by omega]
end
def laid(cz:List h4):List Nat:=cz.foldl (λl m=>l.set m.1 m.2.1) (hO 169 46)
theorem Lp:∀(cz:List h4)(l:List Nat){c:Nat},c<l.length->(∀m∈cz,m.1≠c)->(cz.foldl (λl m=>l.set m.1 m.2.1) l)[c]? =l[c]?
 |[],_,_,_,_=>rfl
 |m::cz,l,c,h,aH=>by rw[vB,Lp cz _ (by rw[qf];exact h) λx ag=>aH x (ez _ ag),A7 (aH m (by simp))]
theorem SD:∀(cz:List h4)(l:List Nat){c s p:Nat},c<l.length->(c,s,p)∈cz->cz.Pairwise (λa b=>a.1≠b.1)->(cz.foldl (λl m=>l.set m.1 m.2.1) l)[c]? =B s
 |[],_,_,_,_,_,hm,_=>nomatch hm
 |m::cz,l,c,s,p,h,hm,ar=>by
  rw[vB];rw[DF]at ar;obtain rfl|hm:=dx.mp hm
  .rw[Lp cz _ (by rw[qf];exact h) λx ag=>ed (ar.1 x ag)];simp[h]
  exact SD cz _ (by rw[qf];exact h) hm ar.2
def o7(r:Rules):List h4:=kK eh E6 r.high r.ground r.groundAt
def aE(r:Rules):List h4:=kK pc E7 r.high r.start r.startAt
def Fz(r:Rules)(q:Nat×Nat):h4:=(cellOf q.1 q.2,eh (r.kind q.1 q.2),r.groundPlace q)
def qE(r:Rules)(q:Nat×Nat):h4:=(cellOf q.1 q.2,pc (r.piece q.1 q.2),r.startPlace q)
theorem FA{bu hp:Type}(f:bu->hp)(c:bu->Bool):∀l:List bu,(l.filterMap λq=>if c q=a9 then aa else B (f q))=(l.filter λq=>!c q).map f
 |[]=>rfl
 |q::l=>by
  rw[vA,qd];cases h:c q
  .simp[FA f c l]
  simp[FA f c l]
theorem SE(g:h3 r):o7 r=(r.asWritten.filter λq=>!decide (eh (r.kind q.1 q.2)=46)).map (Fz r):=by
 unfold o7;rw[Lo eh E6 g.gl g.Sn,<-FA (Fz r)];refine Bv λq _=>?_;unfold Fz Rules.kind Rules.groundPlace;by_cases h:eh (at_ E6 r.ground r.high q.1 q.2)=46
 .simp[h]
 simp[h]
theorem Lq(g:h3 r):aE r=(r.asWritten.filter λq=>!decide (pc (r.piece q.1 q.2)=46)).map (qE r):=by
 unfold aE;rw[Lo pc E7 g.aV g.Lg,<-FA (qE r)];refine Bv λq _=>?_;unfold qE Rules.piece Rules.startPlace;by_cases h:pc (at_ E7 r.start r.high q.1 q.2)=46
 .simp[h]
 simp[h]
theorem a5x(s:dh r):r.asWritten.Pairwise λa b=>cellOf a.1 a.2≠cellOf b.1 b.2:=by
 unfold ajK;rw[List.pairwise_flatMap];have hw:=s.p5;refine⟨λi _=>?_,?_⟩
 .rw[ZQ];refine al3 (fun{a b} h=>?_) ZP;unfold cellOf mh;dsimp only;omega
 refine ahN (fun{a b} bf a0 h=>?_) ZP;intro x ag y bl;obtain⟨_,jW,rfl⟩:=fA.mp ag;obtain⟨_,K3,rfl⟩:=fA.mp bl;have:=fR.mp bf;have:=fR.mp a0;have:=fR.mp jW;have:=fR.mp K3;unfold cellOf mh;dsimp only;omega
theorem dO{f:Nat×Nat->Nat}{pl:Nat×Nat->Nat}(s:dh r):laid ((r.asWritten.filter λq=>!decide (f q=46)).map λq=>(cellOf q.1 q.2,f q,pl q))=(eA 169).map λc=>if r.isCell c=a9 then f (c%13,c/13)else 46:=by
 refine I5 λc=>?_;have eS:∀(cz:List h4)(l:List Nat),(cz.foldl (λl m=>l.set m.1 m.2.1) l).length=l.length:=by intro cz;induction cz with|nil=>intro l;rfl|cons m cz ih=>intro l;rw[vB,ih,qf]
 by_cases a7:c<169
 .have e:((eA 169).map λc=>if r.isCell c=a9 then f (c%13,c/13)else 46)[c]? =B (if r.isCell c=a9 then f (c%13,c/13)else 46):=by simp[a7]
  rw[e];unfold laid;by_cases aA:r.isCell c=a9/\f (c%13,c/13)≠46
  .obtain⟨aA,hf⟩:=aA;rw[aZ aA];refine SD _ _ (p:=pl (c%13,c/13)) (by rw[DC];exact a7) ?_ ?_
   .refine fA.mpr ⟨(c%13,c/13),j7.mpr ⟨pW.mpr (kj.mp aA),by simp[hf]⟩,?_⟩;have:cellOf (c%13) (c/13)=c:=by unfold cellOf mh;omega
    dsimp only;rw[this]
   rw[ZQ];exact(a5x s).filter _
  rw[Lp _ _ (by rw[DC];exact a7)]
  .rw[ahW,aZ a7];by_cases h:r.isCell c=a9
   .rw[aZ h];have:f (c%13,c/13)=46:=Zx λz=>aA ⟨h,z⟩;rw[this]
   rw[aL h]
  intro m hm e;obtain⟨q,aQ,rfl⟩:=fA.mp hm;obtain⟨O,a5⟩:=j7.mp aQ;obtain⟨bx,_⟩:=pW.mp O;obtain⟨aO,aT⟩:=uE s (y:=q.2) bx;dsimp only at e;rw[e]at aO aT;refine aA ⟨kj.mpr (by omega),?_⟩;rw[aO,aT];simpa using a5
 rw[qe (by unfold laid;rw[eS,DC];omega),qe (by simp;omega)]
theorem a5y(g:h3 r):laid (o7 r)=e' r:=by
 rw[SE g];refine(dO (f:=λq=>eh (r.kind q.1 q.2)) (pl:=r.groundPlace) g.b_).trans ?_;unfold e';refine tT λc _=>?_;by_cases h:r.isCell c=a9
 .rw[aZ h,aZ h];unfold PI;rw[aZ h];rfl
 rw[aL h,aL h]
def gM(r:Rules):List Nat:=(eA 169).map λc=>if r.isCell c=a9 then pc (o6 r c)else 46
theorem a5z(g:h3 r):laid (aE r)=gM r:=by rw[Lq g];exact dO (f:=λq=>pc (r.piece q.1 q.2)) (pl:=r.startPlace) g.b_
theorem a5A(h:Right r):gM r=bd r.begins:=by
 obtain⟨k,o⟩:=h.king;obtain⟨w,_,_,a0⟩:=Ft h.g.b_ o (by have:=h.g.f2;omega);unfold gM bd;refine tT λc a7=>?_;have a7:=fR.mp a7;by_cases hi:r.isCell c=a9
 .rw[aZ hi,a0 c hi]
 rw[aL hi];have:r.begins.on c=.none:=Zx λz=>hi (K_ w h.g.b_ z (by omega));rw[this];rfl
def signed(s:Nat)(l:List h4):List h4:=l.filter λm=>m.2.1==s
theorem Lr{bu:Type}(a b:bu->Bool):∀l:List bu,(∀q∈l,b q=a9->a q=a9)->(l.filter a).filter b=l.filter b
 |[],_=>rfl
 |q::l,h=>by
  have ih:=Lr a b l λx ag=>h x (ez _ ag);have aQ:=h q (by simp);cases bf:a q
  .cases a0:b q
   .simp[qd,bf,a0,ih]
   rw[aQ a0]at bf;cases bf
  simp[qd,bf,ih]
theorem a5B(g:h3 r):signed 83 (o7 r)=r.seats.map (Fz r):=by
 unfold signed ajQ;rw[SE g,I7,Lr]
 .congr 1;refine I6 λq _=>?_;show((eh (r.kind q.1 q.2))==83)=_;cases r.kind q.1 q.2<;>rfl
 intro q _ h;have h:(eh (r.kind q.1 q.2)==83)=a9:=h;have h:eh (r.kind q.1 q.2)=83:=by simpa using h
 simp[h]
theorem SF(g:h3 r):signed 75 (aE r)=r.kings.map (qE r):=by
 unfold signed PJ;rw[Lq g,I7,Lr]
 .congr 1;refine I6 λq _=>?_;show((pc (r.piece q.1 q.2))==75)=_;cases r.piece q.1 q.2<;>rfl
 intro q _ h;have h:(pc (r.piece q.1 q.2)==75)=a9:=h;have h:pc (r.piece q.1 q.2)=75:=by simpa using h
 simp[h]
def yV(Ls a5C:Nat):Bool:=if a5C=75 then Ls==35||Ls==88 else Ls !=46
def qF(r:Rules)(m:h4):Bool:=yV ((e' r).getD m.1 0) m.2.1
theorem a5D(s:dh r){q:Nat×Nat}(h:q∈r.asWritten):(e' r).getD (cellOf q.1 q.2) 0=eh (r.kind q.1 q.2):=by obtain⟨bx,_⟩:=pW.mp h;obtain⟨aO,aT⟩:=uE s (y:=q.2) bx;have a7:Cell r (cellOf q.1 q.2):=kj.mpr (by omega);rw[tQ,Sd r s a7];unfold PI mh;rw[aZ a7,aO,aT];rfl
theorem a5E(g:h3 r):(aE r).filter (qF r)=(r.asWritten.filter r.misplaced).map (qE r):=by
 have hm:∀q∈r.asWritten,(pc (r.piece q.1 q.2)≠46->qF r (qE r q)=r.misplaced q)/\(pc (r.piece q.1 q.2)=46->r.misplaced q=aJ):=by
  intro q aQ;have e:qF r (qE r q)=yV (eh (r.kind q.1 q.2)) (pc (r.piece q.1 q.2)):=by unfold qF qE;dsimp only;rw[a5D g.b_ aQ]
  rw[e];unfold Rules.misplaced;cases r.piece q.1 q.2<;>cases r.kind q.1 q.2<;>simp[yV,pc,eh]
 rw[Lq g,I7];congr 1;rw[List.filter_filter];refine I6 λq aQ=>?_;obtain⟨O,a5⟩:=hm q aQ;by_cases z:pc (r.piece q.1 q.2)=46
 .rw[a5 z];simp[z]
 show(qF r (qE r q)&&_)=_;rw[O z];simp[z]
theorem SG(s:dh r){k:Kind}(aA:k≠ .plain):eh k∈e' r↔∃q:Nat×Nat,q.1<r.wide/\q.2<r.high/\r.kind q.1 q.2=k:=by
 unfold e';rw[fA];constructor
 .rintro⟨c,a7,e⟩;by_cases h:r.isCell c=a9
  .rw[aZ h]at e;have e:=a4J e;unfold PI at e;rw[aZ h]at e;exact⟨(c%13,c/13),(kj.mp h).1,(kj.mp h).2,e⟩
  rw[aL h]at e;cases k<;>first|exact absurd Y aA|exact absurd e (by decide)
 rintro⟨q,bx,cw,e⟩;obtain⟨aO,aT⟩:=uE s (y:=q.2) bx;have a7:Cell r (cellOf q.1 q.2):=kj.mpr (by omega);refine⟨cellOf q.1 q.2,fR.mpr (s.lt a7),?_⟩;rw[aZ a7];unfold PI mh;rw[aZ a7,aO,aT,e]
theorem SH(s:dh r){k:kZ}(aA:k≠ .none):pc k∈gM r↔∃q:Nat×Nat,q.1<r.wide/\q.2<r.high/\r.piece q.1 q.2=k:=by
 unfold gM o6;rw[fA];constructor
 .rintro⟨c,a7,e⟩;by_cases h:r.isCell c=a9
  .rw[aZ h]at e;exact⟨(c%13,c/13),(kj.mp h).1,(kj.mp h).2,Lb e⟩
  rw[aL h]at e;cases k<;>first|exact absurd Y aA|exact absurd e (by decide)
 rintro⟨q,bx,cw,e⟩;obtain⟨aO,aT⟩:=uE s (y:=q.2) bx;have a7:Cell r (cellOf q.1 q.2):=kj.mpr (by omega);refine⟨cellOf q.1 q.2,fR.mpr (s.lt a7),?_⟩;rw[aZ a7,aO,aT,e]
theorem a5F(s:dh r):(r.cells.any λ(p:Nat×Nat)=>r.kind p.1 p.2== .exit)=decide (88∈e' r):=by
 rw[hM,A1,mj,show(88:Nat)=eh .exit from Y,SG s (by decide)];constructor
 .rintro⟨q,aQ,e⟩;exact⟨q,(rF.mp aQ).1,(rF.mp aQ).2,by simpa using e⟩
 rintro⟨q,O,a5,e⟩;exact⟨q,rF.mpr ⟨O,a5⟩,by simpa using e⟩
theorem a5G(s:dh r):(r.cells.any λ(p:Nat×Nat)=>r.piece p.1 p.2== .hunter)=decide (104∈gM r):=by
 rw[hM,A1,mj,show(104:Nat)=pc .hunter from Y,SH s (by decide)];constructor
 .rintro⟨q,aQ,e⟩;exact⟨q,(rF.mp aQ).1,(rF.mp aQ).2,by simpa using e⟩
 rintro⟨q,O,a5,e⟩;exact⟨q,rF.mpr ⟨O,a5⟩,by simpa using e⟩
theorem a5H(s:dh r):r.seats=[]↔83∉e' r:=by
 rw[show(83:Nat)=eh .seat from Y,SG s (by decide)];unfold ajQ;rw[ZD];constructor
 .rintro h ⟨q,O,a5,e⟩;exact h q (pW.mpr ⟨O,a5⟩) (by simpa using e)
 intro h q aQ e;exact h ⟨q,(pW.mp aQ).1,(pW.mp aQ).2,by simpa using e⟩
theorem a5I(s:dh r):r.kings=[]↔75∉gM r:=by
 rw[show(75:Nat)=pc .king from Y,SH s (by decide)];unfold PJ;rw[ZD];constructor
 .rintro h ⟨q,O,a5,e⟩;exact h q (pW.mpr ⟨O,a5⟩) (by simpa using e)
 intro h q aQ e;exact h ⟨q,(pW.mp aQ).1,(pW.mp aQ).2,by simpa using e⟩
def Bw(r:Rules):List (Nat×Nat):=((signed 83 (o7 r)).drop 1).map (λm=>(m.2.2,2))++((aE r).filter (qF r)).map (λm=>(m.2.2,3))++((signed 75 (aE r)).drop 1).map (λm=>(m.2.2,4))
def rH(r:Rules)(c:Nat):Bool:=r.onEdge (c%13,c/13)
def t6(r:Rules):List (Nat×Nat):=if r.goal=1/\88∉e' r then[(r.goalAt,5)]else if r.goal=0/\∃m,(signed 75 (aE r))[0]? =B m/\rH r m.1=a9 then[(r.goalAt,5)]else[]
def wA(len:Nat)(r:Rules):List (Nat×Nat):=if 75∉gM r∨104∉gM r∨((r.passed=aJ∨r.seat>0)/\83∉e' r)then[(len,6)]else[]
theorem a5J(g:h3 r):(∃m,(signed 75 (aE r))[0]? =B m/\rH r m.1=a9)↔(r.kings.take 1).any r.onEdge=a9:=by
 rw[SF g];cases e:r.kings with
 |nil=>simp
 |cons q l=>
  have aQ:q∈r.kings:=by rw[e];simp
  have aQ:=pW.mp (j7.mp aQ).1;obtain⟨aO,aT⟩:=uE g.b_ (y:=q.2) aQ.1;have:rH r (qE r q).1=r.onEdge q:=by unfold rH qE;dsimp only;rw[aO,aT]
  simp[this]
theorem a5K(g:h3 r)(len:Nat):Bw r++t6 r++wA len r=(ri len r).map λf=>(f.2,f.1):=by
 unfold ri Bw;simp only[fH,ix,lA];rw[a5E g,a5B g,SF g,<-Ib,<-Ib,ix,ix,ix];congr 1;congr 1;congr 1;congr 1
 .unfold t6;rw[a5F g.b_];have aI:=a5J g;by_cases O:r.goal=1/\88∉e' r
  .rw[aZ O,aZ (.inl ⟨O.1,by simp[O.2]⟩)];rfl
  rw[aL O];by_cases a5:r.goal=0/\∃m,(signed 75 (aE r))[0]? =B m/\rH r m.1=a9
  .rw[aZ a5,aZ (.inr ⟨a5.1,aI.mp a5.2⟩)];rfl
  rw[aL a5,aL]
  .rfl
  rintro(⟨a,b⟩|⟨a,b⟩)
  .exact O ⟨a,by simpa using b⟩
  exact a5 ⟨a,aI.mpr b⟩
 unfold wA;rw[a5G g.b_];have e:(75∉gM r∨104∉gM r∨((r.passed=aJ∨r.seat>0)/\83∉e' r))↔(r.kings=[]∨decide (104∈gM r)=aJ∨(r.seats=[]/\¬(r.passed=a9/\r.seat=0))):=by
  rw[a5I g.b_,a5H g.b_];have:(r.passed=aJ∨r.seat>0)↔¬(r.passed=a9/\r.seat=0):=by
   cases r.passed
   .simp
   simp only[PT,Zw,false_or];omega
  rw[this,decide_eq_false_iff_not,and_comm (b:=83∉e' r)]
 by_cases h:75∉gM r∨104∉gM r∨((r.passed=aJ∨r.seat>0)/\83∉e' r)
 .rw[aZ h,aZ (e.mp h)];rfl
 rw[aL h,aL λz=>h (e.mpr z)];rfl
def j0(m:Nat×Nat):aS:=eD m.1++(45::eD m.2)
def yW(r:Rules)(p:Pos)(m:Nat×Nat):aS:=(if r.takes p m=[]then[]else 120::(((r.takes p m).drop 1).foldl (λ(b:aS)(c:Nat)=>b++(44::eD c)) (eD ((r.takes p m).headD 0))))++(if r.over (r.comes p m)=0 then[]else[35,mY (48+r.over (r.comes p m))])
theorem wB(r:Rules)(p:Pos)(m:Nat×Nat):r.moveLine p m=j0 m++yW r p m:=by unfold Rules.moveLine j0 yW;simp
theorem FC:∀(b w v:aS),cc b w<w.length->cc b (w++v)=cc b w
 |_,[],_,h=>absurd h (by simp)
 |[],_::_,_,_=>rfl
 |x::b,y::w,v,h=>by
  rw[ow,iK,iK];rw[iK]at h;by_cases e:x=y
  .rw[aZ e]at h ⊢;rw[aZ e,FC b w v (by simp at h;omega)]
  rw[aL e,aL e]
theorem FD:∀b:aS,cc b b=b.length
 |[]=>rfl
 |x::b=>by rw[iK,aZ Y,FD b];rfl
theorem SI:∀(b w:aS),cc b w=w.length->cc b w=b.length->w=b
 |[],[],_,_=>rfl
 |[],_::_,h,_=>by simp[qB]at h
 |_::_,[],_,h=>by simp[yN]at h
 |x::b,y::w,h,h'=>by
  rw[iK]at h h';by_cases e:x=y
  .rw[aZ e]at h h';rw[SI b w (by simpa using h) (by simpa using h'),e]
  rw[aL e]at h;simp at h
theorem same_iff(b w:aS):(cc b w=w.length/\cc b w=b.length)↔w=b:=⟨λh=>SI b w h.1 h.2,λh=>by rw[h];exact⟨FD b,FD b⟩⟩
def jG(r:Rules)(p:Pos)(b:aS)(m:Nat×Nat):aS:=if cc b (j0 m)<(j0 m).length then j0 m else r.moveLine p m
theorem a5L(m:Nat×Nat):cc b (jG r p b m)=cc b (r.moveLine p m):=by
 unfold jG;by_cases h:cc b (j0 m)<(j0 m).length
 .rw[aZ h,wB,FC _ _ _ h]
 rw[aL h]
theorem a5M(m:Nat×Nat):(cc b (jG r p b m)=(jG r p b m).length/\cc b (jG r p b m)=b.length)↔r.moveLine p m=b:=by
 unfold jG;by_cases h:cc b (j0 m)<(j0 m).length
 .rw[aZ h];constructor
  .intro z;omega
  intro z;exfalso;have:=FC b (j0 m) (yW r p m) h;rw[<-wB,z,FD]at this;have l:=f_ tR z;rw[wB,df]at l;omega
 rw[aL h];exact same_iff _ _
def i5(l:List Nat):Nat:=l.foldr (λ(a b:Nat)=>max a b) 0
theorem a5N(l:List Nat)(x:Nat):i5 (l++[x])=max (i5 l) x:=by induction l with|nil=>simp[i5]|cons y l ih=>show max y (i5 (l++[x]))=max (max y (i5 l)) x;rw[ih,aie]
theorem FE{l:List Nat}(h:∀x∈l,x<=n):i5 l<=n:=by induction l with|nil=>exact ek _|cons y l ih=>exact ZX.mpr ⟨h y (by simp),ih λx ag=>h x (ez _ ag)⟩
theorem a5O(h:q∈r.row l):∃k,k<=l.length/\q=r.after (l.take k):=by obtain⟨k,aA⟩:=A6 h;have aq:=(ec.mp aA).1;rw[rE]at aq;rw[Le (by omega)]at aA;exact⟨k,by omega,(gX aA).symm⟩
theorem a5P(s:dh r)(ig:ea r r.begins)(h:Row r l)(aQ:q∈r.row l):ea r q:=by obtain⟨k,_,rfl⟩:=a5O aQ;exact(h.take k).wf s ig
theorem a5Q(s:dh r)(ig:ea r r.begins)(h:Row r l):r.seen l=((r.row l).filter λq=>bd q==bd (r.after l)&&q.side==(r.after l).side).length:=by
 unfold ajR;dsimp only;congr 1;refine I6 λq aQ=>?_;have lG:=a5P s ig h aQ;have oI:=h.wf s ig;rw[hM];constructor
 .intro e;have:q=r.after l:=by simpa using e
  rw[this];simp
 intro e;have e:bd q=bd (r.after l)/\q.side=(r.after l).side:=by simpa using e
 rw[a4K s lG oI e.1 e.2];simp
structure Inv (x:jM):Prop where
 ef:Right x.rules
 fD:Row x.rules x.game.moves
 iL:x.game.ending≠aa->x.rules.overBy x.game.moves=0
theorem Inv.ig{x:jM}(h:Inv x):ea x.rules x.rules.begins:=by obtain⟨k,o⟩:=h.ef.king;exact(Ft h.ef.g.b_ o (by have:=h.ef.g.f2;omega)).1
theorem a5R{x:jM}(h:x.game.ending=aa):x.rules.overOf x.game=x.rules.overBy x.game.moves:=by
 unfold y6;rw[h];by_cases z:x.rules.overBy x.game.moves=0
 .simp[z,PL]
 simp[z]
theorem Lu{x:jM}(h:x.rules.overOf x.game=0):x.game.ending=aa/\x.rules.overBy x.game.moves=0:=by
 unfold y6 at h;by_cases z:x.rules.overBy x.game.moves=0
 .refine⟨?_,z⟩;cases e:x.game.ending with|none=>rfl|some y=>rw[e]at h;simp[z]at h;cases y<;>simp[PL]at h
 simp[z]at h
theorem Lv(h:r.overBy l=0):r.ended (r.after l)=0:=by
 unfold E8 at h;refine Zx λz=>?_;have:r.over (r.after l)≠0:=by unfold IS;rw[aZ z];exact z
 simp[this]at h
theorem Inv.moved{x:jM}(h:Inv x)(hm:m∈x.rules.moves (x.rules.after x.game.moves)):Inv ⟨x.rules,⟨x.game.moves++[m],aa⟩⟩:=⟨h.ef,Row.snoc h.fD hm,λz=>absurd Y z⟩
theorem Inv.back{x:jM}(h:Inv x):Inv ⟨x.rules,⟨x.game.moves.dropLast,aa⟩⟩:=⟨h.ef,h.fD.dropLast,λz=>absurd Y z⟩
theorem Inv.fresh(h:Right r):Inv ⟨r,a10⟩:=⟨h,Row.nil,λz=>absurd Y z⟩
theorem ni{m:Except Nat bu}{f:bu->Except Nat hp}{a:bu}(h:m=.ok a):(m>>=f)=f a:=by rw[h];rfl
theorem lV{m:Except Nat bu}{f:bu->Except Nat hp}{p:Nat}(h:m=.error p):(m>>=f)=.error p:=by rw[h];rfl
theorem my{m:Except Nat bu}{f g:bu->Except Nat hp}(h:∀a,f a=g a):(m>>=f)=(m>>=g):=by rw[show f=g from funext h]
theorem FF{kL:Type}(m:Except Nat bu)(f:bu->Except Nat hp)(g:hp->Except Nat kL):((m>>=f)>>=g)=(m>>=λa=>f a>>=g):=by cases m<;>rfl
theorem jH{kL:Type}{m:Except Nat bu}{F:bu->Except Nat kL}{f:bu->Except Nat hp}{g:hp->Except Nat kL}(h:∀a,F a=(f a>>=g)):(m>>=F)=((m>>=f)>>=g):=(my h).trans (FF m f g).symm
structure Bx where
 f:Nat
 cJ:Nat
 bL:Nat
 eb:Nat
 s1:Nat
 s2:Nat
 x:Nat
def yX(c:eP):Except Nat (Bx×eP):=do
 let c <-eu (ascii "first ") c
 let(f,c) <-mX ["hunters","king"] c
 let c <-eu (ascii "\nking ") c
 let(cJ,c) <-mX ["steps","slides"] c
 let c <-eu [32] c
 let(bL,c) <-mX ["bare","armed"] c
 let c <-eu [32] c
 let(eb,c) <-mX ["two","four"] c
 let c <-eu (ascii "\nseat ") c
 let(s1,c) <-mX ["barred","passed"] c
 let c <-eu [32] c
 let(s2,c) <-mX a0Z c
 let c <-eu (ascii "\nexits ") c
 let(x,c) <-mX a0Z c
 let c <-eu [10] c
 return(⟨f,cJ,bL,eb,s1,s2,x⟩,c)
structure Ends where
 o:Nat
 p:Nat
 t:Nat
 l:Nat
def wC(c:eP):Except Nat (Ends×eP):=do
 let c <-eu (ascii "goal ") c
 let p:=c.at_
 let(o,c) <-mX ["edge","exits"] c
 let c <-eu (ascii "\nthrice ") c
 let(t,c) <-mX ["drawn","hunters","king"] c
 let c <-eu (ascii "\nlimit ") c
 let(l,c) <-ua 1 60000 c
 let c <-eu [10] c
 return(⟨o,p,t,l⟩,c)
def FG(n:aS)(w h:Nat)(g:List (List Kind))(lb:List Nat)(s:List (List kZ))(sp:List Nat)(k:Bx)(e:Ends):Rules:=
 ⟨n,w,h,g,lb,s,sp,k.f,k.cJ==1,k.bL==1,k.eb==1,k.s1==1,k.s2,k.x,e.o,e.p,e.t,e.l⟩
def SJ(b:aS):Except Nat Rules:=do
 let c <-eu (ascii "tafl ") ⟨b,0⟩
 let(n,c) <-qi c
 let c <-eu [32] c
 let(w,c) <-ua 5 13 c
 let c <-eu [32] c
 let(h,c) <-ua 5 13 c
 let c <-eu (ascii "\nground\n") c
 let(g,lb,c) <-oD PN w h c
 let c <-eu (ascii "start\n") c
 let(s,sp,c) <-oD PQ w h c
 let(k,c) <-yX c
 let(e,c) <-wC c
 if c.rest=[]then return FG n w h g lb s sp k e else .error c.at_
theorem a5S(c:eP):eu (ascii "\ngoal ") c=(eu [10] c>>=eu (ascii "goal ")):=by
 have e:ascii "\ngoal " =[10]++ascii "goal " :=by decide+kernel
 rw[e,L8];rfl
theorem a5T(b:aS):pD b=SJ b:=by unfold pD SJ yX;refine my λc=>my λ⟨n,c⟩=>my λc=>my λ⟨w,c⟩=>my λc=>my λ⟨h,c⟩=>my λc=>my λ⟨g,_,c⟩=>my λc=>my λ⟨s,_,c⟩=>?_;refine jH λc=>jH λ⟨f,c⟩=>jH λc=>jH λ⟨_,c⟩=>jH λc=>jH λ⟨_,c⟩=>jH λc=>jH λ⟨_,c⟩=>jH λc=>jH λ⟨_,c⟩=>jH λc=>jH λ⟨_,c⟩=>jH λc=>jH λ⟨x,c⟩=>?_;dsimp only;rw[a5S,FF];refine jH λc=>?_;show _=(wC c>>=_);unfold wC;refine jH λc=>jH λ⟨o,_⟩=>jH λc=>jH λ⟨t,c⟩=>jH λc=>jH λ⟨l,c⟩=>jH λc=>?_;rfl
def jX:List aS->aS
 |[]=>[]
 |[x]=>x
 |x::y::l=>x++(44::jX (y::l))
theorem SK:∀(l:List Nat)(b:aS),l.foldl (λ(b:aS)(c:Nat)=>b++(44::eD c)) b=b++l.flatMap (λc=>44::eD c)
 |[],b=>by simp
 |c::l,b=>by rw[vB,SK l,mO,lA]
theorem SM:∀(x:aS)(l:List Nat),jX (x::l.map eD)=x++l.flatMap (λc=>44::eD c)
 |x,[]=>by simp[jX]
 |x,c::l=>by show x++(44::jX (eD c::l.map eD))=_;rw[SM (eD c) l,mO];rfl
theorem a5U{l:List Nat}(h:l≠[]):(l.drop 1).foldl (λ(b:aS)(c:Nat)=>b++(44::eD c)) (eD (l.headD 0))=jX (l.map eD):=by obtain⟨c,t,rfl⟩:=ZC h;show t.foldl _ (eD c)=jX (eD c::t.map eD);rw[SK,SM]
theorem Lw(r:Rules)(p:Pos)(m:Nat×Nat):r.moveLine p m=j0 m++((if r.takes p m=[]then[]else 120::jX ((r.takes p m).map eD))++(if r.over (r.comes p m)=0 then[]else[35,mY (48+r.over (r.comes p m))])):=by
 rw[wB];unfold yW;by_cases h:r.takes p m=[]
 .rw[aZ h,aZ h]
 rw[aL h,aL h,a5U h]
theorem FH(r:Rules)(p:Pos):r.over p<=3:=by
 have h:r.ended p<=2:=by
  unfold IP;split
  .decide
  split<;>decide
 unfold IS;split
 .omega
 split<;>decide
theorem Lx{n:Nat}:∀(l:List aS),(∀x∈l,x.length<=n)->(jX l).length<=l.length*(n+1)
 |[],_=>by simp[jX]
 |[x],h=>by have:=h x (by simp);show x.length<=1*(n+1);omega
 |x::y::l,h=>by have O:=h x (by simp);have a5:=Lx (y::l) λz aR=>h z (ez _ aR);show(x++(44::jX (y::l))).length<=(l.length+1+1)*(n+1);rw[df,fQ,Ig (l.length+1)];have:(y::l).length*(n+1)=(l.length+1)*(n+1):=rfl;omega
theorem FI(w:ea r p)(s:dh r)(l:p6 r p m):∀c∈r.takes p m,c<169:=λc a7=>by rw[L4 w s l]at a7;exact s.lt ((L5 (q:=p.shifted m) s l.gg).2 c (by simpa using(j7.mp a7).2)).1
theorem Ly:∀(c2 c9:List (List (List Int))),hY (c2++c9)=hY c2++hY c9
 |[],_=>rfl
 |c::c2,c9=>by show Ij c++hY (c2++c9)=(Ij c++hY c2)++_;rw[Ly c2 c9,lA]
theorem a5V(c2:List (List (List Int)))(i:Nat):(hY c2).drop (hY (c2.take i)).length=hY (c2.drop i):=by
 conv=>lhs;arg 2;rw[<-Ab i c2]
 rw[Ly,OW]
theorem a5W{c2:List (List (List Int))}{c:List (List Int)}(h:c2[i]? =B c):(hY c2).drop (hY (c2.take i)).length=Ij c++hY (c2.drop (i+1))/\(hY (c2.take (i+1))).length=(hY (c2.take i)).length+(Ij c).length:=by
 obtain⟨aq,e⟩:=ec.mp h;refine⟨?_,?_⟩
 .rw[a5V,I4 aq,e];rfl
 rw[tU,h,Ly,df];show _+(Ij c++[]).length=_;rw[hN]
theorem FJ:∀(cX c5:List (List Int)),jx (cX++c5)=jx cX++jx c5
 |[],_=>rfl
 |r::cX,c5=>by show Ik r++jx (cX++c5)=(Ik r++jx cX)++_;rw[FJ cX c5,lA]
theorem SN{cX:List (List Int)}{r:List Int}(h:cX[i]? =B r):(jx cX).drop (jx (cX.take i)).length=Ik r++jx (cX.drop (i+1))/\(jx (cX.take (i+1))).length=(jx (cX.take i)).length+1+r.length:=by
 obtain⟨aq,e⟩:=ec.mp h;refine⟨?_,?_⟩
 .conv=>lhs;arg 2;rw[<-Ab i cX]
  rw[FJ,OW,I4 aq,e];rfl
 rw[tU,h,FJ,df];show _+(Ik r++[]).length=_;rw[hN];show _+(r.length+1)=_;omega
structure At (l:List Int) (n:Nat) (p:Int) (ns:List Int) (cH:List (List Int)):Prop where
 pl:l[n]? =B p
 a5X:∀(j:Nat) z,ns[j]? =B z->l[n+1+j]? =B z
 fD:∀(j:Nat) r,cH[j]? =B r->l[n+1+ns.length+(jx (cH.take j)).length]? =B (r.length:Int)/\(l.drop (n+1+ns.length+(jx (cH.take j)).length+1)).take r.length=r/\n+1+ns.length+(jx (cH.take j)).length+1+r.length<=l.length
theorem a5Y{c2:List (List (List Int))}{p:Int}{ns:List Int}{cH:List (List Int)}(h:c2[i]? =B ((p::ns)::cH)):At (hY c2) (hY (c2.take i)).length p ns cH/\(hY (c2.take (i+1))).length=(hY (c2.take i)).length+1+ns.length+(jx cH).length:=by
 obtain⟨O,a5⟩:=a5W h;generalize aq:hY c2=l at O;generalize aH:(hY (c2.take i)).length=n at O a5;have e:l.drop n=p::(ns++(jx cH++hY (c2.drop (i+1)))):=by rw[O];show((p::ns)++jx cH)++_=_;simp
 have g:∀k,l[n+k]? =(p::(ns++(jx cH++hY (c2.drop (i+1)))))[k]?:=λk=>by rw[<-e,A5]
 have len:l.length-n=1+ns.length+((jx cH).length+(hY (c2.drop (i+1))).length):=by rw[<-mP,e];simp only[fQ,df];omega
 refine⟨⟨?_,λj z aR=>?_,λj r ah=>?_⟩,?_⟩
 .have:=g 0;rw[DG]at this;rw[this];rfl
 .have bX:=(ec.mp aR).1;have:=g (1+j);rw[show n+(1+j)=n+1+j by omega,show 1+j=j+1 by omega,List.getElem?_cons_succ,kV bX]at this;rw[this];exact aR
 .obtain⟨cv,dR⟩:=SN ah;have bX:=(ec.mp ah).1;have j1:(jx (cH.take j)).length+1+r.length<=(jx cH).length:=by
   rw[<-dR];conv=>rhs;rw[<-Ab (j+1) cH,FJ,df]
   omega
  generalize hm:(jx (cH.take j)).length=m at cv j1;have d:l.drop (n+1+ns.length+m)=(Ik r++jx (cH.drop (j+1)))++hY (c2.drop (i+1)):=by rw[show n+1+ns.length+m=n+(1+(ns.length+m)) by omega,<-Dy,e,show 1+(ns.length+m)=(ns.length+m)+1 by omega,OX,<-Dy,OW,List.drop_append_of_le_length (by omega),cv]
  refine⟨?_,?_,by omega⟩
  .have:=f_ (λ(x:List Int)=>x[0]?) d;simp only[A5,DG]at this;rw[this];rfl
  rw[<-Dy,d];show ai3 r.length (ahO 1 (((r.length:Int)::r++_)++_))=r;simp
 rw[a5];show n+((p::ns)++jx cH).length=_;rw[df,fQ];omega
def By(x y o:Nat)(ts:List Nat):aS:=j0 (x,y)++((if ts=[]then[]else 120::jX (ts.map eD))++(if 0<o/\o<=3 then[35,mY (48+o)]else[]))
def qG(o:Nat):aS:=if 0<o/\o<=3 then[35,mY (48+o)]else[]
theorem a5Z{o:Nat}(h:o<=3):qG o=if o=0 then[]else[35,mY (48+o)]:=by
 unfold qG;by_cases z:o=0
 .rw[aZ z,aL (by omega)]
 rw[aL z,aZ (by omega)]
theorem FK(x y o:Nat)(ts:List Nat):By x y o ts=j0 (x,y)++((if ts=[]then[]else 120::jX (ts.map eD))++qG o):=rfl
theorem SO(r:Rules)(p:Pos)(m:Nat×Nat):r.moveLine p m=By m.1 m.2 (r.over (r.comes p m)) (r.takes p m):=by rw[Lw,FK,a5Z (FH r _)]
theorem a60(r:Rules)(l:List (Nat×Nat)):qG (r.overBy l)=qG (r.over (r.after l)):=by
 unfold E8;dsimp only;by_cases h:r.over (r.after l)=0
 .rw[aL (λz=>z h),h];by_cases a5:3<=r.seen l
  .rw[aZ a5];rfl
  rw[aL a5];by_cases aG:r.limit<=l.length
  .rw[aZ aG];rfl
  rw[aL aG]
 rw[aZ h]
theorem a61(r:Rules)(l:List (Nat×Nat))(m:Nat×Nat):By m.1 m.2 (r.overBy (l++[m])) (r.takes (r.after l) m)=r.moveLine (r.after l) m:=by rw[SO,FK,FK,a60,Br]
theorem Bz(r:Rules)(l:List (Nat×Nat)):r.overBy l<=5:=by
 unfold E8;have:=FH r (r.after l);dsimp only;split
 .omega
 split
 .decide
 split<;>decide
theorem SP(p q:Nat->Bool):∀l:List Nat,(l.filter λc=>p c||q c).length<=(l.filter p).length+(l.filter q).length
 |[]=>by simp
 |c::l=>by have ih:=SP p q l;simp only[qd];cases p c<;>cases q c<;>simp<;>omega
theorem a62(x:Nat):∀n,((eA n).filter λc=>c==x).length<=1:=λn=>by
 have h:((eA n).filter λc=>c==x).length=(eA n).count x:=by rw[List.count_eq_countP,List.countP_eq_length_filter]
 rw[h];exact List.nodup_iff_count.mp List.nodup_range x
theorem SQ(n:Nat):∀f:List Nat,((eA n).filter λc=>f.contains c).length<=f.length
 |[]=>by simp
 |x::f=>by
  have h:=SP (λc=>c==x) (λc=>f.contains c) (eA n);have O:=a62 x n;have a5:=SQ n f;have e:((eA n).filter λc=>(x::f).contains c)=(eA n).filter λc=>(c==x)||f.contains c:=by congr 1
  rw[e,fQ];have h':((eA n).filter λc=>(c==x)||f.contains c).length<=_:=h;omega
theorem a63(r:Rules)(q:Pos)(c:Nat):(found r q c).length<=4:=by
 unfold found;split
 .simp
 exact dC (O' ..) (by decide)
theorem BA(w:ea r p)(s:dh r)(l:p6 r p m):(r.takes p m).length<=4:=by rw[L4 w s l];exact dC (SQ _ _) (a63 _ _ _)
def jY(b:aS)(c:Nat):Bool:=dt (eD c++[45]) b
def uG(r:Rules)(p:Pos)(b:aS)(L:List (Nat×Nat)):Except Nat (Nat×Nat):=match L.find? λ(m:Nat×Nat)=>r.moveLine p m==b with
 |some m=>.ok m
 |none=>.error (i5 (L.map λ(m:Nat×Nat)=>cc b (r.moveLine p m)))
section
variable{L:List (Nat×Nat)}
theorem a64(h:L[i]? =B m)(a0:∀(j:Nat) n,j<i->L[j]? =B n->r.moveLine p n≠b)(hm:r.moveLine p m=b):uG r p b L=.ok m:=by
 have e:L.find? (λ(m:Nat×Nat)=>r.moveLine p m==b)=B m:=by
  rw[List.find?_eq_some_iff_append];obtain⟨_,e⟩:=ec.mp h;refine⟨by simp[hm],L.take i,L.drop (i+1),?_,λn aH=>?_⟩
  .rw[<-e,List.getElem_cons_drop,Ab]
  obtain⟨j,bX⟩:=A6 aH;have SR:j<i:=by have:=(ec.mp bX).1;rw[k9]at this;omega
  rw[O_ SR]at bX;simpa using a0 j n SR bX
 unfold uG;rw[e]
theorem a65(h:∀m∈L,r.moveLine p m≠b):uG r p b L=.error (i5 (L.map λm=>cc b (r.moveLine p m))):=by
 have e:L.find? (λ(m:Nat×Nat)=>r.moveLine p m==b)=aa:=by rw[xE];intro m hm;simpa using h m hm
 unfold uG;rw[e]
end
theorem rI:∀w b:aS,dt w b=a9↔∃t,b=w++t
 |[],b=>⟨λ_=>⟨b,Y⟩,λ_=>rfl⟩
 |x::w,[]=>by
  constructor
  .intro h;cases h
  rintro⟨t,h⟩;cases h
 |x::w,y::b=>by
  show(x==y&&dt w b)=a9↔_;rw[i8,h_,rI w b];constructor
  .rintro⟨rfl,t,rfl⟩;exact⟨t,Y⟩
  rintro⟨t,h⟩;rw[ow]at h;injection h with O a5;exact⟨O.symm,t,a5⟩
theorem Lz(w:aS):∀t u:aS,w.length<=cc (w++t) (w++u):=by induction w with|nil=>intro t u;exact ek _|cons x w ih=>intro t u;rw[ow,ow,iK,aZ Y,fQ];have:=ih t u;omega
theorem SS:∀b w:aS,∀k,k<=cc b w->b.take k=w.take k
 |[],w,k,h=>by rw[qB]at h;obtain rfl:k=0:=(by omega);simp
 |_::_,[],k,h=>by rw[yN]at h;obtain rfl:k=0:=(by omega);simp
 |x::b,y::w,k,h=>by
  rw[iK]at h;by_cases e:x=y
  .rw[aZ e]at h;cases k with|zero=>simp|succ k=>rw[ZS,ZS,e,SS b w k (by omega)]
  rw[aL e]at h;obtain rfl:k=0:=(by omega);simp
theorem SU:∀u v t w:aS,(45:UInt8)∉u->(45:UInt8)∉v->u++45::t=v++45::w->u=v
 |[],[],_,_,_,_,_=>rfl
 |[],y::v,t,w,_,bk,h=>by rw[DE,ow]at h;injection h with O _;exact absurd (by simp[O]) bk
 |x::u,[],t,w,bz,_,h=>by rw[DE,ow]at h;injection h with O _;exact absurd (by simp[O]) bz
 |x::u,y::v,t,w,bz,bk,h=>by rw[ow,ow]at h;injection h with O a5;rw[O,SU u v t w (λz=>bz (ez _ z)) (λz=>bk (ez _ z)) a5]
theorem SV(h:c<169):(45:UInt8)∉eD c:=by
 have e:∀x:Fin 13,∀y:Fin 13,(45:UInt8)∉(mY (97+x.val)::u9 (y.val+1)):=by decide+kernel
 have:=e ⟨c%13,P6 _ (by decide)⟩ ⟨c/13,by omega⟩;exact this
theorem FL(r:Rules)(p:Pos)(m:Nat×Nat):∃t,r.moveLine p m=(eD m.1++[45])++t:=⟨eD m.2++yW r p m,by rw[wB];unfold j0;simp⟩
theorem BB{l:List Nat}{x:Nat}(h:x∈l):x<=i5 l:=by
 induction l with
 |nil=>cases h
 |cons y l ih=>
  show x<=max y (i5 l);obtain e|e:=dx.mp h
  .rw[e];exact ZV _ _
  exact dC (ih e) (Nat.le_max_right _ _)
theorem LA{bu:Type}(p q:bu->Bool)(h:∀x,p x=a9->q x=a9):∀l:List bu,(l.filter q).find? p=l.find? p
 |[]=>rfl
 |x::l=>by
  rw[qd,sd];by_cases aQ:q x=a9
  .rw[aZ aQ,sd,LA p q h l]
  rw[aL aQ];cases ar:p x with|true=>exact absurd (h x ar) aQ|false=>exact LA p q h l
theorem a66{L:List (Nat×Nat)}(a7:∀m∈L,m.1<169)(bV:L.filter (λm=>jY b m.1)≠[]):uG r p b (L.filter λm=>jY b m.1)=uG r p b L:=by
 have ar:∀m:Nat×Nat,(r.moveLine p m==b)=a9->jY b m.1=a9:=λm h=>by obtain⟨t,e⟩:=FL r p m;exact(rI _ _).mpr ⟨t,by rw[<-eq_of_beq h,e]⟩
 unfold uG;rw[LA _ _ ar];cases hf:L.find? λ(m:Nat×Nat)=>r.moveLine p m==b with
 |some m=>rfl
 |none=>
  dsimp only;congr 1;obtain⟨i1,_,e0⟩:=ZC bV;have b9:i1∈L.filter (λm=>jY b m.1):=by rw[e0];simp
  obtain⟨a67,SW⟩:=j7.mp b9;obtain⟨cu,h9⟩:=(rI _ _).mp SW;obtain⟨gK,aO⟩:=FL r p i1;have big:(eD i1.1++[45]).length<=cc b (r.moveLine p i1):=by have:=Lz (eD i1.1++[45]) cu gK;rw[<-h9,<-aO]at this;exact this
  refine aib (FE λx ag=>?_) (FE λx ag=>?_)
  .obtain⟨m,hm,rfl⟩:=fA.mp ag;exact BB (fA.mpr ⟨m,(j7.mp hm).1,Y⟩)
  obtain⟨m,hm,rfl⟩:=fA.mp ag;by_cases a0:jY b m.1=a9
  .exact BB (fA.mpr ⟨m,j7.mpr ⟨hm,a0⟩,Y⟩)
  refine dC ?_ (BB (fA.mpr ⟨i1,b9,Y⟩));refine dC ?_ big;refine hl (aid λz=>a0 ?_);have ba:=SS _ _ _ z;rw[h9,List.take_left]at ba;obtain⟨_,aT⟩:=FL r p m;have dX:r.moveLine p m=(eD i1.1++[45])++(r.moveLine p m).drop (eD i1.1++[45]).length:=by conv=>lhs;rw[<-Ab (eD i1.1++[45]).length (r.moveLine p m),<-ba]
  have hF:=aT.symm.trans dX;rw[lA,lA]at hF;have:=SU _ _ _ _ (SV (a7 m hm)) (SV (a7 i1 a67)) hF;unfold jY;rw[this];exact SW
theorem SX(f:Nat->List Nat)(q:Nat->Bool):∀c2:List Nat,((c2.filter q).flatMap λc=>(f c).map λt=>(c,t))=(c2.flatMap λc=>(f c).map λt=>(c,t)).filter λm=>q m.1
 |[]=>rfl
 |c::c2=>by
  rw[qd,mO,A2,<-SX f q c2];by_cases h:q c=a9
  .rw[aZ h,mO];congr 1;rw[I7,List.filter_eq_self.mpr];intro x _;exact h
  rw[aL h,I7,show List.filter ((λ(m:Nat×Nat)=>q m.1)∘λt=>(c,t)) (f c)=[]from ZD.mpr λx _=>h];rfl
def wD(n:Nat):aS:=if n=0 then[]else u9 n
theorem SY(n:Nat):oC n []=wD n:=rfl
theorem S_(n:Nat)(l:List kZ):oC n (.none::l)=oC (n+1) l:=by rw[oC,aZ Y]
theorem S'{x:kZ}(n:Nat)(l:List kZ)(h:x≠ .none):oC n (x::l)=wD n++(PO x::oC 0 l):=by rw[oC,aL h];rfl
def nj(s:aS):List aS->aS
 |[]=>[]
 |[x]=>x
 |x::y::l=>x++(s++nj s (y::l))
theorem T1:∀l:List aS,nj [] l=l.flatten
 |[]=>rfl
 |[x]=>by simp[nj]
 |x::y::l=>by show x++([]++nj [] (y::l))=_;rw[DE,T1 (y::l)];rfl
theorem T2(s:aS)(f:Nat->aS):∀n,nj s ((eA n).map f)=(eA n).flatMap λi=>(if i=0 then[]else s)++f i:=by
 have snoc:∀(l:List aS)(x:aS),l≠[]->nj s (l++[x])=nj s l++(s++x):=by
  intro l;induction l with
  |nil=>intro x h;exact absurd Y h
  |cons y l ih=>intro x _;cases l with|nil=>rfl|cons z l=>show y++(s++nj s ((z::l)++[x]))=(y++(s++nj s (z::l)))++(s++x);rw[ih x (by simp)];simp
 intro n;induction n with
 |zero=>rfl
 |succ n ih=>rw[xG,fH,A3,<-ih];cases n with|zero=>simp[nj]|succ n=>rw[i9,vD,snoc _ _ (by simp)];simp
theorem a68(r:Rules)(p:Pos):r.line p=nj [47] ((eA r.high).map λi=>oC 0 (r.rowOf p (r.high-1-i)))++[32,if p.side=0 then 104 else 107]:=by rw[T2];rfl
theorem a69(h:n<60):(u9 n).length<=2:=(by decide+kernel:∀y:Fin 60,(u9 y.val).length<=2) ⟨n,h⟩
theorem FN(h:n<60):(wD n).length<=2:=by
 unfold wD;split
 .simp
 exact a69 h
theorem FO:∀(l:List kZ)(n:Nat),n+l.length<60->(oC n l).length<=2+3*l.length
 |[],n,h=>by rw[SY];have:=FN (n:=n) (by simpa using h);simp;omega
 |x::l,n,h=>by
  rw[fQ]at h ⊢;by_cases e:x=.none
  .subst e;rw[S_];have:=FO l (n+1) (by omega);omega
  rw[S' n l e,df,fQ];have:=FN (n:=n) (by omega);have:=FO l 0 (by omega);omega
theorem a6a(r:Rules)(s:dh r)(p:Pos){y:Nat}(h:y<r.high):((bd p).drop (13*y)).take r.wide=(r.rowOf p y).map pc:=by
 have:=s.p5;have:=s.pU;refine I5 λi=>?_;unfold IT;rw[ix];by_cases hi:i<r.wide
 .rw[O_ hi,A5,qC p (by omega),fP,ahV hi];rfl
 rw[qe (by rw[k9];omega),qe (by simp;omega)]
def iq(r:Rules)(l:List (Nat×Nat)):List aS:=(eA l.length).map λi=>r.moveLine (r.after (l.take i)) (l.getD i (0,0))
theorem FP(r:Rules)(l:List (Nat×Nat)):(iq r l).length=l.length:=by simp[iq]
theorem LB(l:List (Nat×Nat))(m:Nat×Nat):iq r (l++[m])=iq r l++[r.moveLine (r.after l) m]:=by
 unfold iq;rw[df,gu,xG,fH];congr 1
 .refine tT λi hi=>?_;have hi:=fR.mp hi;rw[xH (by omega)];simp[A4,kV hi]
 simp[A4]
theorem T3:∀(l:List (Nat×Nat))(p:Pos)(m:Nat×Nat),r.lines p (l++[m])=r.lines p l++(r.moveLine (l.foldl (λ(p:Pos)(m:Nat×Nat)=>r.comes p m) p) m++[kY])
 |[],p,m=>by simp[ajL]
 |x::l,p,m=>by rw[ow];show r.moveLine p x++(kY::r.lines (r.comes p x) (l++[m]))=_;rw[T3 l];simp[ajL]
theorem a6b(l:List (Nat×Nat)):r.lines r.begins l=((iq r l).map (·++[kY])).flatten:=by
 have key:∀k,k<=l.length->r.lines r.begins (l.take k)=((iq r (l.take k)).map (·++[kY])).flatten:=by
  intro k;induction k with
  |zero=>intro _;rfl
  |succ k ih=>
   intro h;have e:l.take (k+1)=l.take k++[l[k]]:=by rw[tU,f7 (by omega)];rfl
   rw[e,T3,LB,ih (by omega)];simp;rfl
 have:=key l.length (cO _);rwa[j8]at this
theorem T4(p:UInt8->Bool):∀(n:Nat)(c:eP),(oE p n c).1.length<=n
 |0,c=>cO _
 |n+1,c=>by
  unfold oE;split
  .split
   .have:=T4 p n c.on;show _+1<=n+1;omega
   simp
  simp
theorem a6c{c eG:eP}{n:aS}(h:qi c=.ok (n,eG)):n.length<=16:=by
 unfold qi at h;split at h
 .split at h
  .have e:=qc h;have:=T4 (λ(y:UInt8)=>Ea y||isDigit y) 16 c;rw[e]at this;exact this
  cases h
 cases h
theorem a6d(h:pD b=.ok r):r.name.length<=16:=by
 unfold pD at h;obtain⟨_,_,h⟩:=dI h;obtain⟨⟨n,_⟩,aH,h⟩:=dI h;obtain⟨_,_,h⟩:=dI h;obtain⟨⟨w,_⟩,_,h⟩:=dI h;obtain⟨_,_,h⟩:=dI h;obtain⟨⟨_,_⟩,_,h⟩:=dI h;obtain⟨_,_,h⟩:=dI h;obtain⟨⟨g,_,_⟩,_,h⟩:=dI h;obtain⟨_,_,h⟩:=dI h;obtain⟨⟨_,_,_⟩,_,h⟩:=dI h;obtain⟨_,_,h⟩:=dI h;obtain⟨⟨f,_⟩,_,h⟩:=dI h;obtain⟨_,_,h⟩:=dI h;obtain⟨⟨_,_⟩,_,h⟩:=dI h;obtain⟨_,_,h⟩:=dI h;obtain⟨⟨_,_⟩,_,h⟩:=dI h;obtain⟨_,_,h⟩:=dI h;obtain⟨⟨_,_⟩,_,h⟩:=dI h;obtain⟨_,_,h⟩:=dI h;obtain⟨⟨_,_⟩,_,h⟩:=dI h;obtain⟨_,_,h⟩:=dI h;obtain⟨⟨_,_⟩,_,h⟩:=dI h;obtain⟨_,_,h⟩:=dI h;obtain⟨⟨x,_⟩,_,h⟩:=dI h;obtain⟨_,_,h⟩:=dI h;obtain⟨⟨o,_⟩,_,h⟩:=dI h;obtain⟨_,_,h⟩:=dI h;obtain⟨⟨t,_⟩,_,h⟩:=dI h;obtain⟨_,_,h⟩:=dI h;obtain⟨⟨l,_⟩,_,h⟩:=dI h;obtain⟨_,_,h⟩:=dI h;split at h
 .have e:=qc h;subst e;exact a6c aH
 cases h
theorem a6e(h:mi b=.ok r):r.name.length<=16:=by
 unfold mi at h;split at h
 .cases h
 next gq aI=>
 split at h
 .cases h
 have e:=qc h;subst e;exact a6d aI
def dJ:aS:=ascii "game "
def ht:aS:=ascii "\nrules "
theorem T5(r:Rules)(h k:aS)(g:Game):r.gameText h k g=(((((dJ++h)++[32])++k)++ht)++r.name)++([10]++((iq r g.moves).map (·++[10])).flatten++mW (r.winner g) (r.overOf g)):=by
 unfold Rules.gameText;rw[a6b];show(((ascii "game" ++(32::h))++(32::k))++[kY])++(((ascii "rules" ++(32::r.name))++[kY])++_)=_;have aO:dJ=ascii "game" ++[32]:=by decide+kernel
 have aT:ht=[10]++(ascii "rules" ++[32]):=by decide+kernel
 rw[aO,aT];simp[kY]
theorem FQ(r:Rules)(g:Game):r.winner g<=3:=by unfold PK OPEN DRAWN;split<;>first|omega|(split<;>first|omega|(split<;>omega))
theorem FR(r:Rules)(g:Game):r.overOf g<=7:=by
 have z:=Bz r g.moves;unfold y6;dsimp only;split
 .omega
 cases g.ending with|none=>decide|some y=>cases y<;>decide
theorem FT(h:i<=7):(ub IV i).length<=8/\(ub IM i).length<=8:=(by decide+kernel:∀i:Fin 8,(ub IV i.val).length<=8/\(ub IM i.val).length<=8) ⟨i,by omega⟩
theorem FU{u v:Nat}(h:u<=3)(h':v<=7):(mW u v).length<=22:=by
 have e:=(FT (i:=u) (by omega)).1;have d7:=(FT h').2;unfold mW;have:(ascii "end ").length=4:=by decide+kernel
 simp only[df,fQ,tS];omega
def uH(r:Rules)(l:List (Nat×Nat)):List Pos:=(r.row l).dropLast.reverse
theorem T6(l:List (Nat×Nat)):r.row l=(r.row l).dropLast++[r.after l]:=by
 have h:r.row l≠[]:=λz=>by have:=rE (r:=r) l;rw[z]at this;cases this
 have e:=Le (r:=r) (l:=l) (cO _);rw[j8]at e;have aq:(r.row l).getLast h=r.after l:=by rw[List.getLast_eq_getElem];have:=(ec.mp e).2;rw[<-this];congr 1;rw[rE];rfl
 rw[<-aq];exact(ahP h).symm
theorem a6f(l:List (Nat×Nat))(m:Nat×Nat):uH r (l++[m])=r.after l::uH r l:=by
 unfold uH;rw[Fs,I3];conv=>lhs;rw[T6 l]
 simp
theorem T7(l:List (Nat×Nat)):r.overAt (r.after l) (uH r l) l.length=r.overBy l:=by
 have e:((uH r l).filter λ(q:Pos)=>q==r.after l).length+1=r.seen l:=by
  unfold ajR uH;dsimp only;conv=>rhs;rw[T6 l]
  rw[A2,df,List.filter_reverse,List.length_reverse];simp
 unfold Rules.overAt E8;dsimp only;rw[e]
theorem a6g(l:List (Nat×Nat))(h:r.overBy l≠0):r.wonAt (r.after l) (r.overBy l)=r.winner ⟨l,aa⟩/\r.overBy l=r.overOf ⟨l,aa⟩:=by
 have kg:r.overOf ⟨l,aa⟩=r.overBy l:=by unfold y6;dsimp only;rw[aZ h]
 refine⟨?_,kg.symm⟩;unfold PK;rw[kg];have eZ:=Bz r l;generalize r.overBy l=o at h eZ;have:o=1∨o=2∨o=3∨o=4∨o=5:=by omega
 rcases this with rfl|rfl|rfl|rfl|rfl<;>rfl
def ej(b:aS):aS:=b.takeWhile λy=>y !=10
theorem a6h(b:aS):∀y∈ej b,y≠10:=λy h=>by have:=xC.mp (List.all_takeWhile (l:=b) (p:=λy=>y !=10)) y h;simpa using this
theorem FV(b:aS):b=ej b∨∃t,b=ej b++10::t:=by
 have e:=List.takeWhile_append_dropWhile (p:=λ(y:UInt8)=>y !=10) (l:=b);cases h:b.dropWhile (λy=>y !=10)with
 |nil=>rw[h,hN]at e;exact .inl e.symm
 |cons y t=>
  have bl:y=10:=by have bU:=List.head?_dropWhile_not (λ(y:UInt8)=>y !=10) b;rw[h]at bU;simpa using bU
  rw[h,bl]at e;exact .inr ⟨t,e.symm⟩
theorem LC:∀(u t:aS),(∀y∈u,y≠10)->ej (u++10::t)=u
 |[],t,_=>by simp[ej]
 |x::u,t,h=>by have ag:=h x (by simp);have ih:=LC u t λy bl=>h y (ez _ bl);unfold ej at ih ⊢;rw[ow,ai4,aZ (by simpa using ag),ih]
theorem T8:∀b:aS,(∀y∈b,y≠10)->ej b=b
 |[],_=>rfl
 |x::u,h=>by have ag:=h x (by simp);have ih:=T8 u λy bl=>h y (ez _ bl);unfold ej at ih ⊢;rw[ai4,aZ (by simpa using ag),ih]
theorem a6i(O:∀y∈b.take k,y≠10)(a5:∀y,b[k]? =B y->y=10)(aA:k<=b.length):b.take k=ej b/\k=(ej b).length:=by
 have lk:(b.take k).length=k:=by rw[k9];omega
 have e:b.take k=ej b:=by
  cases a0:b[k]? with
  |none=>have:b.length<=k:=List.getElem?_eq_none_iff.mp a0;rw[lB this]at O ⊢;exact(T8 b O).symm
  |some y=>
   have bl:=a5 y a0;have c4:=(ec.mp a0).1;have e:b=b.take k++10::b.drop (k+1):=by
    conv=>lhs;rw[<-Ab k b,I4 c4]
    rw[(ec.mp a0).2,bl]
   conv=>rhs;rw[e]
   rw[LC _ _ O]
 exact⟨e,by rw[<-e,lk]⟩
theorem FW(h:c<169):∀y∈eD c,y≠10:=by
 have e:∀x:Fin 13,∀y:Fin 13,∀z∈(mY (97+x.val)::u9 (y.val+1)),z≠10:=by decide+kernel
 exact e ⟨c%13,P6 _ (by decide)⟩ ⟨c/13,by omega⟩
theorem T9:∀l:List Nat,(∀c∈l,c<169)->∀y∈jX (l.map eD),y≠10
 |[],_,y,bl=>by simp[jX]at bl
 |[c],h,y,bl=>FW (h c (by simp)) y bl
 |c::d::l,h,y,bl=>by
  have bl:y∈eD c++(44::jX ((d::l).map eD)):=bl;obtain z|z:=kv.mp bl
  .exact FW (h c (by simp)) y z
  obtain z|z:=dx.mp z
  .rw[z];decide
  exact T9 (d::l) (λx ag=>h x (ez _ ag)) y z
theorem FX(w:ea r p)(s:dh r)(LD:p6 r p m):∀y∈r.moveLine p m,y≠10:=λy bl=>by
 rw[Lw]at bl;obtain z|z:=kv.mp bl
 .unfold j0 at z;obtain z|z:=kv.mp z
  .exact FW (s.lt LD.eG) y z
  obtain z|z:=dx.mp z
  .rw[z];decide
  exact FW (s.lt LD.gg) y z
 obtain z|z:=kv.mp z
 .split at z
  .cases z
  obtain z|z:=dx.mp z
  .rw[z];decide
  exact T9 _ (FI w s LD) y z
 have ol:=FH r (r.comes p m);split at z
 .cases z
 have cG:r.over (r.comes p m)=1∨r.over (r.comes p m)=2∨r.over (r.comes p m)=3:=by omega
 rcases cG with e|e|e<;>rw[e]at z<;>simp at z<;>rcases z with z|z<;>rw[z]<;>decide
theorem a6j(p:Pos)(m:Nat×Nat)(a7:m.1<169)(rest:aS)(h:dt [101,110] rest=a9)(t:aS):cc rest (r.moveLine p m++t)<2:=by
 obtain⟨u,rfl⟩:=(rI _ _).mp h;rw[wB];have e:∀x:Fin 13,∀y:Fin 13,(mY (97+x.val)::u9 (y.val+1):aS).getD 1 110≠110:=by decide+kernel
 have rJ:(eD m.1).getD 1 110≠110:=e ⟨m.1%13,P6 _ (by decide)⟩ ⟨m.1/13,by omega⟩;cases aH:eD m.1 with
 |nil=>rw[aH]at rJ;exact absurd Y rJ
 |cons a v=>
  cases v with
  |nil=>rw[aH]at rJ;exact absurd Y rJ
  |cons z v=>
   rw[aH]at rJ;have rJ:z≠110:=rJ;unfold j0;rw[aH];show cc (101::110::u) (a::z::_)<2;rw[iK];split
   .rw[iK,aL (λq=>rJ q.symm)];decide
   decide
theorem LG:∀b w:aS,cc b w<=b.length
 |[],w=>by rw[qB];exact cO _
 |_::_,[]=>by rw[yN];exact ek _
 |x::b,y::w=>by
  rw[iK];split
  .have:=LG b w;simp;omega
  simp
theorem LH(a b:List Nat):i5 (a++b)=max (i5 a) (i5 b):=by induction a with|nil=>show i5 b=max 0 (i5 b);omega|cons x a ih=>show max x (i5 (a++b))=max (max x (i5 a)) (i5 b);rw[ih,aie]
theorem Ta:∀(u v rest:aS),(∀y∈u,y≠10)->(∀y∈v,y≠10)->(rest=u∨∃t,rest=u++10::t)->u≠v->cc rest (v++[10])=cc u v
 |[],[],_,_,_,_,n=>absurd Y n
 |[],y::v,rest,_,bk,ah,_=>by
  have bl:=bk y (by simp);rw[qB];obtain rfl|⟨t,rfl⟩:=ah
  .rw[qB]
  show cc (10::t) (y::(v++[10]))=0;rw[iK,aL (λz=>bl z.symm)]
 |x::u,[],rest,bz,_,ah,_=>by
  have ag:=bz x (by simp);rw[yN];obtain rfl|⟨t,rfl⟩:=ah
  .show cc (x::u) (10::[])=0;rw[iK,aL ag]
  show cc (x::(u++10::t)) (10::[])=0;rw[iK,aL ag]
 |x::u,y::v,rest,bz,bk,ah,n=>by
  have ih:=λcX h=>Ta u v cX (λz aR=>bz z (ez _ aR)) (λz aR=>bk z (ez _ aR)) h;obtain rfl|⟨t,rfl⟩:=ah
  .rw[ow,iK,iK];by_cases e:x=y
   .rw[aZ e,aZ e,ih u (.inl Y) (λz=>n (by rw[e,z]))]
   rw[aL e,aL e]
  rw[ow,ow,iK,iK];by_cases e:x=y
  .rw[aZ e,aZ e,ih _ (.inr ⟨t,Y⟩) (λz=>n (by rw[e,z]))]
  rw[aL e,aL e]
theorem LI{x:aS×Option Ending}(h:x∈openEnds):∃t,x.1=[101,110]++t:=by have e:∀u v,∃t,mW u v=[101,110]++t:=λu v=>⟨[100,32]++(ub IV u++(32::(ub IM v++[kY]))),by unfold mW;rw[show ascii "end " =[101,110]++[100,32]from by decide+kernel,lA]⟩;unfold openEnds at h;simp only[dx,r7,qk]at h;rcases h with rfl|rfl|rfl|rfl<;>exact e _ _
theorem Tb(p:Pos)(m:Nat×Nat):1<=(r.moveLine p m).length:=by obtain⟨t,e⟩:=FL r p m;rw[e];simp only[df,gu];omega
section
variable{rest:aS}
theorem LJ(h:r.moveLine p m≠ej rest∨rest=ej rest)(ba:∀y∈r.moveLine p m,y≠10):r.standing p rest m=aa:=by
 unfold a13;split
 .rfl
 dsimp only;split
 .next ar=>
  obtain⟨t,e⟩:=(rI _ _).mp ar;rw[lA]at e;have e:rest=r.moveLine p m++10::t:=e;have gT:=LC (r.moveLine p m) t ba;rw[<-e]at gT;obtain h|h:=h
  .exact absurd gT.symm h
  rw[h,gT]at e;have:=f_ tR e;simp at this
 rfl
theorem a6k{t:aS}(h:r.moveLine p m=ej rest)(ah:rest=ej rest++10::t):r.standing p rest m=B (m,(ej rest).length+1):=by
 have ar:dt (r.moveLine p m++[kY]) rest=a9:=(rI _ _).mpr ⟨t,by rw[h,lA];exact ah⟩;have bU:dt (eD m.1++(45::eD m.2)) rest=a9:=by obtain⟨t',e⟩:=(rI _ _).mp ar;exact(rI _ _).mpr ⟨yW r p m++[kY]++t',by rw[e,wB];unfold j0;simp⟩
 unfold a13;rw[aL (by rw[bU];decide)];dsimp only;rw[aZ ar,df,h];rfl
end
theorem Tc{bu hp:Type}(P:bu->Bool)(f:bu->Option hp)(g:bu->hp):∀l:List bu,(∀x∈l,f x=if P x=a9 then B (g x)else aa)->l.findSome? f=(l.find? P).map g
 |[],_=>rfl
 |x::l,h=>by rw[List.findSome?_cons,sd,h x (by simp)];cases P x with|true=>rfl|false=>exact Tc P f g l λy bl=>h y (ez _ bl)
def pb(r:Rules)(f:Nat)(l:List (Nat×Nat))(c:eP):Except Nat (Game×eP):=r.movesIn f (r.after l) (uH r l) l.reverse l.length c
section
variable{c:eP}
theorem Td(h:r.overBy l≠0):pb r (f+1) l c=if dt (mW (r.winner ⟨l,aa⟩) (r.overOf ⟨l,aa⟩)) c.rest=a9 then .ok (⟨l,aa⟩,kl c (mW (r.winner ⟨l,aa⟩) (r.overOf ⟨l,aa⟩)).length)else .error (c.at_+cc c.rest (mW (r.winner ⟨l,aa⟩) (r.overOf ⟨l,aa⟩))):=by obtain⟨aO,aT⟩:=a6g l h;unfold pb ajN;dsimp only;rw[T7,aZ h,aO,ai2,aT];rfl
theorem FY(h:r.overBy l=0):pb r (f+1) l c=match(r.moves (r.after l)).findSome? (r.standing (r.after l) c.rest)with
   |some (m,k)=>r.movesIn f (r.comes (r.after l) m) (r.after l::uH r l) (m::l.reverse) (l.length+1) ⟨c.rest.drop k,c.at_+k⟩
   |none=>match openEnds.find? λ(x:aS×Option Ending)=>dt x.1 c.rest with
    |some (b,e)=>.ok (⟨l,e⟩,kl c b.length)
    |none=>.error (c.at_+i5 (((r.moves (r.after l)).map λ(m:Nat×Nat)=>cc c.rest (r.moveLine (r.after l) m++[kY]))++openEnds.map λ(x:aS×Option Ending)=>cc c.rest x.1)):=by
 unfold pb;conv=>lhs;unfold ajN
 dsimp only;rw[T7,aL (λz=>z h),ai2];rfl
theorem Te(s:dh r)(w:ea r (r.after l))(h:r.overBy l=0)(aF:dt [101,110] c.rest=a9):pb r (f+1) l c=match openEnds.find? λ(x:aS×Option Ending)=>dt x.1 c.rest with
   |some (b,e)=>.ok (⟨l,e⟩,kl c b.length)
   |none=>.error (c.at_+i5 (openEnds.map λ(x:aS×Option Ending)=>cc c.rest x.1)):=by
 rw[FY h];have Tg:∀m∈r.moves (r.after l),cc c.rest (r.moveLine (r.after l) m++[kY])<2:=λm hm=>a6j _ _ (s.lt (p7 w s hm).eG) _ aF _;have aH:(r.moves (r.after l)).findSome? (r.standing (r.after l) c.rest)=aa:=ZE.mpr λm hm=>by
  unfold a13;split
  .rfl
  dsimp only;rw[aL];intro z;have z:=(pa _ _).mp z;have:=Tg m hm;have:=Tb (r:=r) (r.after l) m;rw[z,df,gu]at*;omega
 rw[aH];dsimp only;cases hf:openEnds.find? λ(x:aS×Option Ending)=>dt x.1 c.rest with
 |some x=>rfl
 |none=>
  dsimp only;rw[LH,Nat.max_eq_right];refine dC (FE (n:=1) λx ag=>?_) ?_
  .obtain⟨m,hm,rfl⟩:=fA.mp ag;have:=Tg m hm;omega
  have b9:(mW OPEN 0,(aa:Option Ending))∈openEnds:=by unfold openEnds;simp
  refine dC ?_ (BB (fA.mpr ⟨_,b9,Y⟩));obtain⟨t,e⟩:=LI b9;obtain⟨u,aT⟩:=(rI _ _).mp aF;have:=Lz [101,110] u t;rw[<-aT,<-e]at this;exact dC (by decide) this
theorem Th(aF:dt [101,110] c.rest=aJ):(openEnds.find? λ(x:aS×Option Ending)=>dt x.1 c.rest)=aa/\i5 (openEnds.map λ(x:aS×Option Ending)=>cc c.rest x.1)=cc c.rest [101,110]:=by
 have c4:cc c.rest [101,110]<([101,110]:aS).length:=by
  have O:cc c.rest [101,110]≠([101,110]:aS).length:=λz=>by rw[(pa _ _).mpr z]at aF;cases aF
  have a5:∀b w:aS,cc b w<=w.length:=λb=>by
   induction b with
   |nil=>intro w;rw[qB];exact ek _
   |cons x b ih=>
    intro w;cases w with
    |nil=>rw[yN];exact cO _
    |cons y w=>
     rw[iK];split
     .have:=ih w;simp;omega
     simp
  have:=a5 c.rest [101,110];omega
 have qA:∀x∈openEnds,cc c.rest x.1=cc c.rest [101,110]:=λx ag=>by obtain⟨t,e⟩:=LI ag;rw[e,FC _ _ _ c4]
 constructor
 .rw[xE];intro x ag z;have z:=(pa _ _).mp z;rw[qA x ag]at z;obtain⟨t,e⟩:=LI ag;rw[e,df]at z;omega
 have e:(openEnds.map λ(x:aS×Option Ending)=>cc c.rest x.1)=hO 4 (cc c.rest [101,110]):=by rw[show hO 4 (cc c.rest [101,110])=openEnds.map λ_=>cc c.rest [101,110]from Y];exact tT qA
 rw[e];show max _ (max _ (max _ (max _ 0)))=_;omega
theorem a6l{t:aS}(s:dh r)(w:ea r (r.after l))(h:r.overBy l=0)(ah:r.readMove (r.after l) (ej c.rest)=.ok m)(hf:c.rest=ej c.rest++10::t):pb r (f+1) l c=pb r f (l++[m]) (kl c ((ej c.rest).length+1)):=by
 rw[FY h];have fs:=Tc (λ(m:Nat×Nat)=>r.moveLine (r.after l) m==ej c.rest) (r.standing (r.after l) c.rest) (λm=>(m,(ej c.rest).length+1)) (r.moves (r.after l)) λm hm=>by
  by_cases e:r.moveLine (r.after l) m=ej c.rest
  .rw[aZ (by simpa using e),a6k e hf]
  rw[aL (by simpa using e),LJ (.inl e) (FX w s (p7 w s hm))]
 unfold E9 at ah;rw[fs];cases aQ:(r.moves (r.after l)).find? λ(m:Nat×Nat)=>r.moveLine (r.after l) m==ej c.rest with|none=>rw[aQ]at ah;cases ah|some m'=>rw[aQ]at ah;have e:=qc ah;subst e;show r.movesIn f _ _ _ _ _=_;unfold pb;rw[Br,a6f,List.reverse_append,df];rfl
theorem a6m(s:dh r)(w:ea r (r.after l))(h:r.overBy l=0)(aF:dt [101,110] c.rest=aJ)(ah:r.readMove (r.after l) (ej c.rest)=.ok m)(hf:c.rest=ej c.rest):pb r (f+1) l c=.error (c.at_+(ej c.rest).length):=by
 rw[FY h];have aH:(r.moves (r.after l)).findSome? (r.standing (r.after l) c.rest)=aa:=ZE.mpr λm hm=>LJ (.inr hf) (FX w s (p7 w s hm));obtain⟨aO,aT⟩:=Th aF;rw[aH];dsimp only;rw[aO];dsimp only;rw[LH,aT];congr 2;have hm:m∈r.moves (r.after l)/\r.moveLine (r.after l) m=ej c.rest:=by
  unfold E9 at ah;split at ah
  .next m' aQ=>cases ah;exact⟨DD aQ,by simpa using OY aQ⟩
  cases ah
 refine aib (ZX.mpr ⟨FE λx ag=>?_,?_⟩) (dC ?_ (ZV _ _))
 .obtain⟨m',_,rfl⟩:=fA.mp ag;exact dC (LG _ _) (by rw[<-hf];exact cO _)
 .exact dC (LG _ _) (by rw[<-hf];exact cO _)
 refine dC ?_ (BB (fA.mpr ⟨m,hm.1,Y⟩));have:=Lz (ej c.rest) [] [kY];rw[hN,<-hf]at this;rw[hm.2,<-hf];exact this
theorem a6n(s:dh r)(w:ea r (r.after l))(h:r.overBy l=0)(aF:dt [101,110] c.rest=aJ)(ah:r.readMove (r.after l) (ej c.rest)=.error k):pb r (f+1) l c=.error (c.at_+max k (cc c.rest [101,110])):=by
 rw[FY h];have ip:(∀m∈r.moves (r.after l),r.moveLine (r.after l) m≠ej c.rest)/\k=i5 ((r.moves (r.after l)).map λm=>cc (ej c.rest) (r.moveLine (r.after l) m)):=by
  unfold E9 at ah;split at ah
  .cases ah
  next aQ=>
  exact⟨λm hm z=>by have:=xE.mp aQ m hm;simp[z]at this,(al0 ah).symm⟩
 have aH:(r.moves (r.after l)).findSome? (r.standing (r.after l) c.rest)=aa:=ZE.mpr λm hm=>LJ (.inl (ip.1 m hm)) (FX w s (p7 w s hm));obtain⟨aO,aT⟩:=Th aF;rw[aH];dsimp only;rw[aO];dsimp only;rw[LH,aT,ip.2];congr 3;refine f_ i5 (tT λm hm=>?_);exact Ta (ej c.rest) _ c.rest (a6h _) (FX w s (p7 w s hm)) (FV _) λz=>ip.1 m hm z.symm
end
def uI(r:Rules)(c:eP):Except Nat eP:=do
 let c <-eu (ascii "game ") c
 let(_,c) <-qi c
 let c <-eu [32] c
 let(_,c) <-qi c
 let c <-eu (ascii "\nrules ") c
 let c <-eu r.name c
 eu [10] c
theorem a6o(b:aS):r.readGame b=(uI r ⟨b,0⟩>>=λc=>pb r (r.limit+2) [] c>>=λx=>if x.2.rest=[]then .ok x.1 else .error x.2.at_):=by unfold Rules.readGame uI;simp only[FF];refine my λc=>my λx=>my λc=>my λx=>my λc=>?_;rw[show r.name++[kY]=r.name++[10]from Y,L8];show((eu r.name c>>=eu [10])>>=_)=_;rw[FF];rfl
end Tf
namespace LX
open PySem
structure ko (S:List I) (e:I) (ts:List I) (h h':br):Prop where
 keep:∀b o,h.get? b=B o->b∉S->b≠e->b∉ts->h'.get? b=B o
 slot:∀b o,h.get? b=B o->b≠e->b∉ts->∃aV,h'.get? b=B {o with slots:=aV}
theorem ko.refl(S:List I)(e:I)(ts:List I)(h:br):ko S e ts h h:=⟨λ_ _ q _ _ _=>q,λ_ o q _ _=>⟨o.slots,q⟩⟩
variable{ts:List I}{e:I}{h:br}
theorem ko.trans{S:List I}{O a5:br}(a:ko S e ts h O)(b:ko S e ts O a5):ko S e ts h a5 where
 keep:=λc o q dZ cS g9=>b.keep c o (a.keep c o q dZ cS g9) dZ cS g9
 slot:=λc o q cS g9=>by obtain⟨_,bx⟩:=a.slot c o q cS g9;obtain⟨s2,cw⟩:=b.slot c _ bx cS g9;exact⟨s2,cw⟩
theorem ko.mono{S Ti rK:List I}{O:br}(a:ko S e ts h O)(l9:∀b∈S,b∈Ti)(ba:∀b∈ts,b∈rK):ko Ti e rK h O where
 keep:=λc o q dZ cS g9=>a.keep c o q (λz=>dZ (l9 c z)) cS λz=>g9 (ba c z)
 slot:=λc o q cS g9=>a.slot c o q cS λz=>g9 (ba c z)
theorem ko.young{S rK:List I}{O:br}(a:ko S e (ts++rK) h O)(bl:∀b∈rK,h.objs.size<=b):ko S e ts h O where
 keep:=λc o q dZ cS g9=>a.keep c o q dZ cS λz=>(kv.mp z).elim g9 λz=>absurd (dF q) (Ae.mpr (bl c z))
 slot:=λc o q cS g9=>a.slot c o q cS λz=>(kv.mp z).elim g9 λz=>absurd (dF q) (Ae.mpr (bl c z))
structure hu (n:Nat) (e C:I) (a3:Option I) (d_:ae) (T:Option I) (dE:ae) (h:br):Prop where
 obj:∃cQ vs,h.get? e=B cQ/\cQ.cls=.ref C/\cQ.dict=a3/\cQ.data=.fields vs/\vs.size=6/\vs[1]? =B (T.elim .none .ref)/\vs[2]? =B d_
 cu:∀t,T=B t->n<=t/\t≠e/\∃uJ vs,h.get? t=B uJ/\uJ.data=.fields vs/\vs[3]? =B dE
variable{n:Nat}{C:I}{a3 T:Option I}{d_ dE:ae}
theorem hu.mono{rr:Nat}(x:hu n e C a3 d_ T dE h)(aH:rr<=n):hu rr e C a3 d_ T dE h:=
 ⟨x.obj,λt ba=>let⟨a,b⟩:=x.cu t ba;⟨dC aH a,b⟩⟩
variable{M:tW}{A:d9}{E:ae->ay->Prop}{s:ay}{Q:Unit->ay->Prop}{base:br}{env:eB}{outer:List eB}
theorem LK{T:I}{fr:Option I}(x:hu n e C a3 d_ (B T) dE s.heap)(h:∀h',hu n e C a3 d_ (B T) (fr.elim .none λf=>iz f) h'->ko [] e [T] s.heap h'->Q () {s with heap:=h'}):b8 M A (Aq (.ref e) fr) Q E s:=by obtain⟨⟨cQ,vs,aF,a7,fF,hd,hsz,O,a5⟩,Tj⟩:=x;obtain⟨FZ,t7,_,ts,dp,qH,aG⟩:=Tj T Y;have nd:3<ts.size:=(ahz.mp aG).1;unfold Aq;refine bC (jz (x:=.ref T) aF hd O ?_);rw[aZ (show(dM T !=eK)=a9 by simp)];have pX:∀b,b≠T->(s.heap.update T (kb (·.setIfInBounds 3 (fr.elim eK λf=>iz f)))).get? b=s.heap.get? b:=λb a0=>nF _ _ a0.symm;have A':=ra (kb (·.setIfInBounds 3 (fr.elim eK λf=>iz f))) dp (Ah (tX qH _));refine u5 dp qH nd (h _ ⟨⟨cQ,vs,(pX e t7.symm).trans aF,a7,fF,hd,hsz,O,a5⟩,λt ba=>?_⟩ ⟨λb o q _ _ g9=>(pX b λz=>g9 (by simp[z])).trans q,λb o q _ g9=>⟨o.slots,(pX b λz=>g9 (by simp[z])).trans q⟩⟩);cases ba;exact⟨FZ,t7,_,_,A',tX qH _,by simp[nd]⟩
theorem Tn{L:I}{To:ae}{a6p:Bool}(jE:A.frames=B (env::outer))(aq:s.heap.FunFrames base (env::outer))(hf:env.frame=B L)(x:hu n e C a3 d_ T dE s.heap)(aH:n<=s.heap.objs.size)(h:∀h' jI,hu n e C a3 d_ (B jI) (iz L) h'->s.heap.objs.size<=jI->ko ((env::outer).filterMap (·.frame)) e [] s.heap h'->Q () {s with heap:=h'}):
  b8 M A (do let a <-frameOf env;let pl <-entryPlaceOf L a6p;let b <-aiB To a .none (iz L) .none pl;a0G (.ref e) 1 b) Q E s:=by
 obtain⟨⟨cQ,vs,aF,a7,fF,hd,hsz,O,a5⟩,_⟩:=x;have a6q:e∉(env::outer).filterMap (·.frame):=λhm=>by obtain⟨_,o,aU,t8⟩:=aq.mem hm;rw[aF]at aU;cases aU;exact t8 vs hd
 refine bC (wpAny_frameOf_fun jE aq hf λjl kM=>?_);refine bC (wpAny_entryPlaceOf λpl eF=>?_);unfold aiB newFields;refine bC (y0 ?_ (eF.sizeOk5 _ _ _ _ _));generalize a6r:(([To,dM L,eK,iz L,eK]++(if pl.isEmpty then hO 6 eK else pl)).toArray:Array ae)=rec;have a6s:rec[3]? =B (iz L):=by rw[<-a6r];simp
 have Tp:jl.get? e=B cQ:=(kM.2.1 e a6q).trans aF;have F_:=e9 (h:=jl) {cls:=.type "traceback",dict:=aa,data:=.fields rec} Tp;refine u5 F_ hd (by omega) ?_;have t7:jl.objs.size≠e:=xK (dF Tp);have Tq:=tX hd (·.setIfInBounds 1 (dM jl.objs.size));have a6t:=ra (kb (·.setIfInBounds 1 (dM jl.objs.size))) F_ (Ah Tq);have pX:∀b,b≠e->((jl.push {cls:=.type "traceback",dict:=aa,data:=.fields rec}).update e (kb (·.setIfInBounds 1 (dM jl.objs.size)))).get? b=(jl.push {cls:=.type "traceback",dict:=aa,data:=.fields rec}).get? b:=
  λb a0=>nF _ _ a0.symm
 refine h _ jl.objs.size ⟨⟨_,_,a6t,(Pk _ _).trans a7,?_,Tq,by simpa using hsz,by simp[hsz],?_⟩,λt ba=>?_⟩ (by rw[kM.1];exact cO _) ⟨λb o q dZ cS _=>?_,λb o q cS _=>?_⟩
 .rw[<-fF];unfold kb;split<;>rfl
 .rw[OR (by decide)];exact a5
 .cases ba;refine⟨by rw[kM.1];exact aH,t7,_,rec,(pX _ t7).trans (hP jl Y),Y,a6s⟩
 .exact(pX b cS).trans (e9 _ ((kM.2.1 b dZ).trans q))
 obtain⟨aV,bx⟩:=kM.2.2 b o q;exact⟨aV,(pX b cS).trans (e9 _ bx)⟩
theorem Tr{L:I}(jE:A.frames=B (env::outer))(aq:s.heap.FunFrames base (env::outer))(hf:env.frame=B L)(x:hu n e C a3 d_ T .none s.heap)(aH:n<=s.heap.objs.size)(h:∀h' jI,hu n e C a3 d_ (B jI) (iz L) h'->s.heap.objs.size<=jI->ko ((env::outer).filterMap (·.frame)) e T.toList s.heap h'->Q () {s with heap:=h'}):b8 M A (u1 (.ref e) env) Q E s:=by
 obtain⟨cQ,vs,aF,a7,fF,hd,hsz,O,a5⟩:=x.obj;unfold u1;simp only[hf];refine bC (jz aF hd O ?_);cases T with
 |none=>show b8 M A (if(eK !=eK)=a9 then _ else _) Q E s;rw[aL (by decide)];exact Tn jE aq hf x aH h
 |some T=>
  show b8 M A (if(dM T !=eK)=a9 then _ else _) Q E s;obtain⟨FZ,t7,_,ts,dp,qH,aG⟩:=x.cu T Y;have nd:3<ts.size:=(ahz.mp aG).1;rw[aZ (show(dM T !=eK)=a9 by simp)];refine bC (jz dp qH aG ?_);rw[aL (show¬((eK==iz L)=a9) by simp[iz])];refine bC (u5 dp qH nd ?_);have pX:∀b,b≠T->(s.heap.update T (kb (·.setIfInBounds 3 eK))).get? b=s.heap.get? b:=λb a0=>nF _ _ a0.symm;have A':=ra (kb (·.setIfInBounds 3 eK)) dp (Ah (tX qH _));have a6u:∀b o,s.heap.get? b=B o->(∀vs,o.data≠ .fields vs)->b≠T:=λb o a0 t8 q=>by rw[q,dp]at a0;cases a0;exact t8 ts qH
  have Ts:(s.heap.update T (kb (·.setIfInBounds 3 eK))).objs.size=s.heap.objs.size:=Heap.size_after_update ..;have gJ:hu n e C a3 d_ (B T) .none (s.heap.update T (kb (·.setIfInBounds 3 eK))):=
   ⟨⟨cQ,vs,(pX e t7.symm).trans aF,a7,fF,hd,hsz,O,a5⟩,λt ba=>by cases ba;exact⟨FZ,t7,_,_,A',tX qH _,by simp[nd]⟩⟩
  refine Tn jE (aq.of_keeps λb o a0 t8=>⟨o,(pX b (a6u b o a0 t8)).trans a0,Y⟩) hf gJ (by rw[Ts];exact aH) λh' jI gw ba kp=>h h' jI gw (by rw[Ts]at ba;exact ba) ⟨λb o q dZ cS g9=>?_,λb o q cS g9=>?_⟩
  .exact kp.keep b o ((pX b λz=>g9 (by simp[z])).trans q) dZ cS (by simp)
  exact kp.slot b o ((pX b λz=>g9 (by simp[z])).trans q) cS (by simp)
theorem a6v{L:I}(jE:A.frames=B (env::outer))(aq:s.heap.FunFrames base (env::outer))(hf:env.frame=B L)(x:hu n e C a3 d_ T .none s.heap)(aH:n<=s.heap.objs.size)(h:∀h' jI,hu n e C a3 d_ (B jI) .none h'->s.heap.objs.size<=jI->ko ((env::outer).filterMap (·.frame)) e T.toList s.heap h'->Q () {s with heap:=h'}):b8 M A (DX env (.ref e)) Q E s:=by
 unfold DX;refine bC (Tr jE aq hf x aH λO qI gJ rL aO=>?_);refine LK (fr:=aa) gJ λa5 gw aT=>h a5 qI gw rL ?_;exact ko.young (rK:=[qI]) ((aO.mono (λ_ z=>z) λb a0=>se _ a0).trans (aT.mono (λ_ z=>nomatch z) λb a0=>ox _ a0)) (λb a0=>by
  have:b=qI:=by simpa using a0
  rw[this];exact rL)
theorem LL{L T:I}(hf:env.frame=B L)(x:hu n e C a3 d_ (B T) (iz L) s.heap)(h:Q () s):b8 M A (u1 (.ref e) env) Q E s:=by obtain⟨_,_,aF,_,_,hd,_,O,_⟩:=x.obj;obtain⟨_,_,_,_,dp,qH,aG⟩:=x.cu T Y;unfold u1;simp only[hf];refine bC (jz aF hd O ?_);show b8 M A (if(dM T !=eK)=a9 then _ else _) Q E s;rw[aZ (show(dM T !=eK)=a9 by simp)];refine bC (jz dp qH aG ?_);rw[aZ (show(iz L==iz L)=a9 by simp)];exact eC h
theorem leave_held{L T:I}(hf:env.frame=B L)(x:hu n e C a3 d_ (B T) (iz L) s.heap)(h:∀h',hu n e C a3 d_ (B T) .none h'->ko [] e [T] s.heap h'->Q () {s with heap:=h'}):b8 M A (DX env (.ref e)) Q E s:=by unfold DX;exact bC (LL hf x (LK (fr:=aa) x h))
def Tt(x:I)(R:vK->ay->Prop)(r:vK)(b3:ay):Prop:=match r with
 |.ok (.ret v)=>v=.none/\R (.ok (.ret (.ref x))) b3
 |.ok _=>False
 |.error e=>R (.error e) b3
abbrev lg(C t:I):bJ:={cls:=.ref C,data:=.fields #[.ref t,.none,.none,.none,.bool aJ,.none]}
abbrev nk(us:List ae):bJ:={cls:=.type "tuple",data:=.seq us.toArray}
variable{prog:bQ}{w:bI}{g:Array Io}{d:Im}{t:Nat}{os:OsState}{nm q:a8}{f:I}{bs bm sub us:List ae}{t9 ab:Bool}{sn:List a8}{col:Option Bool}{dd:Option I}{k0 cJ bL eb k5:Option ae}{newId:String}{fG:a8->Option ae}{R:vK->ay->Prop}
section
variable{N:I}{gi Tu:String}
theorem a6w{of:bJ}{self:ae}{Q:ae×List ae->ay->Prop}(hf:s.heap.get? f=B of)(a7:of.cls=.type "function")(aQ:Q (.ref f,[self]) s):b8 M A (bindSpecial (.ref f) self) Q E s:=by unfold bindSpecial;refine bC (wpAny_typeOf (T:="function") ⟨of,hf,a7⟩ ?_);rw[aZ (show(_:Bool)=a9 by decide)];exact eC aQ
theorem a6x(F:ExcBaseFacts gi newId Tu bm){of:bJ}{Z:Code->ay->Prop}(e1:h.get? C=B (pA nm q C N bs bm t9 sn sub ab col dd k0 cJ bL eb k5 newId))(aH:h.Ns N fG)(hi:fG "__init__" =B (.ref f))(hf:h.get? f=B of)(wF:of.cls=.type "function")(aQ:me (bq prog w) A (.call (.ref f) ⟨.ref (h.objs.size+1)::us,[]⟩) (Tt (h.objs.size+1) R) ⟨(h.push (nk us)).push (lg C h.objs.size),g,d,t,os⟩)(bz:us.length<=cM):b8 (bq prog w) A (vG.«type.__call__» ⟨.ref C::us,[]⟩) (λfin b3=>match fin with|.done f=>R (.ok f) b3|.again e4=>Z e4 b3) (λe b3=>R (.error e) b3) ⟨h,g,d,t,os⟩:=by
 repeat (first|with_reducible refine nI e1 ?_|with_reducible refine wpAny_madeBy_exc e1 ?_|wp_step)
 refine codeAny_call_builtin_code (aiz _ F.quiet) (wpAny_check_new_sub F e1 ?_);refine codeAny_exc_new_sub F e1 ?_ bz;show b8 _ _ _ _ _ _;have Tv:=e9 (lg C h.objs.size) (e9 (nk us) e1);have LM:=e9 (lg C h.objs.size) (e9 (nk us) hf);have a6y:((h.push (nk us)).push (lg C h.objs.size)).Ns N fG:=let⟨o,b7,fS,e,r⟩:=aH;⟨o,b7,fS,e9 _ (e9 _ e),r⟩
 have BC:((h.push (nk us)).push (lg C h.objs.size)).get? (h.objs.size+1)=B (lg C h.objs.size):=by heap_get
 have a6z:(dM C::bm).contains (.ref C)=a9:=by simp
 unfold a0B;repeat (first|with_reducible refine nI BC ?_|(with_reducible refine II Tv ?_;rw[a6z])|wp_step)
 show b8 _ _ (pC (.ref C) _) _ _ _;refine E4 Tv a6y F.mroIs F.init.lookup ?_;rw[hi];refine rf (bC (a6w (s:=⟨(h.push (nk us)).push (lg C h.objs.size),g,d,t,os⟩) LM wF ?_));refine bC (Au (vN aQ λr b3 z=>?_));rcases r with e|(v|_|_|_)<;>first|exact z|exact z.elim|skip
 obtain⟨rfl,z⟩:=z;exact eC (eC z)
theorem Tw(F:ExcBaseFacts gi newId Tu bm){of:bJ}(e1:h.get? C=B (pA nm q C N bs bm t9 sn sub ab col dd k0 cJ bL eb k5 newId))(aH:h.Ns N fG)(hi:fG "__init__" =B (.ref f))(hf:h.get? f=B of)(wF:of.cls=.type "function")(aQ:me (bq prog w) (A.under (.builtin "type.__call__" ⟨.ref C::us,[]⟩)) (.call (.ref f) ⟨.ref (h.objs.size+1)::us,[]⟩) (Tt (h.objs.size+1) R) ⟨(h.push (nk us)).push (lg C h.objs.size),g,d,t,os⟩)(bz:us.length<=cM):me (bq prog w) A (.call (.ref C) ⟨us,[]⟩) R ⟨h,g,d,t,os⟩:=by
 have dS:=tc_lookup;have f2:=tc_bind (.ref C);have dp:(⟨h,g,d,t,os⟩:ay).TypeIs (.ref C) "type" :=⟨_,e1,Y⟩;refine codeAny_of_tree ?_;show b8 _ _ (callAny (.ref C) _) _ _ _;repeat (any_goals (first|assumption|with_reducible refine nI e1 ?_|wp_step))
 refine⟨Y,?_⟩;refine codeAny_call_builtin_at (aiz _ (by decide+kernel)) entry_typeCall (wpAny_check_type_call_sub e1 ?_);exact a6x F e1 aH hi hf wF aQ bz
end
section
variable{N:I}
theorem a6A{x:hQ ae}{Q:Flow->ay->Prop}(qt:bm.contains (.type "BaseException")=a9)(bU:A.handled=aa)(h:b8 M A x (λv du=>∃e cQ vs,v=.ref e/\du.heap.get? C=B (pA nm q C N bs bm t9 sn sub ab col dd k0 cJ bL eb k5 newId)/\du.heap.get? e=B cQ/\cQ.cls=.ref C/\cQ.data=.fields vs/\vs[1]? =B .none/\E (.ref e) du) E s):b8 M A (x' env (B x) aa) Q E s:=by
 have ta:(dM C::bm).contains (.type "BaseException")=a9:=by rw[OV,qt,OS]
 unfold x';refine bC (mg h (λv du jl=>?_) λ_ _ x=>x);obtain⟨e,cQ,vs,rfl,e1,aF,e_,hd,O,f3⟩:=jl;obtain⟨_,g,d,_,_⟩:=du;repeat (first|(with_reducible refine nI aF ?_;rw[e_])|with_reducible refine nI e1 ?_|(with_reducible refine II e1 ?_;rw[ta])|with_reducible refine jz aF hd O ?_|wp_step)
 exact wpAny_raiseNew_none bU f3
end
variable{e0:I}{vs:Array ae}
section
variable{N:I}
theorem a6B:entryFor table "proto.unchain" =B vG.«proto.unchain»:=entryFor_of_tree (by kernel_rfl)
theorem Tx{bu:Type}{cQ mz:bJ}{o8:Array ae}{Q:bu->ay->Prop}(bU:A.handled=B (.ref e0))(bV:e0≠e)(aF:s.heap.get? e=B cQ)(hd:cQ.data=.fields vs)(hsz:2<vs.size)(b9:s.heap.get? e0=B mz)(o9:mz.data=.fields o8)(BD:o8[2]? =B .none)(h:E (.ref e) {s with heap:=s.heap.update e (kb (·.setIfInBounds 2 (.ref e0)))}):b8 (bq prog w) A (IG (.ref e):hQ bu) Q E s:=by unfold IG;refine bC (ajt ?_);rw[bU];dsimp only;rw[aZ (show(dM e0 !=dM e)=a9 by simpa using bV)];refine bC (rf (wpAny_runValue (Pu a6B ?_)));unfold vG.«proto.unchain»;refine bC (jz b9 o9 BD ?_);rw[aZ (show(eK==eK)=a9 by decide)];refine eC ?_;show b8 _ _ _ _ _ _;refine bC ?_;exact u5 (a:=e) (x:=.ref e0) aF hd hsz (a0U h)
theorem a6C{x c:hQ ae}{Q:Flow->ay->Prop}(qt:bm.contains (.type "BaseException")=a9)(bU:A.handled=B (.ref e0))(h:b8 (bq prog w) A x (λv du=>∃e,v=.ref e/\e0≠e/\b8 (bq prog w) A c (λc du=>c=.none/\∃cQ vs mz o8,du.heap.get? C=B (pA nm q C N bs bm t9 sn sub ab col dd k0 cJ bL eb k5 newId)/\du.heap.get? e=B cQ/\cQ.cls=.ref C/\cQ.data=.fields vs/\vs.size=6/\vs[1]? =B .none/\du.heap.get? e0=B mz/\mz.data=.fields o8/\o8[2]? =B .none/\∀h':br,(∀b,b≠e->h'.get? b=du.heap.get? b)->(∃di,h'.get? e=B {cQ with data:=.fields di}/\di.size=6/\di[1]? =B .none/\di[2]? =B (.ref e0))->E (.ref e) {du with heap:=h'}) E du) E s):b8 (bq prog w) A (x' env (B x) (B c)) Q E s:=by
 have ta:(dM C::bm).contains (.type "BaseException")=a9:=by rw[OV,qt,OS]
 unfold x';refine bC (mg h (λv du jl=>?_) λ_ _ x=>x);obtain⟨e,rfl,bV,jl⟩:=jl;refine bC (rf (mg jl (λv iX sR=>bC (eC ?_)) λ_ _ x=>x));obtain⟨rfl,cQ,vs,mz,o8,e1,aF,e_,hd,hsz,O,b9,o9,BD,f3⟩:=sR;obtain⟨ar,g,d,_,_⟩:=iX;have a6D:C≠e:=λz=>by rw[z,aF]at e1;cases e1;cases hd
 repeat (first|(with_reducible refine nI aF ?_;rw[e_])|with_reducible refine nI e1 ?_|(with_reducible refine II e1 ?_;rw[ta])|with_reducible refine u5 aF hd (show 3<vs.size by omega) ?_|((fail_if_success (with_reducible show b8 _ _ (a0G _ 4 _) _ _ _));wp_step))
 have qJ:=tX hd (·.setIfInBounds 3 eK);have Tz:=ra (kb (·.setIfInBounds 3 eK)) aF (Ah qJ);have a6E:∀b,b≠e->(ar.update e (kb (·.setIfInBounds 3 eK))).get? b=ar.get? b:=λb a0=>nF _ _ a0.symm;refine u5 Tz qJ (by simp;omega) ?_;have yY:=tX qJ (·.setIfInBounds 4 (mT a9));have wG:=ra (kb (·.setIfInBounds 4 (mT a9))) Tz (Ah yY);have F':∀b,b≠e->((ar.update e (kb (·.setIfInBounds 3 eK))).update e (kb (·.setIfInBounds 4 (mT a9)))).get? b=ar.get? b:=λb a0=>(nF _ _ a0.symm).trans (a6E b a0);have LN:(kb (·.setIfInBounds 4 (mT a9)) (kb (·.setIfInBounds 3 eK) cQ)).cls=.ref C:=by rw[Pk,Pk];exact e_
 have a6F:(kb (·.setIfInBounds 4 (mT a9)) (kb (·.setIfInBounds 3 eK) cQ))={cQ with data:=.fields ((vs.setIfInBounds 3 eK).setIfInBounds 4 (mT a9))}:=by obtain⟨c,dd,gA,_⟩:=cQ;have hd:gA=.fields vs:=hd;subst hd;rfl
 generalize a6G:(ar.update e (kb (·.setIfInBounds 3 eK))).update e (kb (·.setIfInBounds 4 (mT a9)))=uK at wG F' ⊢;rw[a6F]at wG LN;have TA:uK.get? C=B (pA nm q C N bs bm t9 sn sub ab col dd k0 cJ bL eb k5 newId):=(F' C a6D).trans e1;have a6H:uK.get? e0=B mz:=(F' e0 bV).trans b9;have LO:((vs.setIfInBounds 3 eK).setIfInBounds 4 (mT a9))[1]? =B eK:=by rw[OR (by decide),OR (by decide)];exact O
 have LP:((vs.setIfInBounds 3 eK).setIfInBounds 4 (mT a9)).size=6:=by simpa using hsz
 generalize (vs.setIfInBounds 3 eK).setIfInBounds 4 (mT a9)=di at wG LN LO LP;repeat (first|(with_reducible refine nI wG ?_;rw[LN])|with_reducible refine nI TA ?_|(with_reducible refine II TA ?_;rw[ta])|with_reducible refine jz wG Y LO ?_|wp_step)
 refine Tx bU bV wG Y (by omega) a6H o9 BD (f3 _ (λb a0=>(nF _ _ a0.symm).trans (F' b a0)) ⟨di.setIfInBounds 2 (.ref e0),?_,by simpa using LP,?_,by simp[LP]⟩)
 .exact ra (kb (·.setIfInBounds 2 (dM e0))) wG (Ah (tX (vs:=di) Y _))
 rw[OR (by decide)];exact LO
end
abbrev oa:List ae:=[.type "ValueError",.type "Exception",.type "BaseException",.type "object"]
variable{mA:a8->Option ae}{o:bJ}
section
variable{N x:I}{name:a8}{v:ae}
theorem a6I{TB:ae}(e1:h.get? C=B (pA nm q C N bs oa a9 sn sub ab col dd k0 cJ bL eb k5 newId))(ag:h.get? x=B o)(a7:o.cls=.ref C)(aQ:Q () ⟨h,g,d,t,os⟩):b8 M A (aja "BaseException.__getattribute__" ⟨[.ref x,TB],[]⟩) Q E ⟨h,g,d,t,os⟩:=by
 have aA:builtinKind "BaseException.__getattribute__" =B .slot:=by decide+kernel
 have ax:splitId "BaseException.__getattribute__" =B ("BaseException","__getattribute__"):=by decide+kernel
 have ta:(dM C::oa).contains (.type "BaseException")=a9:=by rw[OV];simp[oa]
 have bf:=F.args_bexc_ga (.ref x) TB;simp only[aja,aA,ax];refine bC ?_;unfold a0B;repeat (first|(with_reducible refine nI ag ?_;rw[a7])|(with_reducible refine II e1 ?_;rw[ta])|wp_step)
 exact aQ
theorem a6J{tk:jy}{Q:Fin->ay->Prop}(e1:h.get? C=B (pA nm q C N bs oa a9 sn sub ab col dd k0 cJ bL eb k5 newId))(aH:h.Ns N fG)(lh:fG name=aa)(n9:pC (.type "ValueError") name=pure aa)(D:h.Inst x C mA)(bk:mA name=B v)(aQ:Q (.done (.ret v)) ⟨h,g,d,t,os⟩):b8 (bq prog w) A (vG.«object.__getattribute__» ⟨[.ref x,.str name tk],[]⟩) Q E ⟨h,g,d,t,os⟩:=by
 obtain⟨o,ag,a7,a6K,hd⟩:=D;obtain⟨_,a6L⟩|⟨a3,fF,bV,rC⟩:=hd
 .rw[a6L name]at bk;cases bk
 unfold vG.«object.__getattribute__»;repeat (first|(with_reducible refine nI ag ?_;rw[a7])|(with_reducible refine E4 e1 aH F.excBase_ValueError.mroIs n9 ?_;rw[lh])|wp_step)
 split
 .rename_i d5 l1
  exact absurd l1 (a6K d5)
 unfold instanceDict;repeat (first|(with_reducible refine nI ag ?_;rw[a7])|with_reducible refine nI e1 ?_|wp_step)
 rw[fF];repeat (first|(with_reducible refine wpAny_nsGet rC.ns ?_;rw[bk])|wp_step)
 exact aQ
theorem a6M{AS:Bool}{Q:ae->ay->Prop}(e1:h.get? C=B (pA nm q C N bs oa a9 sn sub ab col dd k0 cJ bL eb k5 newId))(aH:h.Ns N fG)(a6N:fG "__getattribute__" =aa)(a6O:fG "__getattr__" =aa)(lh:fG name=aa)(n9:pC (.type "ValueError") name=pure aa)(D:h.Inst x C mA)(bk:mA name=B v)(bU:handedOut v=pure v)(aQ:Q v ⟨h,g,d,t+1,os⟩):b8 (bq prog w) A (IB (.ref x) name AS) Q E ⟨h,g,d,t,os⟩:=by
 obtain⟨o,ag,a7,_⟩:=id D;have dw:=F.attrBase_ValueError.ga.bind (.ref x);have mB:(AS&&onTheHeap (Iv "BaseException.__getattribute__"))=aJ:=by cases AS<;>rfl
 have hv:(Iv "BaseException.__getattribute__" ==Iv "object.__getattribute__")=aJ:=by decide+kernel
 have lW:(onTheHeap (dM C)&&Iv "BaseException.__getattribute__" ==Iv "object.__getattribute__")=aJ:=by rw[hv];rfl
 unfold IB getAttrBy;repeat (any_goals (first|assumption|(with_reducible refine nI ag ?_;rw[a7])|(with_reducible refine E4 e1 aH F.excBase_ValueError.mroIs F.attrBase_ValueError.ga.lookup ?_;rw[a6N])|(with_reducible refine E4 e1 aH F.excBase_ValueError.mroIs F.attrBase_ValueError.noGetattr ?_;rw[a6O])|wp_step))
 refine ajb F.attrBase_ValueError.ga.plain F.entry_bexc_ga (a6I e1 ag a7 (a6J e1 aH lh n9 D bk ?_));show b8 _ _ (handedOut v) _ _ _;rw[bU];exact eC aQ
end
open Builtin Builtin.ObjectAttr
section
variable{N x:I}{name:a8}{v:ae}
theorem a6P{gi nX LQ:String}(rM:StoreFacts gi bm nX LQ){tk:jy}{Q:Fin->ay->Prop}(e1:h.get? C=B (pA nm q C N bs bm a9 sn sub ab col dd k0 cJ bL eb k5 newId))(aH:h.Ns N fG)(lh:fG name=aa)(n9:pC (.type gi) name=pure aa)(ag:h.get? x=B o)(a7:o.cls=.ref C)(qK:o.data=.fields vs)(BE:o.dict=aa)(aQ:∀h' nq,h'.get? x=B {o with dict:=B h.objs.size}->h'.Ns1 h.objs.size (λy=>if y=name then B v else aa)->(∀b cE,b≠x->h.get? b=B cE->h'.get? b=B cE)->Q (.done (.ret .none)) ⟨h',g,d,nq,os⟩):b8 (bq prog w) A (vG.«object.__setattr__» ⟨[.ref x,.str name tk,v],[]⟩) Q E ⟨h,g,d,t,os⟩:=by
 have a6Q:=rM.passes (.ref x);unfold vG.«object.__setattr__»;repeat (first|rw[refuse_eq]|(rw[refuseLoop_ref,a6Q])|(with_reducible refine nI ag ?_;rw[a7])|with_reducible refine wpAny_mroOf_exc e1 ?_|(with_reducible refine E4 e1 aH rM.mro n9 ?_;rw[lh])|wp_step)
 rw[BE,aL (show¬_ by simp[typeHasDict])];rw[qK];have lW:(h.push {cls:=.type "dict",data:=.dict #[]}).get? x=B o:=e9 _ ag;have G0:x≠h.objs.size:=gW (dF ag);refine bC (wpAny_alloc' ?_);refine bC (wpAny_update' lW (eC ?_));have hv:=ra (λo:bJ=>{o with dict:=B h.objs.size}) lW (by obtain⟨_,_,a6R,_⟩:=o;have qK:a6R=.fields vs:=qK;subst qK;rfl);have G1:((h.push {cls:=.type "dict",data:=.dict #[]}).update x λo:bJ=>{o with dict:=B h.objs.size}).get? h.objs.size=B {cls:=.type "dict",data:=.dict #[]}:=
  (aiK _ _ _ _ G0.symm).trans (Heap.get?_push_at Y Y)
 have Bq:∀b cE,b≠x->h.get? b=B cE->((h.push {cls:=.type "dict",data:=.dict #[]}).update x λo:bJ=>{o with dict:=B h.objs.size}).get? b=B cE:=λb cE a0 e=>(aiK _ _ _ _ a0).trans (e9 _ e);generalize a6G:((h.push {cls:=.type "dict",data:=.dict #[]}).update x λo:bJ=>{o with dict:=B h.objs.size})=a5 at hv G1 Bq;have uB:a5.Ns h.objs.size (λ_=>aa):=⟨_,#[],_,G1,Y,λe aF=>absurd aF (by simp),λ_=>rfl⟩;show b8 _ _ (storeInDict h.objs.size (.str name tk) name v) _ _ _;unfold storeInDict newKeyGuard;rw[show({cls:=o.cls,dict:=B h.objs.size,data:=o.data,slots:=o.slots}:bJ)={o with dict:=B h.objs.size}from Y]at hv;refine bC (eC (bC ?_));refine wpAny_nsSet1 (s:=⟨a5,g,d,t,os⟩) (aiI uB) λh' Ej ax=>?_;obtain⟨_,_,_,JA,JB,JC⟩:=Ej.count (aj6 name v Within.nil);refine bC (ajz JA (by rw[JB];exact ajk (dC JC (by rw[fQ,tS,Py];omega))) ?_)
 wp_walk
 exact aQ h' _ ((ax.2 x G0).trans hv) Ej λb cE a0 e=>(ax.2 b (gW (dF e))).trans (Bq b cE a0 e)
theorem a6S{gi nX LQ:String}(rM:StoreFacts gi bm nX LQ)(e1:h.get? C=B (pA nm q C N bs bm a9 sn sub ab col dd k0 cJ bL eb k5 newId))(aH:h.Ns N fG)(rC:fG "__setattr__" =aa)(lh:fG name=aa)(n9:pC (.type gi) name=pure aa)(ag:h.get? x=B o)(a7:o.cls=.ref C)(qK:o.data=.fields vs)(BE:o.dict=aa)(aQ:∀h' nq,h'.get? x=B {o with dict:=B h.objs.size}->h'.Ns1 h.objs.size (λy=>if y=name then B v else aa)->(∀b cE,b≠x->h.get? b=B cE->h'.get? b=B cE)->Q () ⟨h',g,d,nq,os⟩):b8 (bq prog w) A (Ap (.ref x) name v) Q E ⟨h,g,d,t,os⟩:=by
 have dw:=rM.slot.bind (.ref x);unfold Ap callSpecial? specialOf;repeat (any_goals (first|assumption|(with_reducible refine nI ag ?_;rw[a7])|(with_reducible refine E4 e1 aH rM.mro rM.slot.lookup ?_;rw[rC])|wp_step))
 refine ajb rM.slot.plain rM.entry (wpAny_check_sa rM e1 ag a7 (a6P rM e1 aH lh n9 ag a7 qK BE λh' nq a b c=>?_));repeat (any_goals (first|assumption|wp_step))
 exact aQ h' nq a b c
theorem a6T(e1:h.get? C=B (pA nm q C N bs oa a9 sn sub ab col dd k0 cJ bL eb k5 newId))(aH:h.Ns N fG)(rC:fG "__setattr__" =aa)(lh:fG name=aa)(n9:pC (.type "ValueError") name=pure aa)(ag:h.get? x=B o)(a7:o.cls=.ref C)(qK:o.data=.fields vs)(BE:o.dict=aa)(aQ:∀h' nq,h'.get? x=B {o with dict:=B h.objs.size}->h'.Ns1 h.objs.size (λy=>if y=name then B v else aa)->(∀b cE,b≠x->h.get? b=B cE->h'.get? b=B cE)->Q () ⟨h',g,d,nq,os⟩):b8 (bq prog w) A (Ap (.ref x) name v) Q E ⟨h,g,d,t,os⟩:=a6S F.store_ValueError e1 aH rC lh n9 ag a7 qK BE aQ
theorem a6U{a3:I}{ns:List a8}(e1:h.get? C=B (pA nm q C N bs oa a9 sn sub ab col dd k0 cJ bL eb k5 newId))(aH:h.Ns N fG)(rC:fG "__setattr__" =aa)(lh:fG name=aa)(n9:pC (.type "ValueError") name=pure aa)(ag:h.get? x=B o)(a7:o.cls=.ref C)(qK:o.data=.fields vs)(fF:o.dict=B a3)(bV:a3≠x)(yy:h.Ns1 a3 mA)(hw:Within mA ns)(aR:ns.length<=cM)(aQ:∀h' nq,h'.get? x=B o->h'.Ns1 a3 (λy=>if y=name then B v else mA y)->(∀b cE,b≠a3->h.get? b=B cE->h'.get? b=B cE)->Q () ⟨h',g,d,nq,os⟩):b8 (bq prog w) A (Ap (.ref x) name v) Q E ⟨h,g,d,t,os⟩:=by
 have a6V:x≠C:=λz=>by rw[z,e1]at ag;cases ag;cases qK
 refine store_attr F.store_ValueError e1 aH rC lh n9 a6V ⟨o,ag,a7,(λc e=>by rw[qK]at e;cases e),.inr ⟨a3,fF,bV,yy⟩⟩ (λh' nq el cJ bL=>?_) hw aR;obtain⟨o1,aO,eG,oL,s1,gJ⟩:=bL o ag;have kg:o1=o:=by obtain⟨_,_,_,_⟩:=o1;obtain⟨_,_,_,_⟩:=o;have:=gJ a3 fF;simp only at eG oL s1 this fF;rw[eG,oL,s1,this,fF]
 subst kg;obtain⟨_,aT,_,_,dR⟩:=el;rw[aO]at aT;cases aT;obtain⟨z,_⟩|⟨h2,z,_,cS⟩:=dR
 .rw[fF]at z;cases z
 rw[fF]at z;cases z;refine aQ h' nq aO cS λb cE a0 e=>?_;by_cases TC:b=x
 .subst TC;rw[ag]at e;cases e;exact aO
 exact cJ b cE TC (λ_ _ bx cw=>by rw[ag]at bx;cases bx;rw[fF]at cw;cases cw;exact a0) e
end
open PySem.Spec PyProof.Rows L2
def dj(e C:I)(a3:Option I)(m:Nat):dy:=.ext λh=>∃cQ vs,h.get? e=B cQ/\cQ.cls=.ref C/\cQ.dict=a3/\cQ.data=.fields vs/\vs.size=6/\(m=0->vs[1]? =B .none)/\(m<=1->vs[2]? =B .none)
def gm(a3:I)(fs:List (a8×V)):dy:=.ext λh=>fs.length<=1000/\∃mA,h.Ns1 a3 mA/\(∀f,jN (fs.lookup f) (mA f))/\DS mA (fs.map (·.1))
variable{P:bQ}{H:ak}{m:Nat}
section
variable{a3:I}{od:Option I}{fs:List (a8×V)}
theorem yZ(x:∃cQ vs,h.get? e=B cQ/\cQ.cls=.ref C/\cQ.dict=od/\cQ.data=.fields vs/\vs.size=6/\(m=0->vs[1]? =B .none)/\(m<=1->vs[2]? =B .none)):h7 P w H h e (dj e C od m):=
 ⟨x,let⟨cQ,_,q,_⟩:=x;⟨cQ,q⟩,λ_ _ ⟨cQ,vs,q,r⟩ k=>⟨cQ,vs,k cQ q,r⟩⟩
theorem TF(aq:fs.length<=1000)(x:∃mA,h.Ns1 a3 mA/\(∀f,jN (fs.lookup f) (mA f))/\DS mA (fs.map (·.1))):h7 P w H h a3 (gm a3 fs):=
 ⟨⟨aq,x⟩,let⟨_,⟨o,_,_,q,_⟩,_⟩:=x;⟨o,q⟩,λ_ _ ⟨l,mA,n,r⟩ k=>⟨l,mA,n.at k,r⟩⟩
theorem wH(x:f' P w H h)(q:H e=B (dj e C od m)):∃cQ vs,h.get? e=B cQ/\cQ.cls=.ref C/\cQ.dict=od/\cQ.data=.fields vs/\vs.size=6/\(m=0->vs[1]? =B .none)/\(m<=1->vs[2]? =B .none):=(x e _ q).1
theorem TG(x:f' P w H h)(q:H a3=B (gm a3 fs)):fs.length<=1000/\∃mA,h.Ns1 a3 mA/\(∀f,jN (fs.lookup f) (mA f))/\DS mA (fs.map (·.1)):=(x a3 _ q).1
end
def mC(u:Nat)(P:bQ)(w:bI):jR:=λouter H s E iZ b3=>∃e C a3 m T d_ H',iZ=.ref e/\b3.os=s.os/\xM b3.gens/\iV (ml outer) [] H H' s.heap b3.heap/\f' P w H' b3.heap/\H' e=B (dj e C (B a3) m)/\(1<=m/\m<=u)/\H' T=aa/\hu s.heap.objs.size e C (B a3) d_ (B T) .none b3.heap/\E (.ref C) (B a3) H'
abbrev pd(P:bQ)(w:bI):jR:=mC 1 P w
def mD(u:Nat)(X:bB)(E:dN):Prop:=∀(a4:List (I×bJ))(G:L2.St)(H:ak)(s:ay)(e C a3:I)(m:Nat)(d_ dE:ae)(T:Option I),Inv X a4 G H s->H e=B (dj e C (B a3) m)->(1<=m/\m<=u)->(∀t,T=B t->H t=aa/\∀p∈X.cZ++a4,p.1≠t)->hu X.gv.heap.objs.size e C (B a3) d_ T dE s.heap->(dE=.none∨(T.isSome=a9/\dE=iz X.env.locals))->E (.ref C) (B a3) H->X.bN (.ref e) s
variable{X:bB}{a4:List (I×bJ)}{G:L2.St}{h':br}
section
variable{a3:I}
theorem Inv.y_{m':Nat}{od:Option I}(D:Inv X a4 G H s)(aF:rl (H e))(kp:ko (ml X.stack) e ts s.heap h')(BF:∀t∈ts,H t=aa/\X.gv.heap.objs.size<=t/\t≠X.env.locals/\(∀x c,X.env.cells.lookup x=B c->c≠t)/\∀p∈X.cZ++a4,p.1≠t)(aU:h7 X.prog X.w (av H e (dj e C od m')) h' e (dj e C od m')):Inv X a4 G (av H e (dj e C od m')) {s with heap:=h'}:=by
 have bV:∀{b:I},H b=aa->b≠e:=fun{b} a0 z=>by rw[z]at a0;rw[a0]at aF;exact aF
 obtain⟨cQ,tb⟩:∃gY,h'.get? e=B gY:=let⟨cQ,_,q,_⟩:=aU.1;⟨cQ,q⟩
 have iU:∀{b:I}{u:dy},H b=B u->¬rl (B u)->b≠e:=fun{b u} a0 hm z=>by rw[z]at a0;rw[a0]at aF;exact hm aF
 have TH:∀{b:I}{u:dy},H b=B u->b∉ts:=fun{b u} a0 hm=>by rw[(BF b hm).1]at a0;cases a0
 have Eg:∀{b:I}{u:dy},H b=B u->b∉ml X.stack:=fun{b u} a0 hm=>by rw[D.J4 b hm]at a0;cases a0
 refine D.call (g':=s.gens) (d':=s.drawn) (t':=s.toks) (ch:=ts) ⟨λb o a0 n lF qL=>kp.keep b o a0 lF (bV n) qL,λb o a0 n _ qL=>kp.slot b o a0 (bV n) qL,λb o a0 n _=>by rw[aN (bV n)];exact n,λb o a0 qL=>?_,
  λb xs a0=>by rw[aN (iU a0 (λz=>z))];exact a0,λb o u a0=>by rw[aN (iU a0 (λz=>z))];exact a0,λb _ a0=>⟨#[],by rw[aN (iU a0 (λz=>z)),a0];simp⟩⟩ (λb u a0=>?_) D.bare
  (λb a0=>⟨.inr (BF b a0).2.1,(BF b a0).2.2.1,(BF b a0).2.2.2.1,(BF b a0).2.2.2.2⟩)
 .by_cases z:b=e
  .subst z;exact⟨cQ,tb⟩
  obtain⟨_,q⟩:=kp.slot b o a0 z qL;exact⟨_,q⟩
 by_cases z:b=e
 .subst z;rw[b0]at a0;cases a0;exact aU
 rw[aN z]at a0;refine(D.bR b u a0).rk (λc v a7 q=>?_) (λc q=>?_) λc xs q=>?_
 .obtain a7|a7:=a7
  .subst a7;exact kp.keep c v q (Eg a0) z (TH a0)
  exact kp.keep c v q (Eg a7) (iU a7 (λz=>z)) (TH a7)
 .rw[aN (iU q (λz=>z))];exact q
 rw[aN (iU q (λz=>z))];exact q
theorem y'(q:H e=B (dj e C (B a3) m)):rl (H e):=by rw[q];exact trivial
theorem G2{o:dy}(q:H e=B o):av H e o=H:=by
 funext b;unfold av;by_cases z:b=e
 .rw[aZ z,z,q]
 rw[aL z]
theorem TJ(D:Inv X a4 G H s)(q:H e=B (dj e C (B a3) 0)):hu X.gv.heap.objs.size e C (B a3) .none aa .none s.heap:=by obtain⟨cQ,vs,et,eM,hH,ir,mE,nr,lX⟩:=wH D.bR q;exact⟨⟨cQ,vs,et,eM,hH,ir,mE,nr Y,lX (by omega)⟩,λt z=>by cases z⟩
theorem G3(x:hu n e C (B a3) d_ T dE h)(hm:1<=m)(a7:m<=1->d_=.none):h7 P w H h e (dj e C (B a3) m):=by obtain⟨cQ,vs,et,eM,hH,ir,mE,_,lX⟩:=x.obj;exact yZ ⟨cQ,vs,et,eM,hH,ir,mE,λz=>absurd z (by omega),λz=>by rw[lX,a7 z]⟩
theorem LR(D:Inv X a4 G H s)(q:H e=B (dj e C (B a3) m))(x:hu n e C (B a3) d_ T dE s.heap)(hm:m<=1):d_=.none:=by obtain⟨_,_,et,_,_,ir,_,_,lX⟩:=wH D.bR q;obtain⟨_,_,b1,_,_,wz,_,_,G4⟩:=x.obj;rw[et]at b1;cases b1;rw[ir]at wz;cases wz;rw[lX hm]at G4;exact(gX G4).symm
theorem G5(D:Inv X a4 G H s)(x:hu X.gv.heap.objs.size e C (B a3) d_ T dE s.heap)(dp:∀t,T=B t->H t=aa/\∀p∈X.cZ++a4,p.1≠t):∀t∈T.toList,H t=aa/\X.gv.heap.objs.size<=t/\t≠X.env.locals/\(∀x c,X.env.cells.lookup x=B c->c≠t)/\∀p∈X.cZ++a4,p.1≠t:=λt ba=>by
 have ba:T=B t:=by simpa using ba
 obtain⟨et,_,_,_,hH,ir,_⟩:=x.cu t ba;obtain⟨b1,b2⟩:=dp t ba;refine⟨b1,et,λz=>?_,λy c a7 z=>?_,b2⟩
 .obtain⟨_,⟨o,_,_,aU,hd,_⟩,_⟩:=D.loc;rw[<-z,hH]at aU;cases aU;rw[ir]at hd;cases hd
 obtain⟨v,o,aU,hd⟩:=D.cell y c a7;rw[z,hH]at aU;cases aU;rw[ir]at hd;cases hd
theorem a70{pe:ae->ay->Prop}(ft:X.stack=X.env::X.outer)(hf:X.env.frame=B X.env.locals)(D:Inv X a4 G H s)(q:H e=B (dj e C (B a3) m))(hm:1<=m)(dp:∀t,T=B t->H t=aa/\∀p∈X.cZ++a4,p.1≠t)(x:hu X.gv.heap.objs.size e C (B a3) d_ T dE s.heap)(pf:dE=.none∨(T.isSome=a9/\dE=iz X.env.locals))(h:∀h' jI,Inv X a4 G H {s with heap:=h'}->H jI=aa->hu X.gv.heap.objs.size e C (B a3) d_ (B jI) .none h'->Q () {s with heap:=h'}):b8 (bq X.prog X.w) X.A (DX X.env (.ref e)) Q pe s:=by
 have jE:X.A.frames=B (X.env::X.outer):=by rw[<-ft];exact D.ok.frames
 have aq:s.heap.FunFrames X.base (X.env::X.outer):=by rw[<-ft];exact D.stack
 have G6:=G5 D x dp;have yE:=λz=>LR D q x z;obtain rfl|⟨ax,rfl⟩:=pf
 .refine a6v jE aq hf x D.l0 λh' jI eN rG kp=>?_;have el:=Inv.y_ (m':=m) (od:=B a3) (C:=C) D (y' q) (by unfold ml;rw[ft];exact kp) G6 (G3 eN hm yE);rw[G2 q]at el;exact h h' jI el (D.bR.fresh rG) eN
 obtain⟨t,rfl⟩:=P7.mp ax;refine leave_held hf x λh' eN kp=>?_;have el:=Inv.y_ (m':=m) (od:=B a3) (C:=C) D (y' q) (kp.mono (λ_ z=>nomatch z) (λ_ z=>z)) G6 (G3 eN hm yE);rw[G2 q]at el;exact h h' t el (dp t Y).1 eN
end
variable{K:bj}{a6:a8->Option ae}{N:List a8}{u:Nat}
theorem dW{cm:a8}{scope:hZ}{d5:ae}{E:dN}:mD u (oU (mC u P w) P w K a6 base N cm scope f d5 A outer s H E) E:=by intro _ G ai _ e C a3 m d_ _ T D q hm dp x pf f3;refine a70 (X:=oU (mC u P w) P w K a6 base N cm scope f d5 A outer s H E) Y Y D q hm.1 dp x pf λ_ jI el BG eN=>?_;exact⟨e,C,a3,m,jI,d_,ai,Y,el.os,el.bare,el.base,el.bR,q,hm,BG,eN,f3⟩
section
variable{E:dN}
theorem mD.passes(c:mD u X E)(bz:t<=u:=by decide):lK (mC t X.prog X.w) X E:=by intro a4 G H s _ b3 D h;obtain⟨e,C,a3,m,T,d_,H',rfl,aU,aI,un,bR,q,hm,BG,x,f3⟩:=h;have el:Inv X a4 G H' b3:=D.El (ch:=[]) aU un bR aI (λ_ z=>nomatch z);refine c a4 G H' b3 e C a3 m d_ .none (B T) el q ⟨hm.1,dC hm.2 bz⟩ (λt z=>?_) (x.mono D.l0) (.inl Y) f3;cases z;refine⟨BG,λp ar z=>?_⟩;have a:=(x.cu T Y).1;have b:=dF (D.pin p ar).1;rw[z]at b;exact absurd b (Ae.mpr a)
end
variable{x:a8}{fd:ka}{aK:List a8}{k:Nat}{sp:bF}
theorem _root_.L2.o4.kq{cm:a8}{st:bH}(F:o4 K x cm st f fd)(S:bZ N aK (bo st))(len:∀vs H Q E,sp vs H Q E->vs.length=aK.length)(sG:∀(b4:ae)(A:d9)(outer:List eB)(s:ay)(H:ak)(vs:List V)(Q:cR)(E:dN),dn k (A.deeper (fB cm (bo st) s.heap.objs.size f b4))->sp vs H Q E->∃t,ie (oU (mC u P w) P w K a6 base N cm (bo st) f b4 A outer s H E) (lP st) t/\t {c6:=λ_ H'=>Q .bS H',ic:=Q} (start N vs) H):jD P w K a6 base (mC u P w) (k+1) f fd aK sp:=by obtain⟨_,_,_,_,_,_,b4,_,_,rfl,lk,l1⟩:=F.ex;exact QG lk l1 S len λA outer s H vs Q E ah l6=>sG b4 A outer s H vs Q E ah l6
structure iM (K:bj) (C f:I) (cV:List a8):Prop where
 ex:∃nm q N bs sn sub ab col dd k0 cJ bL eb k5 fG,K.lookup C=B (pA nm q C N bs oa a9 sn sub ab col dd k0 cJ bL eb k5 "ValueError.__new__")/\(∀h,K.In h->h.Ns N fG)/\fG "__init__" =B (.ref f)/\
  fG "__setattr__" =aa/\fG "__getattribute__" =aa/\fG "__getattr__" =aa/\∀a∈cV,fG a=aa
 fn:∃of,K.lookup f=B of/\of.cls=.type "function"
 at_:∀a∈cV,pC (.type "ValueError") a=pure aa
 dH:nH K (.ref C)=a9
variable{cV:List a8}{p pos:Pos}{b7:List bP}{bY:b'}
section
variable{CX:jR}{E:dN}{e:bP}{t:gE}
theorem a71{Q:cR}{vs:List V}(e8:iM X.K C f cV)(F:jD X.prog X.w X.K X.a6 X.base CX k f fd aK sp)(ah:dn (k+1) X.A)(a0:Binds X.K fd aK [])(ag:lK CX X E)(D:Inv X a4 G H s)(r:cB vs us)(aR:vs.length<=cM)(h:∀a,H a=aa->sp (.ref a::vs) (av H a (dj a C aa 0)) (λv au=>v=.bS/\Q (.ref a) au) E):b8 (bq X.prog X.w) X.A (mU (.ref C) us) (i0 X a4 G Q) X.bN s:=by
 obtain⟨_,q,N,_,_,_,_,_,_,_,_,_,_,_,_,e1,dD,hi,_,_,_,_⟩:=e8.ex;obtain⟨_,hf,wF⟩:=e8.fn;have hR:=D.gQ;obtain⟨ar,g,d,tk,os⟩:=s;have aQ:=h (ar.objs.size+1) (D.bR.fresh (sf _));have c7:∀b u,ar.get? b=B u->((ar.push (nk us)).push (lg C ar.objs.size)).get? b=B u:=λb u z=>e9 _ (e9 _ z);have BC:((ar.push (nk us)).push (lg C ar.objs.size)).get? (ar.objs.size+1)=B (lg C ar.objs.size):=by heap_get
 have cL:Inv X a4 G (av H (ar.objs.size+1) (dj (ar.objs.size+1) C aa 0)) ⟨(ar.push (nk us)).push (lg C ar.objs.size),g,d,tk,os⟩:=
  D.laid (a:=ar.objs.size+1) (o:=dj (ar.objs.size+1) C aa 0) (t':=tk) c7 (sf _) (yZ ⟨_,_,BC,Y,Y,Y,Y,λ_=>rfl,λ_=>rfl⟩)
 have dR:cB (V.ref (ar.objs.size+1)::vs) (dM (ar.objs.size+1)::us):=.cons Y r;have aq:(dM (ar.objs.size+1)::us++[]).length=aK.length:=by have z:=dR.length;rw[F.len _ _ _ _ aQ]at z;rw[hN];exact z.symm
 have wo:=a0 ⟨(ar.push (nk us)).push (lg C ar.objs.size),g,d,tk,os⟩ (dM (ar.objs.size+1)::us) cL.gQ aq;rw[hN]at wo;refine Au (Tw aiE (hR _ _ e1) (dD _ hR) hi (hR _ _ hf) wF (vN (F.run _ X.stack _ _ ⟨dM (ar.objs.size+1)::us,[]⟩ (dM (ar.objs.size+1)::us) _ _ E (ah.make C us []) (cL.yt.make C us []) wo dR aQ) λiC b3 kf=>?_) (by rw[<-r.length];exact aR));cases iC with
 |error iZ=>exact ag a4 G _ _ iZ b3 cL kf
 |ok dE=>cases dE with|ret u=>obtain⟨v,H',dG,cA,iZ,h1⟩:=cL.after kf;subst iZ;exact⟨cA,⟨V.ref (ar.objs.size+1),H',dG,Y,h1⟩⟩|next=>exact hk kf|brk=>exact hk kf|cont=>exact hk kf
def wI(C:I)(sp:bF)(E:dN)(t:gE):b':=λG H Q=>t G H λvs ai=>vs.length<=cM/\∀a,ai a=aa->sp (.ref a::vs) (av ai a (dj a C aa 0)) (λv au=>v=.bS/\Q (.ref a) au) E
theorem a72(e8:iM X.K C f cV)(F:jD X.prog X.w X.K X.a6 X.base CX k f fd aK sp)(ah:dn (k+1) X.A)(aI:hA X x)(hm:X.a6 x=B (.ref C))(a0:Binds X.K fd aK [])(ag:lK CX X E)(bf:hz X (e::b7) t)(gd:kF x:=by decide)(aF:nY X e b7:=by rfl)(eF:l5 X pos b7:=by rfl):
  bT X (.Call (.Name x p) (e::b7) [] pos) (wI C sp E t):=by
 intro a4 s G H Q D h;refine vP (oJ D aI hm ?_ gd);exact xR (h₀:=X.base) D.ok.mod.hR e8.dH (bW (bf pos a4 s G H _ D h) λ_ _ ⟨_,_,aP,r,q⟩=>⟨aP.gQ,a71 e8 F ah a0 ag aP r q.1 q.2⟩) aF eF
def TK(K:bj)(bY:b')(E:dN):er:=λ_ G H=>bY G H λx ai=>∃a C a3 f cV,x=.ref a/\ai a=B (dj a C (B a3) 0)/\iM K C f cV/\E (.ref C) (B a3) (av ai a (dj a C (B a3) 1))
theorem wJ(aF:bT X e bY)(a7:X.calm=a9)(c:mD u X E)(bz:1<=u:=by decide):jd X (.Raise (B e) aa pos) (TK X.K bY E):=by
 intro a4 s G H af D h;rw[aj7];refine bC (rh ?_);have key:b8 (bq X.prog X.w) X.A (eval e X.env) (λv s1=>∃a C a3 f cV ai,v=.ref a/\Inv X a4 G ai s1/\ai a=B (dj a C (B a3) 0)/\iM X.K C f cV/\E (.ref C) (B a3) (av ai a (dj a C (B a3) 1))) X.bN s:=by refine bW (aF a4 s G H _ D h) λv s1 ⟨y,ai,aP,cC,a,C,a3,f,cV,oZ,q,pY,f3⟩=>?_;subst oZ;exact⟨a,C,a3,f,cV,ai,cC,aP,q,pY,f3⟩
 unfold x';refine bC (bC (bW key λv s1 ⟨a,C,a3,f,cV,ai,iZ,aP,q,pY,f3⟩=>bC (rh (eC ?_))));subst iZ;obtain⟨nm,iG,N,bs,sn,sub,ab,col,dd,k0,cJ,bL,eb,k5,_,e1,_,_⟩:=pY.ex;have jZ:=TJ aP q;obtain⟨cQ,vs,et,eM,hH,ir,mE,nr,lX⟩:=jZ.obj;have cL:=Inv.y_ (ts:=[]) (m':=1) (od:=B a3) (C:=C) aP (y' q) (ko.refl _ _ _ _) (λ_ z=>nomatch z) (yZ ⟨cQ,vs,et,eM,hH,ir,mE,λz=>(nomatch z),λ_=>lX⟩);have fin:=c a4 G _ _ a C a3 1 .none .none aa cL b0 ⟨cO _,bz⟩ (λt z=>nomatch z) jZ (.inl Y) f3;have BH:=a6A (M:=bq X.prog X.w) (A:=X.A) (E:=X.bN) (env:=X.env) (s:=s1) (x:=pure (.ref a)) (Q:=m_ X a4 af) (nm:=nm) (q:=iG) (C:=C) (N:=N) (bs:=bs) (bm:=oa) (t9:=a9) (sn:=sn) (sub:=sub) (ab:=ab) (col:=col) (dd:=dd) (k0:=k0) (cJ:=cJ) (bL:=bL) (eb:=eb) (k5:=k5) (newId:="ValueError.__new__") Y (aP.ok.hd a7)
  (eC ⟨a,cQ,vs,Y,aP.gQ _ _ e1,et,eM,ir,nr,fin⟩)
 unfold x' at BH;exact BH
end
variable{l4:Pos}
section
variable{E:dN}{o l3 e:bP}{f:a8}{iY:Pos}{c0 l2:b'}
def a73(K:bj)(c0 l2:b')(f:a8):er:=λaf G H=>l2 G H λy ai=>c0 G ai λx au=>∃a C gB cV,x=.ref a/\iM K C gB cV/\f∈cV/\((au a=B (dj a C aa 0)/\∀a3,au a3=aa->a3≠a->af.c6 G (av (av au a3 (gm a3 [(f,y)])) a (dj a C (B a3) 0)))∨(∃a3 fs,au a=B (dj a C (B a3) 0)/\au a3=B (gm a3 fs)/\a3≠a/\fs.length<1000/\af.c6 G (av au a3 (gm a3 (gH f y fs)))))
theorem TM{fs:List (a8×V)}{y:V}{u:ae}(ah:∀g,jN (fs.lookup g) (mA g))(r:RelV y u):∀g,jN ((gH f y fs).lookup g) (if g=f then B u else mA g):=λg=>by
 rw[JD];by_cases z:g=f
 .rw[aZ z,aZ z];exact r
 rw[aL z,aL z];exact ah g
theorem a74{a gB:I}{y:V}{u:ae}{a75:ae->ay->Prop}(D:Inv X a4 G H s)(e8:iM X.K C gB cV)(hf:f∈cV)(r:RelV y u)(h:(H a=B (dj a C aa 0)/\∀a3,H a3=aa->a3≠a->∀b3,Inv X a4 G (av (av H a3 (gm a3 [(f,y)])) a (dj a C (B a3) 0)) b3->Q () b3)∨(∃a3 fs,H a=B (dj a C (B a3) 0)/\H a3=B (gm a3 fs)/\a3≠a/\fs.length<1000/\∀b3,Inv X a4 G (av H a3 (gm a3 (gH f y fs))) b3->Q () b3)):b8 (bq X.prog X.w) A (Ap (.ref a) f u) Q a75 s:=by
 obtain⟨_,q,N,_,_,_,_,_,_,_,cJ,bL,_,_,_,e1,dD,_,z0,_,_,j_⟩:=e8.ex;have hR:=D.gQ;obtain⟨ar,g,d,_,_⟩:=s;obtain⟨lY,h⟩|⟨a3,fs,lY,z2,bV,aq,h⟩:=h
 .obtain⟨cQ,vs,et,eM,hH,ir,mE,nr,lX⟩:=wH D.bR lY;refine a6T (hR _ _ e1) (dD _ hR) z0 (j_ f hf) (e8.at_ f hf) et eM ir hH λh' nq aO dZ cJ=>?_;have jE:H ar.objs.size=aa:=D.bR.fresh (cO _);have lh:ar.objs.size≠a:=xK (dF et);refine h ar.objs.size jE lh _ ?_;have dg:a≠X.env.locals:=λz=>by rw[z,D.free]at lY;cases lY
  have iU:rl (H a):=by rw[lY];exact trivial
  have other:∀{b:I}{u:dy},H b=B u->¬rl (B u)->b≠a:=fun{b u} a0 hm z=>by rw[z]at a0;rw[a0]at iU;exact hm iU
  have a76:∀{b:I}{o:bJ},ar.get? b=B o->b≠ar.objs.size:=λe=>gW (dF e);have un:iV X.fs [] H (av (av H ar.objs.size (gm ar.objs.size [(f,y)])) a (dj a C (B ar.objs.size) 0)) ar h':=by
   have ne:∀{b:I},H b=aa->b≠a:=fun{b} a0 z=>by rw[z,lY]at a0;cases a0
   refine⟨λb o e n _ _=>cJ b o (ne n) e,λb o e n _ _=>⟨o.slots,cJ b o (ne n) e⟩,λb o e n _=>by rw[aN (ne n),aN (a76 e)];exact n,λb o e _=>?_,λb xs e=>?_,λb o u e=>?_,λb _ e=>⟨#[],?_⟩⟩
   .by_cases z:b=a
    .subst z;exact⟨_,aO⟩
    exact⟨o,cJ b o z e⟩
   .rw[aN (other e (λz=>z)),aN (cU e jE)];exact e
   .rw[aN (other e (λz=>z)),aN (cU e jE)];exact e
   rw[aN (other e (λz=>z)),aN (cU e jE),e];simp
  refine D.un (t':=nq) (h':=h') un λb u a0=>?_;by_cases z:b=a
  .subst z;rw[b0]at a0;cases a0;exact yZ ⟨_,vs,aO,eM,Y,ir,mE,nr,lX⟩
  rw[aN z]at a0;by_cases g0:b=ar.objs.size
  .subst g0;rw[b0]at a0;cases a0;refine TF (by show 1<=1000;decide) ⟨_,dZ,λg=>?_,?_⟩
   .have:=TM (f:=f) (fs:=[]) (mA:=λ_=>aa) (λ_=>trivial) r g;exact this
   intro g aI;by_cases uM:g=f
   .rw[uM];simp
   simp[uM]at aI
  rw[aN g0]at a0;refine(D.bR b u a0).rk (λc v a7 iG=>cJ c v ?_ iG) (λc iG=>?_) λc xs iG=>?_
  .obtain a7|a7:=a7
   .rw[a7];exact z
   exact other a7 (λz=>z)
  .rw[aN (other iG (λz=>z)),aN (cU iG jE)];exact iG
  rw[aN (other iG (λz=>z)),aN (cU iG jE)];exact iG
 obtain⟨cQ,vs,et,eM,hH,ir,mE,nr,lX⟩:=wH D.bR lY;obtain⟨gn,mA,dZ,cv,lG⟩:=TG D.bR z2;refine a6U (hR _ _ e1) (dD _ hR) z0 (j_ f hf) (e8.at_ f hf) et eM ir hH bV dZ lG (by rw[cW];exact dC gn (by decide)) λh' nq aO cS bL=>?_;refine h _ (D.write (x:=a3) (e:=a3) (t':=nq) (by rw[z2];exact trivial) (.inl Y) bL (let⟨o,_,_,z,_⟩:=cS;⟨o,z⟩) (TF (dC (JE f y fs) aq) ⟨_,cS,TM cv r,?_⟩));intro g aI;by_cases uM:g=f
 .rw[uM];exact(AU f y fs).1
 have aI:(if g=f then B u else mA g)≠aa:=aI;rw[aL uM]at aI;exact(AU f y fs).2 g (lG g aI)
theorem BI(bf:bT X o c0)(bk:bT X l3 l2)(ax:sm l3 (B (.Attribute o f iY)) pos.line X.env=pure aJ):jd X (.Assign [.Attribute o f iY] l3 pos) (a73 X.K c0 l2 f):=by
 intro a4 s G H _ D h;refine ajl (bW (bk a4 s G H _ D h) λu s1 ⟨y,ai,aP,cC,q⟩=>bW (bf a4 s1 G ai _ aP q) λfJ _ ⟨x,_,cL,cp,a,C,_,_,ex,pY,hf,cw⟩=>?_) ax;subst ex;obtain rfl:fJ=dM a:=cp;refine a74 cL pY hf cC ?_;obtain⟨lY,k⟩|⟨a3,fs,lY,z2,aH,aq,k⟩:=cw
 .exact .inl ⟨lY,λa3 dZ cS bE dG=>⟨G,_,dG,k a3 dZ cS⟩⟩
 exact .inr ⟨a3,fs,lY,z2,aH,aq,λbE dG=>⟨G,_,dG,k⟩⟩
def wK(K:bj)(c0:b')(f:a8):b':=λG H Q=>c0 G H λx ai=>∃a C gB cV a3 m fs v,x=.ref a/\iM K C gB cV/\f∈cV/\ai a=B (dj a C (B a3) m)/\ai a3=B (gm a3 fs)/\a3≠a/\fs.lookup f=B v/\Q v ai
theorem z3(aF:bT X e c0)(a0:xV e f X.env (eval e X.env)=eval e X.env):bT X (.Attribute e f pos) (wK X.K c0 f):=by intro a4 s G H Q D h;refine Qt a0 (bW (aF a4 s G H _ D h) λfJ s1 ⟨x,ai,aP,cp,a,C,_,_,a3,m,_,v,ex,pY,hf,lY,z2,bV,bk,q⟩=>?_);subst ex;obtain rfl:fJ=dM a:=cp;obtain⟨_,_,N,_,_,_,_,_,_,_,_,_,_,_,_,e1,dD,_,_,TN,z1,j_⟩:=pY.ex;have hR:=aP.gQ;obtain⟨cQ,_,et,eM,hH,ir,_,_,_⟩:=wH aP.bR lY;obtain⟨_,_,dZ,cv,_⟩:=TG aP.bR z2;have cA:=cv f;rw[bk]at cA;obtain⟨u,bz,h8⟩:=cA.some_of;obtain⟨_,g,d,_,_⟩:=s1;exact a6M (hR _ _ e1) (dD _ hR) TN z1 (j_ f hf) (pY.at_ f hf) ⟨cQ,et,eM,(λc z=>by rw[ir]at z;cases z),.inr ⟨a3,hH,bV,dZ⟩⟩ bz (PySem.W.handedOut_of (Qq h8)) ⟨v,ai,aP.tok _,h8,q⟩
def LS(K:bj)(e0:I)(bY:b')(E:dN):er:=λ_ G H=>bY G H λx ai=>∃a C a3 f cV mF fX,x=.ref a/\ai a=B (dj a C (B a3) 0)/\iM K C f cV/\ai e0=B (dj e0 mF (B fX) 1)/\e0≠a/\E (.ref C) (B a3) (av ai a (dj a C (B a3) 2))
theorem TO{jS:Pos}{j:Nat}(aF:bT X e bY)(bU:X.A.handled=B (.ref e0))(c:mD u X E)(bz:2<=u:=by decide):jd X (.Raise (B e) (B (.Constant .none j jS)) pos) (LS X.K e0 bY E):=by
 intro a4 s G H af D h;rw[aj7];refine bC (rh ?_);have key:b8 (bq X.prog X.w) X.A (eval e X.env) (λv s1=>∃a C a3 f cV mF fX ai,v=.ref a/\Inv X a4 G ai s1/\ai a=B (dj a C (B a3) 0)/\iM X.K C f cV/\ai e0=B (dj e0 mF (B fX) 1)/\e0≠a/\E (.ref C) (B a3) (av ai a (dj a C (B a3) 2))) X.bN s:=by refine bW (aF a4 s G H _ D h) λv s1 ⟨y,ai,aP,cC,a,C,a3,f,cV,mF,fX,oZ,q,pY,lY,bV,f3⟩=>?_;subst oZ;exact⟨a,C,a3,f,cV,mF,fX,ai,cC,aP,q,pY,lY,bV,f3⟩
 unfold x';refine bC (bC (bW key λv s1 ⟨a,C,a3,f,cV,mF,fX,ai,iZ,aP,q,pY,lY,bV,f3⟩=>bC (rh (eC ?_))));subst iZ;obtain⟨nm,iG,N,bs,sn,sub,ab,col,dd,k0,cJ,bL,eb,k5,_,e1,_,_⟩:=pY.ex;have jZ:=TJ aP q;obtain⟨cQ,vs,et,eM,hH,ir,mE,nr,_⟩:=jZ.obj;obtain⟨mz,o8,b1,_,_,wz,_,_,G4⟩:=wH aP.bR lY;have fin:∀h':br,(∀b,b≠a->h'.get? b=s1.heap.get? b)->(∃di,h'.get? a=B {cQ with data:=.fields di}/\di.size=6/\di[1]? =B .none/\di[2]? =B (.ref e0))->X.bN (.ref a) {s1 with heap:=h'}:=λh' cJ ⟨di,lG,oI,n2,EG⟩=>by have cL:=Inv.y_ (ts:=[]) (m':=2) (od:=B a3) (C:=C) (h':=h') aP (y' q) ⟨λb o z _ cS _=>(cJ b cS).trans z,λb o z cS _=>⟨o.slots,(cJ b cS).trans z⟩⟩ (λ_ z=>nomatch z) (yZ ⟨_,di,lG,eM,hH,Y,oI,λz=>(nomatch z),λz=>absurd z (by decide)⟩);exact c a4 G _ _ a C a3 2 (.ref e0) .none aa cL b0 ⟨by decide,bz⟩ (λt z=>nomatch z) ⟨⟨_,di,lG,eM,hH,Y,oI,n2,EG⟩,λt z=>by cases z⟩ (.inl Y) f3
 have BH:=a6C (prog:=X.prog) (w:=X.w) (A:=X.A) (E:=X.bN) (env:=X.env) (s:=s1) (x:=pure (.ref a)) (c:=(do let v <-eval (.Constant .none j jS) X.env;u3 pos;pure v)) (Q:=m_ X a4 af) (nm:=nm) (q:=iG) (C:=C) (N:=N) (bs:=bs) (bm:=oa) (t9:=a9) (sn:=sn) (sub:=sub) (ab:=ab) (col:=col) (dd:=dd) (k0:=k0) (cJ:=cJ) (bL:=bL) (eb:=eb) (k5:=k5) (newId:="ValueError.__new__") Y bU
  (eC ⟨a,Y,bV,bC (wpAny_Constant_none (bC (rh (eC ⟨Y,cQ,vs,mz,o8,aP.gQ _ _ e1,et,eM,ir,mE,nr,b1,wz,G4 (cO _),fin⟩))))⟩)
 unfold x' at BH;exact BH
end
abbrev nt(X:bB)(cZ:List (I×bJ))(bN:ae->ay->Prop):bB:={X with cZ:=cZ,bN:=bN}
abbrev ob(X:bB)(e:I)(cZ:List (I×bJ))(bN:ae->ay->Prop):bB:={X with A:=X.A.mark (B (.ref e)),calm:=aJ,cZ:=cZ,bN:=bN}
variable{af:Ends}{i:Nat}{v:V}
section
variable{cZ:List (I×bJ)}{bN:ae->ay->Prop}
theorem a77(ok:X.Ok):(nt X cZ bN).Ok:=⟨ok.mod,ok.kind,ok.glob,ok.blt,ok.above,ok.inj,ok.has,ok.sx,ok.hd,ok.frames,ok.uc,ok.rn,ok.bs,ok.mm,ok.sy,ok.ro,ok.k_,ok.oG⟩
theorem a78(ok:(nt X cZ bN).Ok):X.Ok:=⟨ok.mod,ok.kind,ok.glob,ok.blt,ok.above,ok.inj,ok.has,ok.sx,ok.hd,ok.frames,ok.uc,ok.rn,ok.bs,ok.mm,ok.sy,ok.ro,ok.k_,ok.oG⟩
theorem a79(ok:X.Ok):(ob X e cZ bN).Ok:=⟨ok.mod,ok.kind,ok.glob,ok.blt,ok.above,ok.inj,ok.has,ok.sx,λz=>(nomatch z),ok.frames,ok.uc,ok.rn,ok.bs,ok.mm,ok.sy,ok.ro,ok.k_,ok.oG⟩
theorem LU(D:Inv X a4 G H s):Inv (nt X (X.cZ++a4) bN) [] G H s:=⟨a77 D.ok,D.os,D.bare,D.base,D.loc,D.cell,D.free,D.k',by simpa using D.pin,D.bR,D.len⟩
theorem wL{rq:List (I×bJ)}(D:Inv (nt X (X.cZ++a4) bN) rq G H s):Inv X a4 G H s:=⟨a78 D.ok,D.os,D.bare,D.base,D.loc,D.cell,D.free,D.k',λp ar=>D.pin p (se _ ar),D.bR,D.len⟩
theorem z4(D:Inv X a4 G H s):Inv (ob X e (X.cZ++a4) bN) [] G H s:=⟨a79 D.ok,D.os,D.bare,D.base,D.loc,D.cell,D.free,D.k',by simpa using D.pin,D.bR,D.len⟩
theorem G7{rq:List (I×bJ)}(ok:X.Ok)(D:Inv (ob X e (X.cZ++a4) bN) rq G H s):Inv X a4 G H s:=⟨ok,D.os,D.bare,D.base,D.loc,D.cell,D.free,D.k',λp ar=>D.pin p (se _ ar),D.bR,D.len⟩
theorem LV{f:Flow}{b3:ay}(h:m_ (nt X (X.cZ++a4) bN) [] af f b3):m_ X a4 af f b3:=by cases f with|next=>obtain⟨aM,H',D,q⟩:=h;exact⟨aM,H',wL D,q⟩|brk=>obtain⟨aM,H',D,q⟩:=h;exact⟨aM,H',wL D,q⟩|cont=>obtain⟨aM,H',D,q⟩:=h;exact⟨aM,H',wL D,q⟩|ret u=>obtain⟨v,aM,H',D,r,q⟩:=h;exact⟨v,aM,H',wL D,r,q⟩
def blank(G:L2.St):L2.St:=G.map λ_=>aa
theorem TP(G:L2.St)(h:(blank G)[i]? =B (B v)):False:=by unfold blank at h;rw[fP]at h;cases z:G[i]? <;>rw[z]at h<;>cases h
theorem Inv.forget{m':a8->Option ae}{t':Nat}(D:Inv X a4 G H s)(aH:h'.Ns X.env.locals m')(ax:DL X.env.locals s.heap h'):Inv X a4 (blank G) H {s with heap:=h',toks:=t'}:=by
 have nl:∀{b:I}{o:bJ},X.gv.heap.get? b=B o->b≠X.env.locals:=λe=>gW (kW (dF e) D.ok.above);refine⟨D.ok,D.os,D.bare,⟨λb o e n a0 ag=>(ax.2 b (nl e)).trans (D.base.keep b o e n a0 ag),λb o e n a0 ag=>?_,D.base.free,λb o e ag=>?_,D.base.sr,D.base.rm,D.base.su⟩,⟨m',aH,λi x v _ q _=>(TP G q).elim⟩,λx c q=>?_,D.free,D.k',λp ar=>?_,λb u q=>?_,by unfold blank;rw[cW];exact D.len⟩
 .obtain⟨aV,q⟩:=D.base.slot b o e n a0 ag;exact⟨aV,(ax.2 b (nl e)).trans q⟩
 .obtain⟨gY,q⟩:=D.base.there b o e ag;exact⟨gY,(ax.2 b (nl e)).trans q⟩
 .obtain⟨v,z⟩:=D.cell x c q;exact⟨v,z.sameBut ax (D.ud x c q)⟩
 .obtain⟨aO,n,ne,lF,d⟩:=D.pin p ar;exact⟨(ax.2 p.1 ne).trans aO,n,ne,lF,d⟩
 have vX:∀{c:I}{u:dy},H c=B u->c≠X.env.locals:=fun{c u} q z=>by rw[z,D.free]at q;cases q
 refine(D.bR b u q).rk (λc v a7 iG=>(ax.2 c ?_).trans iG) (λ_ z=>z) λ_ _ z=>z;obtain a7|a7:=a7
 .rw[a7];exact vX q
 exact vX a7
theorem Inv.blank(D:Inv X a4 G H s):Inv X a4 (blank G) H s:=D.weak (by unfold LX.blank;rw[cW]) λi v q=>(TP G q).elim
end
section
variable{a3:I}{pe:ae->ay->Prop}
theorem G8(yy:A.frames=X.A.frames)(ft:X.stack=X.env::X.outer)(hf:X.env.frame=B X.env.locals)(D:Inv X a4 G H s)(q:H e=B (dj e C (B a3) m))(hm:1<=m)(dp:∀t,T=B t->H t=aa/\∀p∈X.cZ++a4,p.1≠t)(x:hu X.gv.heap.objs.size e C (B a3) d_ T dE s.heap)(pf:dE=.none∨(T.isSome=a9/\dE=iz X.env.locals))(h:∀h' jI,Inv X a4 G H {s with heap:=h'}->(∀t,B jI=B t->H t=aa/\∀p∈X.cZ++a4,p.1≠t)->hu X.gv.heap.objs.size e C (B a3) d_ (B jI) (iz X.env.locals) h'->Q () {s with heap:=h'}):b8 (bq X.prog X.w) A (u1 (.ref e) X.env) Q pe s:=by
 have jE:A.frames=B (X.env::X.outer):=by rw[yy,<-ft];exact D.ok.frames
 have aq:s.heap.FunFrames X.base (X.env::X.outer):=by rw[<-ft];exact D.stack
 have G6:=G5 D x dp;have yE:=λz=>LR D q x z;obtain rfl|⟨ax,rfl⟩:=pf
 .refine Tr jE aq hf x D.l0 λh' jI eN rG kp=>?_;have el:=Inv.y_ (m':=m) (od:=B a3) (C:=C) D (y' q) (by unfold ml;rw[ft];exact kp) G6 (G3 eN hm yE);rw[G2 q]at el;refine h h' jI el (λt z=>?_) eN;cases z;exact⟨D.bR.fresh rG,λp ar z=>absurd (dF (D.pin p ar).1) (by rw[z];exact Ae.mpr rG)⟩
 obtain⟨t,rfl⟩:=P7.mp ax;refine LL hf x ?_;exact h s.heap t D dp x
theorem uN{T:I}{fr:Option I}(D:Inv X a4 G H s)(q:H e=B (dj e C (B a3) m))(hm:1<=m)(dp:∀t,B T=B t->H t=aa/\∀p∈X.cZ++a4,p.1≠t)(x:hu X.gv.heap.objs.size e C (B a3) d_ (B T) dE s.heap)(h:∀h',Inv X a4 G H {s with heap:=h'}->hu X.gv.heap.objs.size e C (B a3) d_ (B T) (fr.elim .none λf=>iz f) h'->Q () {s with heap:=h'}):b8 (bq X.prog X.w) A (Aq (.ref e) fr) Q pe s:=by refine LK x λh' eN kp=>?_;have el:=Inv.y_ (m':=m) (od:=B a3) (C:=C) D (y' q) (kp.mono (λ_ z=>nomatch z) (λ_ z=>z)) (G5 D x dp) (G3 eN hm λz=>LR D q x z);rw[G2 q]at el;exact h h' el eN
end
abbrev z5(X:bB)(e:I):ae->ay->Prop:=x_ (bq X.prog X.w) (X.A.mark (B (.ref e))) X.env λx b3=>cameBackBy (bq X.prog X.w) X.A X.env X.bN x b3
abbrev BJ(X:bB)(n:a8)(j2:Pos)(e:I):ae->ay->Prop:=λx oQ=>b8 (bq X.prog X.w) (X.A.mark (B (.ref e))) (u1 x X.env) (λ_ a7a=>b8 (bq X.prog X.w) (X.A.mark (B (.ref e))) (do bindName X.env n .none;unbindBehindTheSuite X.env n j2) (λ_ yA=>b8 (bq X.prog X.w) (X.A.mark (B (.ref e))) (ajj "try.except-as" x X.env:hQ Flow) (λ_ _=>False) (z5 X e) yA) (λy yA=>b8 (bq X.prog X.w) (X.A.mark (B (.ref e))) (Aq x aa) (λ_ EX=>z5 X e y EX) (z5 X e) yA) a7a) (z5 X e) oQ
variable{body rN:List bH}{cu:er}
section
variable{rO:bH}{jZ n:a8}{wM j2:Pos}{th:I->er}{E1 E2:dN}{gB:I}
abbrev LW(af:Ends):Ends:={c6:=λ_ _=>False,ic:=af.ic}
def a7b(u:Nat)(N:List a8)(i:Nat)(C:I)(cu:er)(th:I->er)(E1:dN):er:=λaf G H=>cu af G H/\∀cls iN H',E1 cls iN H'->cls=.ref C/\∀e a3 m,iN=B a3->H' e=B (dj e C (B a3) m)->(1<=m/\m<=u)->th e (LW af) (((hO N.length aa:L2.St)).set i (B (.ref e))) H'
theorem TQ(D:L2.St):blank D=hO D.length aa:=by unfold blank;rw[List.map_const']
theorem TR(ok:X.Ok)(ft:X.stack=X.env::X.outer)(hf:X.env.frame=B X.env.locals)(aq:X.env.kindOf n=B .local)(c:mD u X E2):mD u (ob X e (X.cZ++a4) (BJ X n j2 e)) E2:=by
 intro _ G H s a C a3 m d_ _ T D q hm dp x pf f3;have wN:Inv X a4 G H s:=G7 ok D;have wO:∀t,T=B t->H t=aa/\∀p∈X.cZ++a4,p.1≠t:=λt z=>⟨(dp t z).1,λp ar=>(dp t z).2 p (se _ ar)⟩;refine G8 (X:=X) Y ft hf wN q hm.1 wO x pf λO qI aP G9 gJ=>?_;obtain⟨_,aH,_⟩:=aP.loc;refine a0P aq aH (by rw[aP.ok.kind];rfl) λa5 _ EE mv=>?_;have cL:=Inv.forget (t':=s.toks+1) aP EE mv;have gw:hu X.gv.heap.objs.size a C (B a3) d_ (B qI) (iz X.env.locals) a5:=by
  obtain⟨cQ,vs,hC,g0⟩:=gJ.obj;refine⟨⟨cQ,vs,(mv.2 a λz=>?_).trans hC,g0⟩,λt ba=>?_⟩
  .rw[z,aP.free]at q;cases q
  obtain⟨rL,wQ,uJ,ts,a7c,a7d⟩:=gJ.cu t ba;refine⟨rL,wQ,uJ,ts,(mv.2 t λz=>?_).trans a7c,a7d⟩;exact(G5 aP gJ G9 t (by rw[ba];simp)).2.2.1 z
 obtain⟨cQ,vs,hC,g0,_,BK,_,a7f,_⟩:=gw.obj;unfold ajj;refine bC (jz hC BK a7f ?_);show b8 _ _ (if(dM qI==eK)=a9 then _ else _) _ _ _;rw[aL (show¬((dM qI==eK)=a9) by simp)];refine bC (uN (X:=X) (fr:=X.env.frame) cL q hm.1 G9 gw λaG dG nu=>a0U ?_);rw[hf]at nu;have nu:hu X.gv.heap.objs.size a C (B a3) d_ (B qI) (iz X.env.locals) aG:=nu;unfold z5 x_;refine LL hf nu ?_;obtain⟨_,_,lG,_,_,EG,_,a7g,_⟩:=nu.obj;unfold cameBackBy;refine bC (jz lG EG a7g ?_);show b8 _ _ (if(dM qI==eK)=a9 then _ else _) _ _ _;rw[aL (show¬((dM qI==eK)=a9) by simp)];refine uN (X:=X) (fr:=X.env.frame) dG q hm.1 G9 nu λ_ fU mx=>?_;rw[hf]at mx;exact c a4 _ H _ a C a3 m d_ _ (B qI) fU q hm G9 mx (.inr ⟨Y,Y⟩) f3
theorem Ga(ft:X.stack=X.env::X.outer)(hf:X.env.frame=B X.env.locals)(dD:X.N.Nodup)(hi:X.N[i]? =B n)(aq:X.env.scope.names.lookup n=B .local)(aI:hA X jZ)(hm:X.a6 jZ=B (.ref C))(e8:iM X.K C gB cV)(a0:∀cZ bN,mD t (nt X cZ bN) E1->ie (nt X cZ bN) body cu)(c:mD u X E2)(ax:∀e cZ bN,mD u (ob X e cZ bN) E2->ie (ob X e cZ bN) (rO::rN) (th e))(gd:kF jZ:=by decide):
  jd X (.Try body [.ExceptHandler (B (.Name jZ wM)) (B n) (rO::rN) j2] [] [] pos) (a7b t X.N i C cu th E1):=by
 intro a4 s G H af D h;obtain⟨O,a5⟩:=h;rw[a0t];refine bC (rh (a0V ?_));have BL:mD t (nt X (X.cZ++a4) (λe du=>b8 (bq X.prog X.w) X.A (u1 e X.env) (λ_ iX=>b8 (bq X.prog X.w) X.A (Aq e aa) (λ_ oQ=>b8 (bq X.prog X.w) X.A (a0A e X.env [.ExceptHandler (B (.Name jZ wM)) (B n) (rO::rN) j2]) (m_ X a4 af) X.bN oQ) X.bN iX) X.bN du)) E1:=by
  intro _ aM H' s1 e _ a3 m _ _ T aP q lZ dp x pf f3;obtain⟨qA,bU⟩:=a5 _ _ _ f3;cases qA;have wN:Inv X a4 aM H' s1:=wL aP;have wO:∀t,T=B t->H' t=aa/\∀p∈X.cZ++a4,p.1≠t:=λt z=>⟨(dp t z).1,λp ar=>(dp t z).2 p (se _ ar)⟩;refine G8 (X:=X) Y ft hf wN q lZ.1 wO x pf λ_ _ dG uO nu=>?_;refine uN (X:=X) (fr:=aa) dG q lZ.1 uO nu λ_ fU mx=>?_;obtain⟨_,_,N,_,_,_,_,_,_,_,_,_,_,_,_,e1,_,_⟩:=e8.ex;refine a0N (a0y ?_) (by intro z;cases z);have jf:=z4 (e:=e) (bN:=λ_ _=>True) fU;refine oJ (X:=ob X e (X.cZ++a4) λ_ _=>True) jf aI hm ?_ gd;obtain⟨_,_,et,eM,_,_,_,_,_⟩:=mx.obj;refine a0L (bm:=oa) (newId:="ValueError.__new__") (fU.gQ _ _ e1) et eM Y ?_;show me _ _ _ _ _;refine aje ?_;refine uN (X:=X) (fr:=aa) fU q lZ.1 uO mx λ_ jg _=>?_;have fL:=z4 (e:=e) (a4:=a4) (bN:=(BJ X n j2 e)) (Inv.blank jg);refine yg (X:=ob X e (X.cZ++a4) (BJ X n j2 e)) fL dD hi (.inl aq) (v:=.ref e) Y (λpO uv=>?_) (.inr aq);have ag:=bU e a3 m Y q lZ;have akc:(blank aM).length=X.N.length:=by unfold blank;rw[cW];exact aP.len
  rw[TQ,show aM.length=X.N.length from aP.len]at uv;have run:=ax e (X.cZ++a4) _ (TR (j2:=j2) (n:=n) (e:=e) (a4:=a4) D.ok ft hf aq c) [] pO _ H' _ uv ag;refine bW run λf lO z=>?_;cases f with|next=>obtain⟨_,_,_,z⟩:=z;exact z.elim|brk=>obtain⟨_,_,_,z⟩:=z;exact z.elim|cont=>obtain⟨_,_,_,z⟩:=z;exact z.elim|ret u=>obtain⟨v,Gb,n',qv,BM,nf⟩:=z;have qw:Inv X a4 Gb n' lO:=G7 D.ok qv;obtain⟨_,aH,_⟩:=qw.loc;refine a0P aq aH (by rw[qw.ok.kind];rfl) λ_ _ LY LZ=>?_;exact⟨v,_,n',Inv.forget (t':=lO.toks+1) qw LY LZ,BM,nf⟩
 refine mg (a0 _ _ BL [] s G H af (LU D) O) (λf s1 z=>?_) λe s1 z=>z;have z:=LV z;cases f with|next=>exact vQ z|brk=>exact z|cont=>exact z|ret u=>exact z
end
open Builtin.Str
variable{a':I}
theorem BN{t:jy}{ty:String}(hi:h.IsStrIter a' ty x t i)(k:∀o,h.get? a'=B o->h'.get? a'=B o):h'.IsStrIter a' ty x t i:=by obtain⟨o,aU,r⟩:=hi;exact⟨o,k o aU,r⟩
theorem TX(x:a8):IH x="str_ascii_iterator"∨IH x="str_iterator" :=by
 unfold IH;split
 .exact .inl Y
 exact .inr Y
section
variable{pr:bQ}{wd:bI}{Ar:d9}{Gd:ae->ay->Prop}{gC:ay}
theorem a7j{t:I}{xs:Array ae}{x:ae}{Q:ae->ay->Prop}(gh:gC.heap.IsTupleIter a' t i)(ba:gC.heap.IsTuple t xs)(ag:xs[i]? =B x)(iA:∀h',h'.IsTupleIter a' t (i+1)->DL a' gC.heap h'->Q x {gC with heap:=h'}):b8 (bq pr wd) Ar (xO (.ref a')) Q Gd gC:=by obtain⟨o,aU,a7,hd⟩:=id gh;obtain⟨_,uP,_,_,wR⟩:=ba;unfold xO;refine bC (D' (name:=mS "__next__") gh.typeIs Ph (E0 Ph gh.typeIs F.entry_tuple_iterator_next ?_ (F.args_tuple_iterator_next_1 _)));show b8 (bq pr wd) _ (rb (.ref a') 0>>=_) _ _ gC;refine bC (jz aU hd (x:=.ref t) Y ?_);show b8 (bq pr wd) _ (if(dM t==eK)=a9 then _ else _) _ _ gC;rw[aL (show¬((dM t==eK)=a9)from hX)];show b8 (bq pr wd) _ (rb (.ref a') 1>>=_) _ _ gC;refine bC (jz aU hd (x:=.int i 0) Y ?_);show b8 (bq pr wd) _ (Ao (.ref t)>>=_) _ _ gC;refine bC (vR uP wR ?_);simp only[tP,ag];refine bC (u5 aU hd (by simp) (eC ⟨x,Y,eC (iA _ ⟨_,ra _ aU (Ah (tX hd _)),(Pk ..).trans a7,?_⟩ (aiJ ..))⟩));rw[tX hd];simp[iz]
theorem a7k{t:I}{xs:Array ae}{Q:ae->ay->Prop}(bU:Ar.handled=aa)(gh:gC.heap.IsTupleIter a' t i)(ba:gC.heap.IsTuple t xs)(ag:xs[i]? =aa)(f3:∀h' e,Ip a' gC.heap h'->(∃o,h'.get? e=B o/\o.cls=.type "StopIteration")->Gd (.ref e) {gC with heap:=h'}):b8 (bq pr wd) Ar (xO (.ref a')) Q Gd gC:=by
 obtain⟨o,aU,_,hd⟩:=id gh;obtain⟨_,uP,_,_,wR⟩:=ba;unfold xO;refine bC (D' (name:=mS "__next__") gh.typeIs Ph (E0 Ph gh.typeIs F.entry_tuple_iterator_next ?_ (F.args_tuple_iterator_next_1 _)));show b8 (bq pr wd) _ (rb (.ref a') 0>>=_) _ _ gC;refine bC (jz aU hd (x:=.ref t) Y ?_);show b8 (bq pr wd) _ (if(dM t==eK)=a9 then _ else _) _ _ gC;rw[aL (show¬((dM t==eK)=a9)from hX)];show b8 (bq pr wd) _ (rb (.ref a') 1>>=_) _ _ gC;refine bC (jz aU hd (x:=.int i 0) Y ?_);show b8 (bq pr wd) _ (Ao (.ref t)>>=_) _ _ gC;refine bC (vR uP wR ?_);simp only[tP,ag];refine bC (PB (bC (u5 aU hd (by simp) ?_)));show b8 (bq pr wd) _ (IE (.type "StopIteration") []>>=_) _ _ _;refine bC ?_;simp only[IE,newTuple];refine bC (y0 ?_ (by size_fits));refine bC (m:=Pw _ _) (a0R (a:=eK) (by first|rfl|(simp only[Pw];rfl)) ?_);refine y0 ?_ (by size_fits);simp only[IG];refine bC (ajt ?_);first|rw[show Ar.in1.handled=aa from bU]|rw[bU]
 refine bC (eC (a0U ?_));exact f3 _ _ (((aiJ ..).extBut.push _).push _) ⟨_,hP _ Y,Y⟩
theorem a7l(bU:Ar.handled=aa)(a' t:I)(bV:t≠a')(xs:Array ae):Draws pr wd Ar a' [a',t] xs.size (λi v=>xs[i]? =B v) (λi h=>h.IsTupleIter a' t i/\h.IsTuple t xs) where
 live:=λ_ _ st=>let⟨o,aU,_⟩:=st.1;⟨o,aU⟩
 frame:=λ_ _ _ st aA=>⟨let⟨o,aU,r⟩:=st.1;⟨o,aA a' (by simp) o aU,r⟩,let⟨o,aU,r⟩:=st.2;⟨o,aA t (by simp) o aU,r⟩⟩
 item:=λi s Q E hi st iA=>by refine a7j st.1 st.2 (x:=xs[i]) (by simp[hi]) λh' Bg z6=>?_;exact iA _ h' s.toks (by simp[hi]) ⟨Bg,st.2.extBut z6.extBut bV⟩ z6
 done:=λs Q E st f3=>a7k bU st.1 st.2 (by simp) f3
set_option maxHeartbeats 1000000 in
theorem a7m(t:I)(xs:Array ae)(n:Nat)(L_:Option I)(aV:Array (Option ae)):Meets (vG.«enumerate.__new__» ⟨[.type "enumerate",.ref t],[]⟩) (λ_ R s=>s.heap.get? t=B {cls:=.type "tuple",dict:=L_,data:=.seq xs n,slots:=aV}/\R (.ok (.ret (.ref (s.heap.push {cls:=.type "tuple_iterator",data:=.fields #[.ref t,.int 0 0]}).objs.size))) {s with heap:=(s.heap.push {cls:=.type "tuple_iterator",data:=.fields #[.ref t,.int 0 0]}).push {cls:=.type "enumerate",data:=.fields #[.none,.bool aJ,.ref s.heap.objs.size,iz 0,.none,.none]}}):=
 .of_wp λ_ w A R s h=>by
  obtain⟨ar,g,d,tk,os⟩:=s;obtain⟨aq,h⟩:=h;have akd:=sub_enumerate;have dg:Heap.IsTuple (Shared.heap ⟨ar,g,d,tk,os⟩) t xs:=⟨_,aq,Y,n,Y⟩
  wp_walk using P9 aq
  refine wpAny_stack_any λ_=>eC ?_;split
  .rename_i c _ _ _ _ _
   cases(c==tY "enumerate")
   .wp_walk using P9 aq,IK dg
    exact⟨_,Y,h⟩
   .wp_walk using P9 aq,IK dg
    exact⟨_,Y,h⟩
  .wp_walk using P9 aq,IK dg
   exact⟨_,Y,h⟩
theorem a7n{t:I}{xs:Array ae}{Q:ae->ay->Prop}(dg:gC.heap.IsTuple t xs)(h:∀h',Iq h' (gC.heap.objs.size+1) gC.heap.objs.size 0 .none->h'.IsTupleIter gC.heap.objs.size t 0->h'.objs.size=gC.heap.objs.size+2->(∀b o,gC.heap.get? b=B o->h'.get? b=B o)->Q (.ref (gC.heap.objs.size+1)) {gC with heap:=h'}):b8 (bq pr wd) Ar (mU (.type "enumerate") [.ref t]) Q Gd gC:=by
 obtain⟨⟨c,L_,gA,aV⟩,aq,a7,n,hd⟩:=dg;replace a7:c=.type "tuple" :=a7;replace hd:gA=.seq xs n:=hd;subst a7 hd;refine callType_new F.called_enumerate (by decide) (F.typeCall_enumerate_1 _) (F.newCall_enumerate_1 _) (λobj=>F.args_object_init_2 obj _) F.entry_enumerate_new (a7m t xs n L_ aV) ⟨aq,?_⟩;have aR:(gC.heap.push {cls:=.type "tuple_iterator",data:=.fields #[.ref t,.int 0 0]}).objs.size=gC.heap.objs.size+1:=mR ..;show _/\_;rw[aR];have aF:Iq ((gC.heap.push {cls:=.type "tuple_iterator",data:=.fields #[.ref t,.int 0 0]}).push {cls:=.type "enumerate",data:=.fields #[.none,.bool aJ,.ref gC.heap.objs.size,iz 0,.none,.none]}) (gC.heap.objs.size+1) gC.heap.objs.size 0 .none:=by have:=hP (gC.heap.push {cls:=.type "tuple_iterator",data:=.fields #[.ref t,.int 0 0]}) (o:={cls:=.type "enumerate",data:=.fields #[.none,.bool aJ,.ref gC.heap.objs.size,iz 0,.none,.none]}) Y;rw[aR]at this;exact this
 refine⟨⟨_,aF,Y⟩,h _ aF ⟨_,e9 _ (hP _ Y),Y,Y⟩ (by rw[mR,aR]) λb o x=>e9 _ (e9 _ x)⟩
end
def Holds(K:bj)(H:ak)(v:V)(xs:List V):Prop:=(∃a,v=.ref a/\dq K H a xs)∨∃x:a8,v=.str x/\xs=x.cps.toList.map λ(c:Nat)=>V.str ⟨#[c]⟩
def uQ(v:V)(a':I)(i:Nat)(h:br):Prop:=(∃a,v=.ref a/\h.IsTupleIter a' a i)∨∃x t,v=.str x/\h.IsStrIter a' (IH x) x t i
theorem TY(st:uQ v a' i h)(k:∀o,h.get? a'=B o->h'.get? a'=B o):uQ v a' i h':=by
 obtain⟨a,e,o,aU,r⟩|⟨x,t,e,hi⟩:=st
 .exact .inl ⟨a,e,o,k o aU,r⟩
 exact .inr ⟨x,t,e,BN hi k⟩
theorem TZ(st:uQ v a' i h):∃o,h.get? a'=B o/\(∃vs,o.data=.fields vs)/\o.cls≠ .type "tuple" :=by
 obtain⟨a,e,o,aU,a7,hd⟩|⟨x,t,e,o,aU,a7,hd⟩:=st
 .exact⟨o,aU,⟨_,hd⟩,by rw[a7];decide⟩
 refine⟨o,aU,⟨_,hd⟩,?_⟩;rw[a7];rcases TX x with e|e<;>rw[e]<;>decide
variable{xs:List V}
theorem T_(D:Inv X a4 G H s)(bU:X.A.handled=aa)(bk:Holds X.K H v xs)(st:uQ v a' i s.heap):∃bO P St,Draws X.prog X.w X.A.in1 a' bO xs.length P St/\St i s.heap/\(∀b∈bO,b=a'∨∃o,s.heap.get? b=B o/\o.cls=.type "tuple")/\a'∈bO/\(∀j u,P j u->∃x,xs[j]? =B x/\RelV x u)/\∀j h',St j h'->uQ v a' j h':=by
 obtain⟨a,rfl,hi⟩|⟨x,t,rfl,hi⟩:=st
 .obtain⟨hB,e,aQ⟩|⟨x,e,_⟩:=bk
  .cases e;obtain⟨b6,cA,p,_⟩:=D.tuple aQ;obtain⟨o,aU,a7,_⟩:=id p;have bV:a≠a':=λz=>by obtain⟨_,mn,oH,_⟩:=hi;rw[z,mn]at aU;cases aU;rw[oH]at a7;exact absurd a7 (by decide)
   have dd:=a7l (pr:=X.prog) (wd:=X.w) (Ar:=X.A.in1) bU a' a bV b6.toArray;rw[show b6.toArray.size=xs.length by simp[cA.length]]at dd;refine⟨[a',a],_,_,dd,⟨hi,p⟩,λb a0=>?_,by simp,λj u bz=>?_,λj h' z=>.inl ⟨a,Y,z.1⟩⟩
   .have d7:b=a'∨b=a:=by simpa using a0
    obtain z|z:=d7
    .exact .inl z
    rw[z];exact .inr ⟨o,aU,a7⟩
   have bz:b6[j]? =B u:=by simpa using bz
   have c4:j<xs.length:=by rw[cA.length];exact(ec.mp bz).1
   obtain⟨_,T',h8⟩:=cA.get (f7 c4);rw[bz]at T';cases T';exact⟨_,f7 c4,h8⟩
  cases e
 obtain⟨hB,e,_⟩|⟨eN,e,rfl⟩:=bk
 .cases e
 cases e;have key:∀(ty:String),IH x=ty->Draws X.prog X.w X.A.in1 a' [a'] x.cps.size (λi v=>∃c u,x.cps[i]? =B c/\v=.str ⟨#[c]⟩ u) (λi h=>h.IsStrIter a' ty x t i)->∃bO P St,Draws X.prog X.w X.A.in1 a' bO (x.cps.toList.map λ(c:Nat)=>V.str ⟨#[c]⟩).length P St/\St i s.heap/\(∀b∈bO,b=a'∨∃o,s.heap.get? b=B o/\o.cls=.type "tuple")/\a'∈bO/\(∀j u,P j u->∃y,(x.cps.toList.map λ(c:Nat)=>V.str ⟨#[c]⟩)[j]? =B y/\RelV y u)/\∀j h',St j h'->uQ (.str x) a' j h':=λty ba af=>by
  rw[show x.cps.size=(x.cps.toList.map λ(c:Nat)=>V.str ⟨#[c]⟩).length by simp]at af;refine⟨_,_,_,af,?_,λb a0=>.inl (by simpa using a0),by simp,λj u bz=>?_,λj h' z=>.inr ⟨x,t,Y,?_⟩⟩
  .show s.heap.IsStrIter a' ty x t i;rw[<-ba];exact hi
  .obtain⟨c,t',a7,rfl⟩:=bz;refine⟨.str ⟨#[c]⟩,?_,⟨t',Y⟩⟩;rw[fP,ahA,a7];rfl
  rw[ba];exact z
 obtain e|e:=TX x
 .exact key _ e (Draws.strAscii (A:=X.A.in1) bU a' x t)
 exact key _ e (Draws.strWide (A:=X.A.in1) bU a' x t)
def uR(K:bj)(v:V)(xs:List V):jC:=
 ⟨λi H=>Holds K H v xs/\i<xs.length,λi H y H'=>∃T x,y=.ref T/\H T=aa/\H'=av H T (.tup [.int (i:Nat),x])/\xs[i]? =B x,λi H=>Holds K H v xs/\i=xs.length⟩
variable{kI:List bP}
theorem a7o{c7:Nat}(e a':I):ru P w K (.Tuple kI c7 l4) (uR K v xs) [e,a'] e (λi h=>(∃o',Iq h e a' ((i:Nat):Int) o')/\uQ v a' i h/\e≠a') where
 mem:=by simp
 obj:=λi h st b a0=>by
  obtain⟨⟨o',aF⟩,ba,_⟩:=st;have d7:b=e∨b=a':=by simpa using a0
  obtain rfl|rfl:=d7
  .exact⟨_,aF,λv q=>nomatch q⟩
  obtain⟨o,aU,⟨_,hd⟩,_⟩:=TZ ba;exact⟨o,aU,λv q=>by rw[hd]at q;cases q⟩
 keep:=λi h h' st k=>let⟨⟨o',aF⟩,hi,bV⟩:=st;⟨⟨o',k e (by simp) _ aF⟩,TY hi λo q=>k a' (by simp) o q,bV⟩
 item:=by
  intro X bK hw fu a7 i a4 s G H E D hf st aI;subst bK hw fu;obtain⟨⟨o',aF⟩,gh,bV⟩:=st;obtain⟨bk,c4⟩:=aI;obtain⟨bO,a7p,a7q,af,l9,sQ,sP,bK,dp⟩:=T_ D (D.ok.hd a7) bk gh;have rA:e<s.heap.objs.size:=dF aF;have Ky:a'<s.heap.objs.size:=by obtain⟨o,q,_⟩:=TZ gh;exact dF q
  have a7r:e∉bO:=λz=>by
   obtain q|⟨o,aU,e_⟩:=sQ e z
   .exact bV q
   rw[aF]at aU;cases aU;exact absurd e_ (show¬tY "enumerate" =tY "tuple" by decide)
  refine wpAny_pyNext_enum_itemD af aF l9 c4 bV a7r λu h' tk a7s aU a7t a7u _ aA=>?_;obtain⟨x,ag,h8⟩:=bK i u a7s;refine⟨_,Y,ajv (s:={s with heap:=h',toks:=tk+1}) aU λjm wb cF=>?_⟩;have wm:jm.get? s.heap.objs.size=B {cls:=.type "tuple",data:=.seq #[.int i tk,u]}:=(cF.2 _ (xK rA)).trans a7u;have new:h7 X.prog X.w (av H s.heap.objs.size (.tup [.int (i:Nat),x])) jm s.heap.objs.size (.tup [.int (i:Nat),x]):=⟨by show 2<=cM;decide,[.int i tk,u],.cons ⟨_,Y⟩ (.cons h8 .nil),⟨_,wm,Y,_,Y⟩⟩;have aP:Inv X a4 G (av H s.heap.objs.size (.tup [.int (i:Nat),x])) {s with heap:=jm,toks:=tk+1}:=
   D.F2 (ch:=[e,a']) (λb cE a0 q=>(cF.2 b (λz=>a0 (by simp[z]))).trans (aA b cE (λz=>a0 (by simp[z])) (λz=>a0 (by simp[z])) q)) hf (cO _) new
  refine⟨.ref s.heap.objs.size,_,aP,Y,⟨_,x,Y,D.bR.fresh (cO _),Y,ag⟩,⟨⟨u,?_⟩,TY (dp _ _ a7t) λo q=>(cF.2 a' (ed bV)).trans q,bV⟩,λb a0=>?_⟩
  .rw[show((i+1:Nat):Int)=(i:Int)+1 by omega];exact wb
  have sH:b<s.heap.objs.size:=by
   have d7:b=e∨b=a':=by simpa using a0
   obtain rfl|rfl:=d7
   .exact rA
   exact Ky
  rw[aN (gW sH)];exact(hf b a0).1
 done:=by intro X bK hw fu a7 i a4 s G H E D hf st aI;subst bK hw fu;obtain⟨⟨o',aF⟩,gh,bV⟩:=st;obtain⟨bk,rfl⟩:=aI;obtain⟨bO,a7p,a7q,af,l9,sQ,sP,bK,dp⟩:=T_ D (D.ok.hd a7) bk gh;obtain⟨fT,dS,_,dw,fa,fb⟩:=hf a' (by simp);exact wpAny_pyNext_enum_endD af aF l9 λh' h9=>⟨Y,D.turned (t':=s.toks) (λb o a0 q=>h9 b o a0 q) fT dS dw fa fb⟩
 self:=λA i s Q E st h=>let⟨⟨_,aF⟩,_⟩:=st;IJ aF h
def a7v(K:bj)(c0:gE):TI:=λG H R=>c0 G H λvs ai=>∃v xs,vs=[v]/\((Holds K ai v xs/\R (uR K v xs) ai)∨∃a,v=.ref a/\bp K ai a xs/\R (uy K a) ai)
theorem a7w{e:bP}{c0:gE}{c7:Nat}(aI:hA X "enumerate")(hm:X.a6 "enumerate" =aa)(bf:hz X [e] c0)(ax:fC [e] X.env=[(aJ,eval e X.env)]:=by rfl):
  qo X (.Tuple kI c7 l4) (.Call (.Name "enumerate" p) [e] [] pos) (a7v X.K c0):=by
 intro a4 s G H R D h;refine Il (vZ D aI hm boot_enumerate (DK (bW (bf pos a4 s G H _ D h) λ_ s1 ⟨_,ai,aP,cv,bx⟩=>?_) ax Y));obtain⟨v,_,ex,⟨bk,q⟩|⟨a,jj,aQ,q⟩⟩:=bx;case inr=>
  subst ex jj;cases cv with
  |cons r iC=>
   cases iC;cases r;obtain⟨b6,cA,fM,aR⟩:=aP.list aQ;refine call_enumerate_list fM.isList λh' aF gh hsz aA=>IJ aF ?_;have cL:Inv X a4 G ai {s1 with heap:=h'}:=aP.kept (t':=s1.toks) aA;refine⟨s1.heap.objs.size+1,[s1.heap.objs.size+1,s1.heap.objs.size],_,_,ai,Y,cL,a3F a (s1.heap.objs.size+1) s1.heap.objs.size,⟨⟨.none,aF⟩,gh,aij _⟩,λb a0=>?_,q⟩;have d7:b=s1.heap.objs.size+1∨b=s1.heap.objs.size:=by simpa using a0
   have hg:s1.heap.objs.size<=b:=by rcases d7 with z|z<;>rw[z]<;>first|exact r8 _ _|exact cO _
   exact aP.qn hg (aP.bR.fresh hg)
 subst ex;have fin:∀(h':br),Iq h' (s1.heap.objs.size+1) s1.heap.objs.size 0 .none->uQ v s1.heap.objs.size 0 h'->(∀b o,s1.heap.get? b=B o->h'.get? b=B o)->Et X a4 G (.Tuple kI c7 l4) R (.ref (s1.heap.objs.size+1)) {s1 with heap:=h'}:=λh' aF gh aA=>by
  have cL:Inv X a4 G ai {s1 with heap:=h'}:=aP.kept (t':=s1.toks) aA;refine⟨s1.heap.objs.size+1,[s1.heap.objs.size+1,s1.heap.objs.size],_,_,ai,Y,cL,a7o (s1.heap.objs.size+1) s1.heap.objs.size,⟨⟨.none,aF⟩,gh,aij _⟩,λb a0=>?_,q⟩;have d7:b=s1.heap.objs.size+1∨b=s1.heap.objs.size:=by simpa using a0
  have hg:s1.heap.objs.size<=b:=by rcases d7 with z|z<;>rw[z]<;>first|exact r8 _ _|exact cO _
  exact aP.qn hg (aP.bR.fresh hg)
 cases cv with
 |cons r iC=>
  cases iC;obtain⟨a,rfl,aQ⟩|⟨x,rfl,rfl⟩:=bk
  .cases r;obtain⟨b6,cA,fM,aR⟩:=aP.tuple aQ;exact a7n fM λh' aF gh hsz aA=>IJ aF (fin h' aF (.inl ⟨a,Y,gh⟩) aA)
  obtain⟨t,rfl⟩:=r;exact call_enumerate_str λh' aF gh hsz aA=>IJ aF (fin h' aF (.inr ⟨x,t,Y,gh⟩) aA)
theorem a7x{g:gR}(Pv:Nat->L2.St->ak->Prop)(b9:Pv 0 G H)(aq:∀i G H,i<=xs.length->Pv i G H->Holds K H v xs)(ax:∀i x G H,xs[i]? =B x->Pv i G H->∀T,H T=aa->g (.ref T) G (av H T (.tup [.int (i:Nat),x])) λcP au=>cu {af with c6:=Pv (i+1),en:=Pv (i+1),gD:=af.c6} cP au)(hd:∀G H,Pv xs.length G H->af.c6 G H):∃W:Nat->Nat->L2.St->ak->Prop,(∃m,W 0 m G H)/\∀i m G H,W i m G H->((uR K v xs).stop i H/\af.c6 G H)∨((uR K v xs).go i H/\∃N:L2.St->ak->Prop,(∀aM H',N aM H'->∃m',m'<m/\W (i+1) m' aM H')/\∀x H',(uR K v xs).jO i H x H'->g x G H' λcP au=>cu {af with c6:=N,en:=N,gD:=af.c6} cP au):=by
 refine⟨λi m G H=>m=xs.length-i/\i<=xs.length/\Pv i G H,⟨xs.length,by simp,ek _,b9⟩,?_⟩;rintro i m G H ⟨rfl,hi,p⟩;have q:=aq i G H hi p;obtain c4|z7:=xI i xs.length
 .refine .inr ⟨⟨q,c4⟩,Pv (i+1),λaM H' fM=>⟨_,by omega,Y,c4,fM⟩,λy H' bl=>?_⟩;obtain⟨T,x,rfl,dp,rfl,ag⟩:=bl;exact ax i x G H ag p T dp
 have e:i=xs.length:=by omega
 subst e;exact .inl ⟨⟨q,Y⟩,hd G H p⟩
theorem a7y{a:I}{g:gR}(Pv:Nat->L2.St->ak->Prop)(b9:Pv 0 G H)(aq:∀i G H,i<=xs.length->Pv i G H->bp K H a xs)(ax:∀i x G H,xs[i]? =B x->Pv i G H->∀T,H T=aa->g (.ref T) G (av H T (.tup [.int (i:Nat),x])) λcP au=>cu {af with c6:=Pv (i+1),en:=Pv (i+1),gD:=af.c6} cP au)(hd:∀G H,Pv xs.length G H->af.c6 G H):∃W:Nat->Nat->L2.St->ak->Prop,(∃m,W 0 m G H)/\∀i m G H,W i m G H->((uy K a).stop i H/\af.c6 G H)∨((uy K a).go i H/\∃N:L2.St->ak->Prop,(∀aM H',N aM H'->∃m',m'<m/\W (i+1) m' aM H')/\∀x H',(uy K a).jO i H x H'->g x G H' λcP au=>cu {af with c6:=N,en:=N,gD:=af.c6} cP au):=by
 refine⟨λi m G H=>m=xs.length-i/\i<=xs.length/\Pv i G H,⟨xs.length,by simp,ek _,b9⟩,?_⟩;rintro i m G H ⟨rfl,hi,p⟩;have q:=aq i G H hi p;obtain c4|z7:=xI i xs.length
 .refine .inr ⟨⟨xs,xs[i],q,f7 c4⟩,Pv (i+1),λaM H' fM=>⟨_,by omega,Y,c4,fM⟩,λy H' bl=>?_⟩;obtain⟨T,x,rfl,dp,rfl,ag⟩:=bl;exact ax i x G H (ag xs q) p T dp
 have e:i=xs.length:=by omega
 subst e;exact .inl ⟨⟨xs,q,cO _⟩,hd G H p⟩
theorem a7z{g:gR}(Pv:Nat->L2.St->ak->Prop)(b9:Pv 0 G H)(aq:(∀i G H,i<=xs.length->Pv i G H->Holds K H v xs)∨∃a,v=.ref a/\∀i G H,i<=xs.length->Pv i G H->bp K H a xs)(ax:∀i x G H,xs[i]? =B x->Pv i G H->∀T,H T=aa->g (.ref T) G (av H T (.tup [.int (i:Nat),x])) λcP au=>cu {af with c6:=Pv (i+1),en:=Pv (i+1),gD:=af.c6} cP au)(hd:∀G H,Pv xs.length G H->af.c6 G H):(Holds K H v xs/\∃W:Nat->Nat->L2.St->ak->Prop,(∃m,W 0 m G H)/\∀i m G H,W i m G H->((uR K v xs).stop i H/\af.c6 G H)∨((uR K v xs).go i H/\∃N:L2.St->ak->Prop,(∀aM H',N aM H'->∃m',m'<m/\W (i+1) m' aM H')/\∀x H',(uR K v xs).jO i H x H'->g x G H' λcP au=>cu {af with c6:=N,en:=N,gD:=af.c6} cP au))∨∃a,v=.ref a/\bp K H a xs/\∃W:Nat->Nat->L2.St->ak->Prop,(∃m,W 0 m G H)/\∀i m G H,W i m G H->((uy K a).stop i H/\af.c6 G H)∨((uy K a).go i H/\∃N:L2.St->ak->Prop,(∀aM H',N aM H'->∃m',m'<m/\W (i+1) m' aM H')/\∀x H',(uy K a).jO i H x H'->g x G H' λcP au=>cu {af with c6:=N,en:=N,gD:=af.c6} cP au):=by
 obtain aq|⟨a,e,aq⟩:=aq
 .exact .inl ⟨aq 0 G H (ek _) b9,a7x Pv b9 aq ax hd⟩
 exact .inr ⟨a,e,aq 0 G H (ek _) b9,a7y Pv b9 aq ax hd⟩
theorem a7A{a b:I}{ys:List V}{g:gR}(Pv:Nat->L2.St->ak->Prop)(b9:Pv 0 G H)(aq:∀i G H,Pv i G H->bp K H a xs/\bp K H b ys)(ax:∀i x y G H,xs[i]? =B x->ys[i]? =B y->Pv i G H->∀T,H T=aa->g (.ref T) G (av H T (.tup [x,y])) λcP au=>cu {af with c6:=Pv (i+1),en:=Pv (i+1),gD:=af.c6} cP au)(hd:∀i G H,i<=xs.length->i<=ys.length->(i=xs.length∨i=ys.length)->Pv i G H->af.c6 G H):∃W:Nat->Nat->L2.St->ak->Prop,(∃m,W 0 m G H)/\∀i m G H,W i m G H->((sW K a b).stop i H/\af.c6 G H)∨((sW K a b).go i H/\∃N:L2.St->ak->Prop,(∀aM H',N aM H'->∃m',m'<m/\W (i+1) m' aM H')/\∀x H',(sW K a b).jO i H x H'->g x G H' λcP au=>cu {af with c6:=N,en:=N,gD:=af.c6} cP au):=by
 refine⟨λi m G H=>m=xs.length-i/\i<=xs.length/\i<=ys.length/\Pv i G H,⟨xs.length,by simp,ek _,ek _,b9⟩,?_⟩;rintro i m G H ⟨rfl,hi,uS,p⟩;obtain⟨q,cw⟩:=aq i G H p;obtain c4|z7:=xI i xs.length
 .obtain wU|a7B:=xI i ys.length
  .refine .inr ⟨⟨xs,ys,xs[i],ys[i],q,cw,f7 c4,f7 wU⟩,Pv (i+1),λaM H' fM=>⟨_,by omega,Y,c4,wU,fM⟩,λv H' bl=>?_⟩;obtain⟨T,x,y,rfl,dp,rfl,ag,bl⟩:=bl;exact ax i x y G H (ag xs q) (bl ys cw) p T dp
  exact .inl ⟨⟨xs,ys,q,cw,.inr a7B⟩,hd i G H hi uS (.inr (by omega)) p⟩
 exact .inl ⟨⟨xs,ys,q,cw,.inl z7⟩,hd i G H hi uS (.inl (by omega)) p⟩
theorem a7C{g:gR}(Pv:Nat->L2.St->ak->Prop)(b9:Pv 0 G H)(ax:∀i c G H,x.cps[i]? =B c->Pv i G H->g (.str ⟨#[c]⟩) G H λcP au=>cu {af with c6:=Pv (i+1),en:=Pv (i+1),gD:=af.c6} cP au)(hd:∀G H,Pv x.cps.size G H->af.c6 G H):∃W:Nat->Nat->L2.St->ak->Prop,(∃m,W 0 m G H)/\∀i m G H,W i m G H->((o_ x).stop i H/\af.c6 G H)∨((o_ x).go i H/\∃N:L2.St->ak->Prop,(∀aM H',N aM H'->∃m',m'<m/\W (i+1) m' aM H')/\∀v H',(o_ x).jO i H v H'->g v G H' λcP au=>cu {af with c6:=N,en:=N,gD:=af.c6} cP au):=by
 refine⟨λi m G H=>m=x.cps.size-i/\i<=x.cps.size/\Pv i G H,⟨x.cps.size,by simp,ek _,b9⟩,?_⟩;rintro i m G H ⟨rfl,hi,p⟩;obtain c4|z7:=xI i x.cps.size
 .refine .inr ⟨c4,Pv (i+1),λaM H' fM=>⟨_,by omega,Y,c4,fM⟩,λy H' bl=>?_⟩;obtain⟨rfl,c,a7,rfl⟩:=bl;exact ax i c G _ a7 p
 have e:i=x.cps.size:=by omega
 subst e;exact .inl ⟨cO _,hd G H p⟩
theorem U0{g:gR}{tt:TT}{vs:List Nat}{ai:ak}{af:I}{Qd:ak->Prop}(Pv:Nat->ak->Prop)(b9:Pv 0 (av ai af (.lst [])))(ax:∀i c H,x.cps[i]? =B c->Pv i H->g (.str ⟨#[c]⟩) (eT G vs) H λcP au=>eT cP vs=eT G vs/\tt cP au λb bc=>if b=a9 then bY cP bc λy cT=>∃bM,cT af=B (.lst bM)/\bM.length<cM/\Pv (i+1) (av cT af (.lst (bM++[y])))else Pv (i+1) bc)(hd:∀H,Pv x.cps.size H->Qd H):∃W:Nat->Nat->ak->Prop,(∃m,W 0 m (av ai af (.lst [])))/\∀i m H,W i m H->((o_ x).stop i H/\Qd H)∨((o_ x).go i H/\∃i4:ak->Prop,(∀H',i4 H'->∃m',m'<m/\W (i+1) m' H')/\∀v H',(o_ x).jO i H v H'->g v (eT G vs) H' λcP au=>eT cP vs=eT G vs/\tt cP au λb bc=>if b=a9 then bY cP bc λy cT=>∃bM,cT af=B (.lst bM)/\bM.length<cM/\i4 (av cT af (.lst (bM++[y])))else i4 bc):=by
 refine⟨λi m H=>m=x.cps.size-i/\i<=x.cps.size/\Pv i H,⟨x.cps.size,by simp,ek _,b9⟩,?_⟩;rintro i m H ⟨rfl,hi,p⟩;obtain c4|z7:=xI i x.cps.size
 .refine .inr ⟨c4,Pv (i+1),λH' fM=>⟨_,by omega,Y,c4,fM⟩,λy H' bl=>?_⟩;obtain⟨rfl,c,a7,rfl⟩:=bl;exact ax i c _ a7 p
 have e:i=x.cps.size:=by omega
 subst e;exact .inl ⟨cO _,hd H p⟩
theorem U1:hr X (sl .Mult) (λx y H Q=>∃c k:Nat,x=.str ⟨#[c]⟩/\y=.int (k:Int)/\1<k/\k<=1000/\Q (.str ⟨(hO k c).toArray⟩) H):=by
 intro _ s G H x y v u Q D cp cC h;obtain⟨c,k,rfl,rfl,O,_,q⟩:=h;obtain⟨t,rfl⟩:=cp;obtain⟨_,rfl⟩:=cC;have e:Txt.mul ⟨#[c]⟩ (k:Int)=⟨(hO k c).toArray⟩:=by
  unfold Txt.mul;rw[aL (by omega),aL (by
   intro z;rw[sb]at z;obtain z|z:=z
   .have:=eq_of_beq z;omega
   exact absurd (show((1:Nat)==0)=a9 from z) (by decide))]
  congr 1;rw[tP];have g:∀(n:Nat)(bM:Array Nat),(hO n (#[c]:Array Nat)).foldl (·++·) bM=bM++(hO n c).toArray:=by intro n;induction n with|zero=>intro bM;simp|succ n ih=>intro bM;rw[Aa,vB,ih,Aa];apply Array.ext';simp
  rw[g];simp
 refine SB.mul (x:=⟨#[c]⟩) (n:=(k:Int)) ⟨?_,λ_ _=>?_,λ_ _=>?_⟩ λ_ _=>⟨.str _,H,D.tok _,⟨_,Y⟩,by rw[e];exact q⟩
 .rw[gP (by omega),gP (by omega)];rfl
 .show¬(((1:Nat):Int)>(2^63-1)/(k:Int));have:(1:Int)<=(2^63-1)/(k:Int):=(Int.le_ediv_iff_mul_le (by omega)).mpr (by omega);omega
 show a09 (1*(k:Int).toNat)=aJ;rw[tP,Nat.one_mul];exact a3I (by omega)
def tc(b9 h:br):Prop:=∀b o,b9.get? b=B o->h.get? b=B o
variable{bt:Nat->Nat->Bool}
section
variable{S:I}{bO z8:List I}{Pv:Nat->ae->Prop}{St:Nat->br->Prop}{b9:br}
def U2(P:bQ)(w:bI)(A:d9)(Pv:Nat->ae->Prop)(bt:Nat->Nat->Bool)(b9:br):Prop:=∀i j u v (s:ay) (Q E:ae->ay->Prop),Pv i u->Pv j v->tc b9 s.heap->Q (.bool (bt i j)) s->b8 (bq P w) A (a0E .Lt u v) Q E s
theorem tc.on(aH:∀b,b∈z8∨b=S->b9.get? b=aa)(o:tc b9 h)(k:∀b o,b∉z8->b≠S->h.get? b=B o->h'.get? b=B o):tc b9 h':=λb cE e=>k b cE (λz=>by rw[aH b (.inl z)]at e;cases e) (λz=>by rw[aH b (.inr z)]at e;cases e) (o b cE e)
theorem a7D(W:Walks P w A.in1 a' bO z8 n Pv St)(C:U2 P w A.in1 Pv bt b9)(z9:S∉bO)(aH:∀b,b∈z8∨b=S->b9.get? b=aa)(k:Nat):∀(j:Nat)(s:ay)(td:ae)(c:Nat),n-(j+1)=k->j+1<=n->St (j+1) s.heap->tc b9 s.heap->Pv (md bt j) td->s.heap.get? S=B {cls:=.type "list",dict:=aa,data:=.seq #[td,td] c,slots:=#[]}->(∀v h' tk,Pv (md bt (n-1)) v->(∀b o,b∉z8->b≠S->s.heap.get? b=B o->h'.get? b=B o)->R (.ok (.ret v)) {s with heap:=h',toks:=tk})->me (bq P w) A (.builtin "min.loop" ⟨[.ref a',.none,.ref S],[]⟩) R s:=by
 have U3:S∉z8:=λz=>z9 (W.sub _ z);have nm:(toString "min" ++toString ".loop" :String)="min.loop" :=by decide
 induction k with
 |zero=>
  intro j s td c aA bX ft aU Ge l9 d1;have za:j+1=n:=by omega
  refine Pu F.entry_min_loop ?_;rw[a07 Af _];show b8 _ A.in1 (Ao (.ref S)>>=_) _ _ s;refine bC (vR l9 Y ?_);show b8 _ A.in1 (tryCatch (pB (.ref a')) _>>=_) _ _ s;refine bC (PC (W.done s _ _ (za ▸ ft) λh' tk dH=>?_));have uT:=dH S _ U3 l9;show b8 _ A.in1 (updateSeq S (λ_=>#[])>>=_) _ _ _;refine bC ?_;refine a0W uT Y (bC (E3 (eC (d1 td _ tk (by rw[<-za];exact Ge) λb o wV mG e=>(nF _ _ (ed mG)).trans (dH b o wV e)))))
 |succ k ih=>
  intro j s td c aA bX ft aU Ge l9 d1;have c4:j+1<n:=by omega
  refine Pu F.entry_min_loop ?_;rw[a07 Af _];show b8 _ A.in1 (Ao (.ref S)>>=_) _ _ s;refine bC (vR l9 Y ?_);show b8 _ A.in1 (tryCatch (pB (.ref a')) _>>=_) _ _ s;refine bC (PC (W.item (j+1) s _ _ c4 ft λv h' tk bK nS dH=>?_));have uT:=dH S _ U3 l9;have l7:tc b9 h':=aU.on aH λb o a0 _ e=>dH b o a0 e;show b8 _ A.in1 (tryCatch (rd [v,v] (a0E .Lt v td>>=_)) _>>=_) _ _ _;refine bC (PC (rf (bC (C (j+1) (md bt j) v td _ _ _ bK Ge l7 ?_))));refine bC (rf (u6 ?_));refine bC (E3 (eC ?_));cases a0:bt (j+1) (md bt j)with|true=>simp only[jB];refine bC ?_;refine a0W uT Y (bC (E3 ?_));rw[nm];have wW:∀f b o,b≠S->h'.get? b=B o->(h'.update S f).get? b=B o:=λf b o mG e=>(nF _ _ (ed mG)).trans e;refine eC ⟨Px Af _,ih (j+1) _ v _ (by omega) c4 (W.frame _ _ _ nS λb L' o e=>wW _ b o (λz=>z9 (z ▸ L')) e) (l7.on aH λb o _ mG e=>wW _ b o mG e) (by simp only[md,a0,jB];exact bK) (ra _ uT Y) λkB jm BO uU bL=>d1 kB jm BO uU λb o wV mG e=>bL b o wV mG (wW _ b o mG (dH b o wV e))⟩|false=>simp only[qa,jA];refine bC (E3 ?_);rw[nm];exact eC ⟨Px Af _,ih (j+1) _ td c (by omega) c4 nS l7 (by simp only[md,a0,qa,jA];exact Ge) uT λkB jm BO uU bL=>d1 kB jm BO uU λb o wV mG e=>bL b o wV mG (dH b o wV e)⟩
end
section
variable{l:I}{b6:Array ae}
theorem a7E{Q:ae->ay->Prop}(bU:A.handled=aa)(aq:s.heap.IsList l b6)(bV:0<b6.size)(C:U2 P w A.in1 (λi v=>b6[i]? =B v) bt s.heap)(h:∀v h' tk,b6[md bt (b6.size-1)]? =B v->tc s.heap h'->Q v {s with heap:=h',toks:=tk}):b8 (bq P w) A (mU (.builtin "min") [.ref l]) Q E s:=by
 have nm:(toString "min" ++toString ".loop" :String)="min.loop" :=by decide
 refine call_function_tree F.kind_min F.plain_min F.entry_min (F.args_min1 _) ?_;show b8 _ A.in1 (ait "min" ["key","default"] 0 ⟨[],[]⟩>>=_) _ _ s;refine bC (a0R (show ait "min" ["key","default"] 0 ⟨[],[]⟩=pure [aa,aa]from Y) (bC (eC ?_)));have c4:l<s.heap.objs.size:=by obtain⟨_,e,_⟩:=aq;exact dF e
 refine bC (a0S aq (bC (y0 ?_)));rw[nm];have W:Walks P w A.in1 s.heap.objs.size _ _ _ _ _:=aj4 (A:=A.in1) bU s.heap.objs.size l (gW c4) b6;let O:=s.heap.push {cls:=.type "list_iterator",data:=.fields #[.ref l,.int 0 0]}
 have hC:O.objs.size=s.heap.objs.size+1:=mR ..;have z9:O.objs.size∉[s.heap.objs.size,l]:=λz=>by
  obtain e|z:=dx.mp z
  .omega
  have e:O.objs.size=l:=jL.mp z;rw[<-e,hC]at c4;exact absurd c4 (Ae.mpr (sf _))
 have aH:∀b,b∈[s.heap.objs.size]∨b=O.objs.size->s.heap.get? b=aa:=λb a0=>by
  cases e:s.heap.get? b with
  |none=>rfl
  |some o=>
   have lt:=dF e;obtain e|e:=a0
   .rw[jL.mp e]at lt;exact absurd lt (r9 _)
   rw[e,hC]at lt;exact absurd lt (Ae.mpr (sf _))
 have cJ:tc s.heap (O.push {cls:=.type "list",data:=.seq #[]}):=λb o e=>e9 _ (e9 _ e);refine eC ⟨Px Af _,?_⟩;refine Pu F.entry_min_loop ?_;rw[a07 Af _];show b8 _ A.in1 (Ao (.ref O.objs.size)>>=_) _ _ _;refine bC (vR (hP _ Y) Y ?_);show b8 _ A.in1 (tryCatch (pB (.ref s.heap.objs.size)) _>>=_) _ _ _;have a7F:(λi (h:br)=>h.IsListIter s.heap.objs.size l i/\h.IsList l b6) 0 (O.push {cls:=.type "list",data:=.seq #[]}):=⟨⟨_,e9 _ (hP _ Y),Y,Y⟩,(aq.push _).push _⟩;refine bC (PC (W.item 0 _ _ _ bV a7F λv h' tk bK nS dH=>?_));have uT:=dH O.objs.size _ (λz=>z9 (W.sub _ z)) (hP _ Y);show b8 _ A.in1 (updateSeq O.objs.size (λ_=>#[v,v])>>=_) _ _ _;refine bC (a0W uT Y ?_);rw[nm];have l7:tc s.heap h':=cJ.on aH λb o a0 _ e=>dH b o a0 e;have wW:∀f b o,b≠O.objs.size->h'.get? b=B o->(h'.update O.objs.size f).get? b=B o:=λf b o mG e=>(nF _ _ (ed mG)).trans e;refine eC ⟨Px Af _,a7D W C z9 aH _ 0 _ v _ Y bV (W.frame _ _ _ nS λb L' o e=>wW _ b o (λz=>z9 (z ▸ L')) e) (l7.on aH λb o _ mG e=>wW _ b o mG e) bK (ra _ uT Y) λkB jm BO uU bL=>h kB jm BO uU ?_⟩;exact(l7.on aH λb o _ mG e=>wW _ b o mG e).on aH λb o a0 ax e=>bL b o a0 ax e
end
abbrev l_(p q:Int×Int):Bool:=HT.lexLt [p.1,p.2] [q.1,q.2]
theorem wX(p q:Int×Int):l_ p q=a9↔p.1<q.1∨(p.1=q.1/\p.2<q.2):=by
 unfold l_ HT.lexLt HT.lexLt HT.lexLt;by_cases h:p.1=q.1
 .rw[aZ h];by_cases a5:p.2=q.2
  .rw[aZ a5];constructor
   .intro z;cases z
   intro z;omega
  rw[aL a5,mj];omega
 rw[aL h,mj];omega
theorem M0(f:Nat->Int×Int):∀k j,j<=k->l_ (f j) (f (md (λi j=>l_ (f i) (f j)) k))=aJ
 |0,j,h=>by
  have:j=0:=by omega
  subst this;cases z:l_ (f 0) (f (md (λi j=>l_ (f i) (f j)) 0))with|false=>rfl|true=>have:=(wX _ _).mp z;unfold md at this;omega
 |k+1,j,h=>by
  cases z:l_ (f j) (f (md (λi j=>l_ (f i) (f j)) (k+1)))with
  |false=>rfl
  |true=>
   exfalso;have z:=(wX _ _).mp z;by_cases a0:l_ (f (k+1)) (f (md (λi j=>l_ (f i) (f j)) k))=a9
   .have e:md (λi j=>l_ (f i) (f j)) (k+1)=k+1:=by show(if _ then _ else _)=_;exact aZ a0
    rw[e]at z;by_cases bX:j=k+1
    .subst bX;omega
    have ih:=M0 f k j (by omega);have a0:=(wX _ _).mp a0;have:l_ (f j) (f (md (λi j=>l_ (f i) (f j)) k))=a9:=(wX _ _).mpr (by omega);rw[ih]at this;cases this
   have e:md (λi j=>l_ (f i) (f j)) (k+1)=md (λi j=>l_ (f i) (f j)) k:=by show(if _ then _ else _)=_;exact aL a0
   rw[e]at z;by_cases bX:j=k+1
   .subst bX;exact a0 ((wX _ _).mpr z)
   have ih:=M0 f k j (by omega);rw[(wX _ _).mpr z]at ih;cases ih
def a7G(K:bj):List V->ak->cR->Prop:=λvs H Q=>∃(l:I)(ts:List I)(aK:List (Int×Int)),vs=[.ref l]/\bp K H l (ts.map V.ref)/\ts.length=aK.length/\(∀(i:Nat) t p,ts[i]? =B t->aK[i]? =B p->dq K H t [.int p.1,.int p.2])/\0<ts.length/\∀(i:Nat) t p,ts[i]? =B t->aK[i]? =B p->(∀q∈aK,l_ q p=aJ)->Q (.ref t) H
theorem a7H(r:cB (ts.map V.ref) us):us=ts.map dM:=by
 induction ts generalizing us with
 |nil=>cases r;rfl
 |cons t ts ih=>cases r with|cons h r=>cases h;rw[ih r];rfl
theorem a7I(a7:X.calm=a9)(bz:X.A.in1.units<t_):pK X (.builtin "min") (a7G X.K):=by
 intro _ s G H _ _ Q D r h;obtain⟨l,ts,aK,rfl,aq,_,kN,bV,k⟩:=h;obtain⟨_,cA,dg,_⟩:=D.list aq;rw[cB.K4 r];have kO:=a7H cA;subst kO;let f:Nat->Int×Int:=λi=>aK.getD i (0,0)
 have l0:(ts.map dM).toArray.size=ts.length:=by simp
 have at_:∀{i:Nat}{v:ae},(ts.map dM).toArray[i]? =B v->∃t,ts[i]? =B t/\v=.ref t/\aK[i]? =B (f i):=fun{i v} e=>by
  rw[ZJ,fP]at e;cases z:ts[i]? with
  |none=>rw[z]at e;cases e
  |some t=>
   rw[z]at e;have hi:=(ec.mp z).1;refine⟨t,Y,(gX e).symm,?_⟩;have uS:i<aK.length:=by omega
   show aK[i]? =B (aK.getD i (0,0));rw[tQ,f7 uS];rfl
 refine a7E (bt:=λi j=>l_ (f i) (f j)) (D.ok.hd a7) dg.isList (by rw[l0];exact bV) (λi j u v _ _ _ hi bX aU q=>?_) λv _ _ bk aU=>?_
 .obtain⟨t,ba,rfl,ar⟩:=at_ hi;obtain⟨nh,uV,rfl,nv⟩:=at_ bX;obtain⟨a7J,cv,p2,_⟩:=D.tuple (kN i t _ ba ar);obtain⟨a7K,dR,eY,_⟩:=D.tuple (kN j nh _ uV nv);have gI:sh a7J.toArray.toList [(f i).1,(f i).2]:=intsAre_of (ns:=[(f i).1,(f i).2]) cv;have g4:sh a7K.toArray.toList [(f j).1,(f j).2]:=intsAre_of (ns:=[(f j).1,(f j).2]) dR;obtain⟨o1,aO,eG⟩:=p2;obtain⟨o2,aT,gg⟩:=eY;exact HT.a2r ⟨o1,aU _ _ aO,eG⟩ ⟨o2,aU _ _ aT,gg⟩ gI g4 bz q
 obtain⟨t,ba,rfl,ar⟩:=at_ bk;refine⟨.ref t,H,D.kept aU,Y,k _ t _ ba ar λq aQ=>?_⟩;obtain⟨j,bX⟩:=A6 aQ;have U4:=(ec.mp bX).1;have:=M0 f ((ts.map dM).toArray.size-1) j (by rw[l0];omega);have e:f j=q:=by show aK.getD j (0,0)=q;rw[tQ,bX];rfl
 rw[e]at this;exact this
structure j' (k:Nat) (A:d9):Prop where
 ey:A.depth+3*k+5<a0D
 un:A.units+16*k+200<t_
theorem dn.BP(r:dn k A):j' k A:=⟨r.ey,r.un⟩
theorem j'.make(r:j' (k+1) A)(C:I)(us:List ae):j' k (A.under (.builtin "type.__call__" ⟨.ref C::us,[]⟩)):=⟨by have:=r.ey;rw[Qx];omega,by have:=r.un;rw[Qy];omega⟩
structure Gf (P:bQ) (w:bI) (K:bj) (a6:a8->Option ae) (base:br) (k:Nat) (f:I) (fd:ka) (aK:List a8) (sp:bF):Prop where
 len:∀vs H Q E,sp vs H Q E->vs.length=aK.length
 run:∀(A:d9)(outer:List eB)(s:ay)(H:ak)(args:Args)(us:List ae)(vs:List V)(Q:cR)(E:dN),j' k A->qr P w K a6 base A outer s H->xN s fd args (aK.zip us)->cB vs us->sp vs H Q E->me (bq P w) A (.call (.ref f) args) (JK cj outer P w H s Q E) s
abbrev wY(P:bQ)(w:bI)(K:bj)(a6:a8->Option ae)(base:br)(N:List a8)(cm:a8)(scope:hZ)(f:I)(d5:ae)(A:d9)(outer:List eB)(s:ay)(H:ak)(E:dN):bB:={oU cj P w K a6 base N cm scope f d5 A outer s H E with calm:=aJ,bN:=λ_ _=>False}
theorem BP{cm:a8}{scope:hZ}{d5:ae}{s1:ay}{ai:ak}{E:dN}(D:Inv (oU cj P w K a6 base N cm scope f d5 {A with handled:=aa} outer s H E) [] G ai s1):Inv (wY P w K a6 base N cm scope f d5 A outer s H E) [] G ai s1:=by obtain⟨ok,os,bare,bs,loc,cell,free,k',pin,bR,len⟩:=D;exact⟨⟨ok.mod,ok.kind,ok.glob,ok.blt,ok.above,ok.inj,ok.has,ok.sx,λz=>(nomatch z),ok.frames,ok.uc,ok.rn,ok.bs,ok.mm,ok.sy,ok.ro,ok.k_,ok.oG⟩,os,bare,bs,loc,cell,free,k',pin,bR,len⟩
theorem a7L{cm:a8}{st:bH}(F:o4 K x cm st f fd)(S:bZ N aK (bo st))(len:∀vs H Q E,sp vs H Q E->vs.length=aK.length)(sG:∀(b4:ae)(A:d9)(outer:List eB)(s:ay)(H:ak)(vs:List V)(Q:cR)(E:dN),sp vs H Q E->∃t,ie (wY P w K a6 base N cm (bo st) f b4 A outer s H E) (lP st) t/\t {c6:=λ_ H'=>Q .bS H',ic:=Q} (start N vs) H):Gf P w K a6 base (k+1) f fd aK sp:=by
 obtain⟨_,_,_,_,_,_,b4,_,_,rfl,lk,l1⟩:=F.ex;refine⟨len,λA outer s H _ us vs Q E ah e0 a0 r l6=>?_⟩;have aq:=len _ _ _ _ l6;have bb:K.In s.heap:=e0.mod.hR.keeps λb o e=>(e0.bs b o e).1;have JP:s.heap.NoLimit:=e0.mod.nolimit.keeps λb o e=>(e0.bs b o e).1;have aA:∀y∈aK.zip us,(bo st).names.lookup y.1=B .local∨((bo st).names.lookup y.1=B .cell/\((ib (s.heap.objs.size+1) (bo st).names []).lookup y.1).isSome=a9):=λ⟨n,v⟩ bl=>by
  obtain z|z:=S.par n (Ic bl).1
  .exact .inl z
  exact .inr ⟨z,Po _ _ _ (.inl z)⟩
 refine a0w (by have:=ah.ey;omega) (bb _ _ lk) Y S.co S.gen Y (a0m bb l1) (a0 _ _ _ _ ?_);refine a0Q S.kind aA λ_ aF s1 x=>?_;subst aF;refine⟨JP.keeps x.toInCall.keep,a0x ?_⟩;obtain⟨t,ba,aQ⟩:=sG b4 A outer s H vs Q E l6;have aO:qr P w K a6 base {A with handled:=aa} outer s H:=⟨e0.frames,e0.mod,e0.bs,e0.mm,e0.k_,e0.oG,e0.bR,e0.bare⟩;have D:=BP (JN (CX:=cj) (E:=E) (A:={A with handled:=aa}) S Y aO aq r x);refine mg (ba [] s1 (start N vs) H _ D aQ) (λdE b3 ax=>?_) λe b3 ax=>ax.elim;cases dE with|ret u=>obtain⟨v,aM,H',d4,cA,q⟩:=ax;exact⟨v,H',d4.os,d4.bare,d4.base,d4.bR,cA,q⟩|next=>obtain⟨aM,H',d4,q⟩:=ax;exact⟨.bS,H',d4.os,d4.bare,d4.base,d4.bR,Y,q⟩|brk=>obtain⟨_,_,_,q⟩:=ax;exact hk q|cont=>obtain⟨_,_,_,q⟩:=ax;exact hk q
section
variable{E:dN}{e:bP}{t:gE}
theorem a7M{Q:cR}{vs:List V}(e8:iM X.K C f cV)(F:Gf X.prog X.w X.K X.a6 X.base k f fd aK sp)(ah:j' (k+1) X.A)(a0:Binds X.K fd aK [])(D:Inv X a4 G H s)(r:cB vs us)(aR:vs.length<=cM)(h:∀a,H a=aa->sp (.ref a::vs) (av H a (dj a C aa 0)) (λv au=>v=.bS/\Q (.ref a) au) E):b8 (bq X.prog X.w) X.A (mU (.ref C) us) (i0 X a4 G Q) X.bN s:=by
 obtain⟨_,q,N,_,_,_,_,_,_,_,_,_,_,_,_,e1,dD,hi,_,_,_,_⟩:=e8.ex;obtain⟨_,hf,wF⟩:=e8.fn;have hR:=D.gQ;obtain⟨ar,g,d,tk,os⟩:=s;have aQ:=h (ar.objs.size+1) (D.bR.fresh (sf _));have c7:∀b u,ar.get? b=B u->((ar.push (nk us)).push (lg C ar.objs.size)).get? b=B u:=λb u z=>e9 _ (e9 _ z);have BC:((ar.push (nk us)).push (lg C ar.objs.size)).get? (ar.objs.size+1)=B (lg C ar.objs.size):=by heap_get
 have cL:Inv X a4 G (av H (ar.objs.size+1) (dj (ar.objs.size+1) C aa 0)) ⟨(ar.push (nk us)).push (lg C ar.objs.size),g,d,tk,os⟩:=
  D.laid (a:=ar.objs.size+1) (o:=dj (ar.objs.size+1) C aa 0) (t':=tk) c7 (sf _) (yZ ⟨_,_,BC,Y,Y,Y,Y,λ_=>rfl,λ_=>rfl⟩)
 have dR:cB (V.ref (ar.objs.size+1)::vs) (dM (ar.objs.size+1)::us):=.cons Y r;have aq:(dM (ar.objs.size+1)::us++[]).length=aK.length:=by have z:=dR.length;rw[F.len _ _ _ _ aQ]at z;rw[hN];exact z.symm
 have wo:=a0 ⟨(ar.push (nk us)).push (lg C ar.objs.size),g,d,tk,os⟩ (dM (ar.objs.size+1)::us) cL.gQ aq;rw[hN]at wo;refine Au (Tw aiE (hR _ _ e1) (dD _ hR) hi (hR _ _ hf) wF (vN (F.run _ X.stack _ _ ⟨dM (ar.objs.size+1)::us,[]⟩ (dM (ar.objs.size+1)::us) _ _ E (ah.make C us) (cL.yt.make C us []) wo dR aQ) λiC _ kf=>?_) (by rw[<-r.length];exact aR));cases iC with
 |error iZ=>exact kf.elim
 |ok dE=>cases dE with|ret u=>obtain⟨v,H',dG,cA,iZ,h1⟩:=cL.after kf;subst iZ;exact⟨cA,⟨V.ref (ar.objs.size+1),H',dG,Y,h1⟩⟩|next=>exact hk kf|brk=>exact hk kf|cont=>exact hk kf
theorem a7N(e8:iM X.K C f cV)(F:Gf X.prog X.w X.K X.a6 X.base k f fd aK sp)(ah:j' (k+1) X.A)(aI:hA X x)(hm:X.a6 x=B (.ref C))(a0:Binds X.K fd aK [])(bf:hz X (e::b7) t)(gd:kF x:=by decide)(aF:nY X e b7:=by rfl)(eF:l5 X pos b7:=by rfl):
  bT X (.Call (.Name x p) (e::b7) [] pos) (wI C sp E t):=by
 intro a4 s G H Q D h;refine vP (oJ D aI hm ?_ gd);exact xR (h₀:=X.base) D.ok.mod.hR e8.dH (bW (bf pos a4 s G H _ D h) λ_ _ ⟨_,_,aP,r,q⟩=>⟨aP.gQ,a7M e8 F ah a0 aP r q.1 q.2⟩) aF eF
end
section
variable{rO:bH}{jZ n:a8}{wM j2:Pos}{th:er}{tn:I->er}{E1 E2:dN}{gB:I}
def a7O(u:Nat)(N:List a8)(C:I)(cu th:er)(E1:dN):er:=λaf G H=>cu af G H/\∀cls iN H',E1 cls iN H'->cls=.ref C/\th (LW af) (hO N.length aa) H'
theorem a7P(ft:X.stack=X.env::X.outer)(hf:X.env.frame=B X.env.locals)(aI:hA X jZ)(hm:X.a6 jZ=B (.ref C))(e8:iM X.K C gB cV)(a0:∀cZ bN,mD t (nt X cZ bN) E1->ie (nt X cZ bN) body cu)(ax:∀e cZ bN,ie (ob X e cZ bN) (rO::rN) th)(gd:kF jZ:=by decide):
  jd X (.Try body [.ExceptHandler (B (.Name jZ wM)) aa (rO::rN) j2] [] [] pos) (a7O t X.N C cu th E1):=by
 intro a4 s G H af D h;obtain⟨O,a5⟩:=h;rw[a0t];refine bC (rh (a0V ?_));have BL:mD t (nt X (X.cZ++a4) (λe du=>b8 (bq X.prog X.w) X.A (u1 e X.env) (λ_ iX=>b8 (bq X.prog X.w) X.A (Aq e aa) (λ_ oQ=>b8 (bq X.prog X.w) X.A (a0A e X.env [.ExceptHandler (B (.Name jZ wM)) aa (rO::rN) j2]) (m_ X a4 af) X.bN oQ) X.bN iX) X.bN du)) E1:=by intro _ aM H' s1 e _ _ m _ _ T aP q lZ dp x pf f3;obtain⟨qA,bU⟩:=a5 _ _ _ f3;cases qA;have wN:Inv X a4 aM H' s1:=wL aP;have wO:∀t,T=B t->H' t=aa/\∀p∈X.cZ++a4,p.1≠t:=λt z=>⟨(dp t z).1,λp ar=>(dp t z).2 p (se _ ar)⟩;refine G8 (X:=X) Y ft hf wN q lZ.1 wO x pf λ_ _ dG uO nu=>?_;refine uN (X:=X) (fr:=aa) dG q lZ.1 uO nu λ_ fU mx=>?_;obtain⟨_,_,N,_,_,_,_,_,_,_,_,_,_,_,_,e1,_,_⟩:=e8.ex;refine a0N (a0y ?_) (by intro z;cases z);have jf:=z4 (e:=e) (bN:=λ_ _=>True) fU;refine oJ (X:=ob X e (X.cZ++a4) λ_ _=>True) jf aI hm ?_ gd;obtain⟨_,_,et,eM,_,_,_,_,_⟩:=mx.obj;refine a0L (bm:=oa) (newId:="ValueError.__new__") (fU.gQ _ _ e1) et eM Y ?_;show me _ _ _ _ _;refine codeAny_handlers_suite ?_;refine uN (X:=X) (fr:=aa) fU q lZ.1 uO mx λ_ jg _=>?_;have fL:=z4 (e:=e) (a4:=a4) (bN:=z5 X e) (Inv.blank jg);rw[TQ,show aM.length=X.N.length from aP.len]at fL;refine bW (ax e (X.cZ++a4) _ [] _ _ H' _ fL bU) λf _ z=>?_;cases f with|next=>obtain⟨_,_,_,z⟩:=z;exact z.elim|brk=>obtain⟨_,_,_,z⟩:=z;exact z.elim|cont=>obtain⟨_,_,_,z⟩:=z;exact z.elim|ret u=>obtain⟨v,_,n',qv,BM,nf⟩:=z;exact⟨v,_,n',G7 D.ok qv,BM,nf⟩
 refine mg (a0 _ _ BL [] s G H af (LU D) O) (λf s1 z=>?_) λe s1 z=>z;have z:=LV z;cases f with|next=>exact vQ z|brk=>exact z|cont=>exact z|ret u=>exact z
def zb(u:Nat)(X:bB)(G:L2.St)(E:dN):Prop:=∀(a4:List (I×bJ))(H:ak)(s:ay)(e C a3:I)(m:Nat)(d_ dE:ae)(T:Option I),Inv X a4 G H s->H e=B (dj e C (B a3) m)->(1<=m/\m<=u)->(∀t,T=B t->H t=aa/\∀p∈X.cZ++a4,p.1≠t)->hu X.gv.heap.objs.size e C (B a3) d_ T dE s.heap->(dE=.none∨(T.isSome=a9/\dE=iz X.env.locals))->E (.ref C) (B a3) H->X.bN (.ref e) s
def Gg(X:bB)(G:L2.St)(e:bP)(t:b'):Prop:=∀(a4:List (I×bJ))(s:ay)(H:ak)(Q:cR),Inv X a4 G H s->t G H Q->b8 (bq X.prog X.w) X.A (eval e X.env) (i0 X a4 G Q) X.bN s
theorem zb.passes{E:dN}(c:zb u X G E)(bz:t<=u){b3:ay}{iZ:ae}(D:Inv X a4 G H s)(h:mC t X.prog X.w X.stack H s E iZ b3):X.bN iZ b3:=by obtain⟨e,C,a3,m,T,d_,H',rfl,aU,aI,un,bR,q,hm,BG,x,f3⟩:=h;have el:Inv X a4 G H' b3:=D.El (ch:=[]) aU un bR aI (λ_ z=>nomatch z);refine c a4 H' b3 e C a3 m d_ .none (B T) el q ⟨hm.1,dC hm.2 bz⟩ (λt z=>?_) (x.mono D.l0) (.inl Y) f3;cases z;refine⟨BG,λp ar z=>?_⟩;have a:=(x.cu T Y).1;have b:=dF (D.pin p ar).1;rw[z]at b;exact absurd b (Ae.mpr a)
theorem a7Q{E:dN}{e:bP}{c0:gE}(F:jD X.prog X.w X.K X.a6 X.base (mC t X.prog X.w) k f fd aK sp)(ah:dn k X.A)(aI:hA X x)(hm:X.a6 x=B (.ref f))(aA:nH X.K (.ref f)=a9)(a0:Binds X.K fd aK [])(c:zb u X G E)(bz:t<=u)(bf:hz X (e::b7) c0)(gd:kF x:=by decide)(aF:nY X e b7:=by rfl)(eF:l5 X pos b7:=by rfl):
  Gg X G (.Call (.Name x p) (e::b7) [] pos) (mw sp [] E c0):=by
 intro a4 s H Q D h;refine vP (oJ D aI hm ?_ gd);refine xR (h₀:=X.base) D.ok.mod.hR aA (bW (bf pos a4 s G H _ D h) λus s1 ⟨vs,ai,aP,r,q⟩=>⟨aP.gQ,?_⟩) aF eF;have dR:cB (vs++[]) (us++[]):=r.append .nil;have aq:(us++[]).length=aK.length:=by rw[<-dR.length];exact F.len _ _ _ _ q
 refine Au (vN (F.run X.A X.stack s1 ai ⟨us,[]⟩ (us++[]) (vs++[]) Q E ah aP.yt (a0 s1 us aP.gQ aq) dR q) λr _ aQ=>?_);cases r with
 |error e=>exact c.passes bz aP aQ
 |ok dE=>cases dE with|ret u=>exact aP.after aQ|next=>exact hk aQ|brk=>exact hk aQ|cont=>exact hk aQ
theorem a7R{j:Nat}{y:a8}{oY uw:Pos}{ex:bP}(dD:X.N.Nodup)(bX:X.N[j]? =B y)(bl:X.env.scope.names.lookup y=B .local)(aF:Gg X G ex bY)(Bb:sm ex (B (.Name y oY)) uw.line X.env=pure aJ)(D:Inv X a4 G H s)(h:oP bY (mr j) af G H):b8 (bq X.prog X.w) X.A (execs [.Assign [.Name y oY] ex uw] X.env) (m_ X a4 af) X.bN s:=by refine a0M ?_;refine ajq (bW (aF a4 s H _ D h) λv _ ⟨z,ai,aP,cv,bx⟩=>?_) Bb;exact yg aP dD bX (.inl bl) cv (λ_ cL=>vQ ⟨_,ai,cL,bx⟩) (.inr bl)
def a7S(u:Nat)(i j:Nat)(C:I)(bY:b')(tn:I->er)(E1:dN):er:=λaf G H=>oP bY (mr j) af G H/\∀cls iN H',E1 cls iN H'->cls=.ref C/\∀e a3 m,iN=B a3->H' e=B (dj e C (B a3) m)->(1<=m/\m<=u)->tn e (LW af) (G.set i (B (.ref e))) H'
theorem a7T{j:Nat}{y:a8}{oY uw:Pos}{ex:bP}(ft:X.stack=X.env::X.outer)(hf:X.env.frame=B X.env.locals)(dD:X.N.Nodup)(hi:X.N[i]? =B n)(aq:X.env.scope.names.lookup n=B .local)(bX:X.N[j]? =B y)(bl:X.env.scope.names.lookup y=B .local)(aI:hA X jZ)(hm:X.a6 jZ=B (.ref C))(e8:iM X.K C gB cV)(a0:∀G cZ bN,zb t (nt X cZ bN) G E1->Gg (nt X cZ bN) G ex bY)(c:mD u X E2)(ax:∀e cZ bN,mD u (ob X e cZ bN) E2->ie (ob X e cZ bN) (rO::rN) (tn e))(Bb:sm ex (B (.Name y oY)) uw.line X.env=pure aJ:=by rfl)(gd:kF jZ:=by decide):
  jd X (.Try [.Assign [.Name y oY] ex uw] [.ExceptHandler (B (.Name jZ wM)) (B n) (rO::rN) j2] [] [] pos) (a7S t i j C bY tn E1):=by
 intro a4 s G H af D h;obtain⟨O,a5⟩:=h;rw[a0t];refine bC (rh (a0V ?_));have BL:zb t (nt X (X.cZ++a4) (λe du=>b8 (bq X.prog X.w) X.A (u1 e X.env) (λ_ iX=>b8 (bq X.prog X.w) X.A (Aq e aa) (λ_ oQ=>b8 (bq X.prog X.w) X.A (a0A e X.env [.ExceptHandler (B (.Name jZ wM)) (B n) (rO::rN) j2]) (m_ X a4 af) X.bN oQ) X.bN iX) X.bN du)) G E1:=by intro _ H' s1 e _ a3 m _ _ T aP q lZ dp x pf f3;obtain⟨qA,bU⟩:=a5 _ _ _ f3;cases qA;have wN:Inv X a4 G H' s1:=wL aP;have wO:∀t,T=B t->H' t=aa/\∀p∈X.cZ++a4,p.1≠t:=λt z=>⟨(dp t z).1,λp ar=>(dp t z).2 p (se _ ar)⟩;refine G8 (X:=X) Y ft hf wN q lZ.1 wO x pf λ_ _ dG uO nu=>?_;refine uN (X:=X) (fr:=aa) dG q lZ.1 uO nu λ_ fU mx=>?_;obtain⟨_,_,N,_,_,_,_,_,_,_,_,_,_,_,_,e1,_,_⟩:=e8.ex;refine a0N (a0y ?_) (by intro z;cases z);have jf:=z4 (e:=e) (bN:=λ_ _=>True) fU;refine oJ (X:=ob X e (X.cZ++a4) λ_ _=>True) jf aI hm ?_ gd;obtain⟨_,_,et,eM,_,_,_,_,_⟩:=mx.obj;refine a0L (bm:=oa) (newId:="ValueError.__new__") (fU.gQ _ _ e1) et eM Y ?_;show me _ _ _ _ _;refine aje ?_;refine uN (X:=X) (fr:=aa) fU q lZ.1 uO mx λ_ jg _=>?_;have fL:=z4 (e:=e) (a4:=a4) (bN:=(BJ X n j2 e)) jg;refine yg (X:=ob X e (X.cZ++a4) (BJ X n j2 e)) fL dD hi (.inl aq) (v:=.ref e) Y (λpO uv=>?_) (.inr aq);have ag:=bU e a3 m Y q lZ;have run:=ax e (X.cZ++a4) _ (TR (j2:=j2) (n:=n) (e:=e) (a4:=a4) D.ok ft hf aq c) [] pO _ H' _ uv ag;refine bW run λf lO z=>?_;cases f with|next=>obtain⟨_,_,_,z⟩:=z;exact z.elim|brk=>obtain⟨_,_,_,z⟩:=z;exact z.elim|cont=>obtain⟨_,_,_,z⟩:=z;exact z.elim|ret u=>obtain⟨v,Gb,n',qv,BM,nf⟩:=z;have qw:Inv X a4 Gb n' lO:=G7 D.ok qv;obtain⟨_,aH,_⟩:=qw.loc;refine a0P aq aH (by rw[qw.ok.kind];rfl) λ_ _ LY LZ=>?_;exact⟨v,_,n',Inv.forget (t':=lO.toks+1) qw LY LZ,BM,nf⟩
 refine mg (a7R (X:=nt X (X.cZ++a4) _) dD bX bl (a0 G _ _ BL) Bb (LU D) O) (λf s1 z=>?_) λe s1 z=>z;have z:=LV z;cases f with|next=>exact vQ z|brk=>exact z|cont=>exact z|ret u=>exact z
end
def M1(bY:b'):b':=λG H Q=>bY G H λx ai=>∃z:a8,x=.str z/\z.length<=cM/\Q (.str z) ai
theorem U5{e:bP}(aF:bT X e bY):bT X (.FormattedValue e (-1) aa pos) (M1 bY):=by intro a4 s G H Q D h;refine FormattedValue_plain (bW (aF a4 s G H _ D h) λv _ ⟨x,ai,aP,cv,z,ex,aR,q⟩=>?_);subst ex;obtain⟨t,rfl⟩:=cv;exact formatField_str (λt' _=>⟨.str z,ai,aP.tok _,⟨t',Y⟩,q⟩) aR
def M3:List b'->a8->L2.St->ak->cR->Prop
 |[],bM,_,H,Q=>bM.length<=cM/\Q (.str bM) H
 |t::ts,bM,G,H,Q=>t G H λx ai=>∃y:a8,x=.str y/\(bM++y).length<=cM/\M3 ts (bM++y) G ai Q
def M4(X:bB):List bP->List b'->Prop
 |[],[]=>True
 |e::b7,t::ts=>bT X e t/\M4 X b7 ts
 |_,_=>False
theorem U6{X:bB}{a4:List (I×bJ)}{G:L2.St}{Q:cR}:∀(b7:List bP)(ts:List b')(bM:a8)(H:ak)(s:ay),M4 X b7 ts->Inv X a4 G H s->M3 ts bM G H Q->Joins (bq X.prog X.w) X.A X.bN (evalEach b7 X.env) bM (λn_ du=>n_.length<=cM/\i0 X a4 G Q (.str n_ du.toks) {du with toks:=du.toks+1}) s
 |[],[],bM,H,s,_,D,h=>⟨h.1,.str bM,H,D.tok _,⟨_,Y⟩,h.2⟩
 |e::b7,t::ts,bM,H,s,ar,D,h=>by show b8 _ _ (eval e X.env) _ _ s;refine bW (ar.1 a4 s G H _ D h) λv s1 ⟨x,ai,aP,cv,y,ex,aR,q⟩=>?_;subst ex;obtain⟨t',rfl⟩:=cv;exact⟨y,t',Y,aR,U6 b7 ts _ ai s1 ar.2 aP q⟩
theorem a7U{U7 Gh:bP}{rest:List bP}{ts:List b'}(h:M4 X (U7::Gh::rest) ts):bT X (.JoinedStr (U7::Gh::rest) pos) (λG H Q=>M3 ts Aj G H Q):=by intro _ s G H Q D aQ;exact wpAny_JoinedStr (U6 _ _ _ H s h D aQ)
def pg(h:br)(e0:I):Prop:=∃mz o8,h.get? e0=B mz/\mz.data=.fields o8/\o8[2]? =B .none
theorem pg.keeps(x:pg h e0)(k:∀o,h.get? e0=B o->h'.get? e0=B o):pg h' e0:=let⟨o,vs,a,b,c⟩:=x;⟨o,vs,k o a,b,c⟩
theorem U8{bu:Type}{Q:bu->ay->Prop}(bU:A.handled=B (.ref e0))(b9:pg s.heap e0)(f3:∀h' e,(∀b o,s.heap.get? b=B o->h'.get? b=B o)->(∃o,h'.get? e=B o/\o.cls=.type "StopIteration")->E (.ref e) {s with heap:=h'}):b8 (bq prog w) A (IE (.type "StopIteration") []>>=λe=>(IG e:hQ bu)) Q E s:=by
 obtain⟨_,_,b9,o9,BD⟩:=b9;refine bC ?_;simp only[IE,newTuple];refine bC (y0 (bC (m:=Pw _ _) (a0R (a:=eK) (by first|rfl|(simp only[Pw];rfl)) (y0 ?_ (by size_fits)))) (by size_fits));refine Tx bU (gW (dF (e9 _ b9))) (hP _ rfl) rfl (by simp;omega) (e9 _ (e9 _ b9)) o9 BD (f3 _ _ (λb o z=>?_) ?_)
 .exact(nF _ _ (xK (dF (e9 _ z)))).trans (e9 _ (e9 _ z))
 exact⟨_,ra _ (hP _ Y) Y,Y⟩
theorem U9{bu:Type}{l:I}{items:Array ae}{nl:Nat}{ol:bJ}{Q:bu->ay->Prop}{n:String}{kx:ae->hQ bu}(bU:A.handled=B (.ref e0))(b9:pg s.heap e0)(bV:e0≠a')(aU:s.heap.get? a'=B o)(hd:o.data=.fields #[.ref l,.int i 0])(f3:∀h' e,Ip a' s.heap h'->(∃o,h'.get? e=B o/\o.cls=.type "StopIteration")->E (.ref e) {s with heap:=h'}):b8 (bq prog w) A (qh n>>=λ_=>a0G (.ref a') 0 .none>>=λ_=>(IE (.type "StopIteration") []>>=λe=>(IG e:hQ bu))) Q E s:=by refine bC (PB (bC (u5 aU hd (by simp) (U8 bU (b9.keeps λo z=>(nF _ _ bV.symm).trans z) λh' e k aF=>?_))));exact f3 h' e (λb o a0 z=>k b o ((nF _ _ a0.symm).trans z)) aF
theorem Ua{t:I}{items}{Q:Option ae->ay->Prop}(bU:A.handled=B (.ref e0))(b9:pg s.heap e0)(bV:e0≠a')(gh:IsTupIter s.heap a' t i)(ba:DJ s.heap t items)(ag:items[i]? =aa)(iA:∀h',Ip a' s.heap h'->Q aa {s with heap:=h'}):b8 (bq prog w) A (pB (.ref a')) Q E s:=by obtain⟨o,aU,_,hd⟩:=id gh;obtain⟨ol,uP,_,nl,wR⟩:=ba;unfold pB;refine bC (a0K (D' (name:=mS "__next__") gh.typeIs aip (E0 aip gh.typeIs entry_tupleiter_next ?_ (args_tupleiter_next _))));refine(show b8 _ _ (rb (.ref a') 0>>=_) _ _ s from bC (jz aU hd (x:=.ref t) Y ?_));refine(show b8 _ _ (if(dM t==eK)=a9 then _ else _) _ _ s from ?_);rw[aL (show¬((dM t==eK)=a9)from hX)];refine(show b8 _ _ (rb (.ref a') 1>>=_) _ _ s from bC (jz aU hd (x:=.int i 0) Y ?_));refine(show b8 _ _ (Ao (.ref t)>>=_) _ _ s from bC (vR uP wR ?_));simp only[tP,ag];refine U9 (kx:=λ_=>pure default) (items:=items) (nl:=nl) (ol:=ol) bU b9 bV aU hd λh' e k aF=>?_;obtain⟨cQ,O,a5⟩:=aF;exact bC (a0O (T:="StopIteration") (b:=a9) ⟨cQ,O,a5⟩ a0C (eC (iA _ k)))
theorem Ub{l:I}{items}{Q:ae->ay->Prop}(bU:A.handled=B (.ref e0))(b9:pg s.heap e0)(bV:e0≠a')(gh:s.heap.IsListIter a' l i)(aq:s.heap.IsList l items)(ag:items[i]? =aa)(f3:∀h' e,Ip a' s.heap h'->(∃o,h'.get? e=B o/\o.cls=.type "StopIteration")->E (.ref e) {s with heap:=h'}):b8 (bq prog w) A (xO (.ref a')) Q E s:=by obtain⟨o,aU,_,hd⟩:=id gh;obtain⟨ol,uP,_,nl,wR⟩:=aq;unfold xO;refine bC (D' (name:=mS "__next__") gh.typeIs ajn (E0 ajn gh.typeIs entry_listiter_next ?_ (args_listiter_next _)));refine(show b8 _ _ (rb (.ref a') 0>>=_) _ _ s from bC (jz aU hd (x:=.ref l) Y ?_));refine(show b8 _ _ (if(dM l==eK)=a9 then _ else _) _ _ s from ?_);rw[aL (show¬((dM l==eK)=a9)from hX)];refine(show b8 _ _ (rb (.ref a') 1>>=_) _ _ s from bC (jz aU hd (x:=.int i 0) Y ?_));refine(show b8 _ _ (Ao (.ref l)>>=_) _ _ s from bC (vR uP wR ?_));simp only[tP,ag];exact U9 (kx:=λ_=>pure default) (items:=items) (nl:=nl) (ol:=ol) bU b9 bV aU hd f3
theorem a7V{t:jy}{Q:Option ae->ay->Prop}(bU:A.handled=B (.ref e0))(b9:pg s.heap e0)(bV:e0≠a')(gh:s.heap.IsStrIter a' "str_ascii_iterator" x t i)(ag:x.cps[i]? =aa)(iA:∀h',Ip a' s.heap h'->Q aa {s with heap:=h'}):b8 (bq prog w) A (pB (.ref a')) Q E s:=by obtain⟨o,aU,_,hd⟩:=id gh;unfold pB;refine bC (a0K (D' (name:=mS "__next__") gh.typeIs aiG (E0 aiG gh.typeIs F.entry_str_ascii_iterator_next ?_ (F.args_str_ascii_iterator_next_1 _))));refine(show b8 _ _ (rb (.ref a') 0>>=_) _ _ s from bC (jz aU hd (x:=.str x t) Y ?_));refine(show b8 _ _ (rb (.ref a') 1>>=_) _ _ s from bC (jz aU hd (x:=.int i 0) Y ?_));simp only[tP,ag];refine bC (PB (bC (u5 aU hd (by simp) (bC (E3 (U8 bU (b9.keeps λo z=>(nF _ _ bV.symm).trans z) λh' e k aF=>?_))))));obtain⟨cQ,O,a5⟩:=aF;exact bC (a0O (T:="StopIteration") (b:=a9) ⟨cQ,O,a5⟩ a0C (eC (iA _ λb o a0 z=>k b o ((nF _ _ a0.symm).trans z))))
theorem a7W{z TI fW gI g4 iJ gx:I}{cJ bL:Nat}{xs ys:Array ae}{a b:ae}{Q:Option ae->ay->Prop}(bU:A.handled=B (.ref e0))(b9:pg s.heap e0)(qM:e0≠z/\e0≠fW/\e0≠gI/\e0≠g4)(af:a0s z TI fW gI g4 iJ gx)(aR:DM s.heap z TI fW .none)(iI:Ag s.heap TI (.ref gI) (.ref g4))(jn:Ag s.heap fW a b)(O:s.heap.IsListIter gI iJ cJ)(a5:s.heap.IsListIter g4 gx bL)(gn:s.heap.IsList iJ xs)(hc:s.heap.IsList gx ys)(Bj:xs[cJ]? =aa∨ys[bL]? =aa)(iA:∀h',(∀c o,c≠z->c≠fW->c≠gI->c≠g4->s.heap.get? c=B o->h'.get? c=B o)->Q aa {s with heap:=h'}):b8 (bq prog w) A (pB (.ref z)) Q E s:=by
 have dp:s.TypeIs (.ref z) "zip" :=⟨_,aR,Y⟩;have fin:∀h' e,(∀c o,c≠z->c≠fW->c≠gI->c≠g4->s.heap.get? c=B o->h'.get? c=B o)->(∃o,h'.get? e=B o/\o.cls=.type "StopIteration")->b8 (bq prog w) A (a0B (.ref e) (.type "StopIteration")>>=λb=>if b=a9 then pure aa else throw (.ref e)) Q E {s with heap:=h'}:=λh' e k aF=>by obtain⟨cQ,O,a5⟩:=aF;exact bC (a0O (T:="StopIteration") (b:=a9) ⟨cQ,O,a5⟩ a0C (eC (iA _ k)))
 unfold pB;refine bC (a0K (D' (name:=mS "__next__") dp aiH (E0 aiH dp F.entry_zip_next ?_ (F.args_zip_next_1 _))));refine(show b8 _ _ (rb (.ref z) 2>>=_) _ _ _ from bC (jz aR Y (x:=.bool aJ) Y ?_));refine(show b8 _ _ (rb (.ref z) 3>>=_) _ _ _ from bC (jz aR Y (x:=.ref TI) Y (bC (vR iI Y ?_))));refine(show b8 _ _ (aiu (.ref z)>>=_) _ _ _ from bC ?_);unfold aiu;refine bC (jz aR Y (x:=.none) Y (eC ?_));simp only[jB];refine bC (PB (bC (jz aR Y (x:=.ref fW) Y (bC (a0T aR (by simp) λjl Gi kM=>?_)))));replace Gi:DM jl z TI fW .ellipsis:=Gi;have Uc:=b9.keeps λo q=>kM.extBut _ o qM.1 q;refine bC ?_;simp only[List.zipIdx_cons,List.zipIdx_nil,ahU,ZI];refine bC (bC (ajA ?_));refine(show b8 _ _ (xO (.ref gI)>>=_) _ _ _ from ?_);cases ag:xs[cJ]? with
 |none=>
  refine bC (Ub bU Uc qM.2.2.1 (O.extBut kM.extBut af.i1z) (gn.extBut kM.extBut af.l1z) ag λsR e te ⟨cQ,tb,sS⟩=>?_);have Ud:DM sR z TI fW .ellipsis:=te _ _ af.i1z.symm Gi;have M5:e≠z:=λq=>by subst q;rw[Ud]at tb;cases tb;simp at sS
  exact a0T Ud (by simp) λB4 _ uW=>fin B4 e (λc o eG _ sV _ q=>uW.extBut _ _ eG (te _ _ sV (kM.extBut _ _ eG q))) ⟨cQ,uW.extBut _ _ M5 tb,sS⟩
 |some x=>
  have bl:ys[bL]? =aa:=by obtain q|q:=Bj;rw[ag]at q;cases q;exact q
  refine bC (wpAny_nextOf_list_item (O.extBut kM.extBut af.i1z) (gn.extBut kM.extBut af.l1z) ag λsR _ te=>eC ?_);have Ue:Ag sR fW a b:=te.extBut _ _ af.TOi1 (kM.extBut _ _ af.TOz jn);refine bC (vR Ue Y (bC (wpAny_updateSeq_pair Ue λB4 _ uW=>bC (E3 (eC ?_)))));refine bC (bC (ajA (show b8 _ _ (xO (.ref g4)>>=_) _ _ _ from ?_)));have a7X:=(Uc.keeps λo q=>te.extBut _ o qM.2.2.1 q).keeps λo q=>uW.extBut _ o qM.2.1 q;refine bC (Ub bU a7X qM.2.2.2 (((a5.extBut kM.extBut af.i2z).extBut te.extBut af.i12.symm).extBut uW.extBut af.TOi2.symm) (((hc.extBut kM.extBut af.l2z).extBut te.extBut af.l2i1).extBut uW.extBut af.l2TO) bl λKd e Ug ⟨cQ,tb,sS⟩=>?_);have Uh:DM Kd z TI fW .ellipsis:=Ug _ _ af.i2z.symm (uW.extBut _ _ af.TOz.symm (te.extBut _ _ af.i1z.symm Gi));have M5:e≠z:=λq=>by subst q;rw[Uh]at tb;cases tb;simp at sS
  exact a0T Uh (by simp) λKe _ Ui=>fin Ke e (λc o eG gg sV uF q=>Ui.extBut _ _ eG (Ug _ _ uF (uW.extBut _ _ gg (te.extBut _ _ sV (kM.extBut _ _ eG q))))) ⟨cQ,Ui.extBut _ _ M5 tb,sS⟩
theorem a7Y{D BQ:I}(bU:A.handled=B (.ref e0))(bV:BQ≠D)(qM:e0≠D)(items:Array ae):Walks prog w A D [D,BQ,e0] [D] items.size (λi v=>items[i]? =B v) (λi h=>h.IsTupleIter D BQ i/\h.IsTuple BQ items/\pg h e0) where
 sub:=λb a0=>by simp at a0;simp[a0]
 frame:=λ_ _ _ st aA=>⟨st.1.at λo e=>aA D (by simp) o e,st.2.1.at λo e=>aA BQ (by simp) o e,st.2.2.keeps λo e=>aA e0 (by simp) o e⟩
 item:=λi s Q E hi st iA=>ajG st.1 st.2.1 (x:=items[i]) (by simp[hi]) λh' Bg z6=>iA _ h' s.toks (by simp[hi]) ⟨Bg,st.2.1.extBut z6.extBut bV,st.2.2.keeps λo e=>z6.extBut _ o qM e⟩ λb o a0 e=>z6.extBut b o (λh=>a0 (by simp[h])) e
 done:=λs Q E st iA=>Ua bU st.2.2 qM st.1 st.2.1 (by simp) λh' wb=>iA h' s.toks λb o a0 e=>wb b o (λh=>a0 (by simp[h])) e
 self:=λ_ _ _ _ st iA=>ajE st.1 iA
theorem a7Z{a b:Int}{t u:jy}{Q:ae->ay->Prop}(bU:A.handled=B (.ref e0))(b9:pg s.heap e0)(h:∀h' tk,(∀c o,s.heap.get? c=B o->h'.get? c=B o)->Q (if b>a then .int b u else .int a t) {s with heap:=h',toks:=tk}):b8 (bq prog w) A (mU (.builtin "max") [.int a t,.int b u]) Q E s:=by
 have dp:(s.heap.push {cls:=.type "tuple",data:=.seq #[.int a t,.int b u]}).IsTuple s.heap.objs.size (xZ #[(a,t),(b,u)]):=⟨_,hP _ Y,Y,0,by simp[xZ]⟩;have c4:∀{c:I}{o:bJ},s.heap.get? c=B o->c<(s.heap.push {cls:=.type "tuple",data:=.seq #[.int a t,.int b u]}).objs.size:=λe=>dF (e9 _ e);have Uj:s.heap.objs.size<(s.heap.push {cls:=.type "tuple",data:=.seq #[.int a t,.int b u]}).objs.size:=by obtain⟨o,e,_⟩:=dp;exact dF e
 have M6:∀o:bJ,(s.heap.push {cls:=.type "tuple",data:=.seq #[.int a t,.int b u]}).objs.size<((s.heap.push {cls:=.type "tuple",data:=.seq #[.int a t,.int b u]}).push o).objs.size:=λo=>by rw[mR (s.heap.push _)];exact Ad _
 obtain⟨_,_,Gj,_,_⟩:=id b9;refine call_max_two (IK dp ⟨_,[_,s.heap.objs.size,e0],[_],_,_,_,_,Y,a7Y (A:=A.in1) bU (gW Uj) (gW (c4 Gj)) (xZ #[(a,t),(b,u)]),⟨⟨_,hP _ Y,Y,Y⟩,dp.push _,b9.keeps λo e=>e9 _ (e9 _ e)⟩,λc a7=>?_,by simp[xZ],CmpOf.ints_gt (numAt #[(a,t),(b,u)]) (λ_ _=>intItems_at),λv h' tk bK aA=>?_⟩)
 .obtain q|a7:=dx.mp a7
  .rw[q];exact M6 _
  obtain q|a7:=dx.mp a7
  .rw[q];exact Ih Uj (M6 _)
  rw[jL.mp a7];exact Ih (c4 Gj) (M6 _)
 have hold:∀c o,s.heap.get? c=B o->h'.get? c=B o:=λc o e=>aA c o (λhm=>gW (c4 e) (by simpa using hm)) (e9 _ (e9 _ e));have bk:v=if b>a then vL b u else vL a t:=by
  have uU:(xZ #[(a,t),(b,u)])[md (λi j=>decide (numAt #[(a,t),(b,u)] i>numAt #[(a,t),(b,u)] j)) 1]? =B v:=by rw[<-show(xZ #[(a,t),(b,u)]).size-1=1 by simp[xZ]];exact bK
  by_cases Uk:b>a<;>·simp[md,numAt,Uk]at uU;simpa[xZ,Uk]using uU.symm
 rw[bk];exact h h' tk hold
theorem a80{gJ}{t:I}{items:Array ae}(bU:A.handled=B (.ref e0))(b9:pg s.heap e0)(ba:DJ s.heap t items)(aH:(sk kI env).length=items.size)(a81:(sk kI env).findIdx? (·.1)=aa)(h:∀h',(∀b o,s.heap.get? b=B o->h'.get? b=B o)->b8 (bq prog w) A (aj8 ((sk kI env).map (·.2)) items.toList) Q E {s with heap:=h'}):b8 (bq prog w) A (xT (.Tuple kI gJ pos) env (.ref t)) Q E s:=by
 have c4:t≠s.heap.objs.size:=by obtain⟨o,aU,_⟩:=ba;exact gW (dF aU)
 obtain⟨_,_,Gj,_,_⟩:=id b9;have qM:e0≠s.heap.objs.size:=gW (dF Gj);rw[assign_Tuple];refine bC (rh ?_);unfold unpack;rw[aH,a81];refine bC (rf ?_);unfold unpackItems notIterableAtAll;refine bC (bC (wpAny_specialOf ba.typeIs slot_tuple_iter.lookup (eC ?_)));simp only[qa,jA];refine bC (rf (iter_tuple ba (bC (rf (draw_tuple c4 items.size 0 _ _ ⟨_,hP _ Y,Y,Y⟩ (ba.push _) (by omega) λjl a82 kM=>?_)))));rw[show ai3 items.size (ahO 0 items.toList)=items.toList by rw[DA];exact lB (by simp),aL (by simp)];have keep:∀b o,b≠s.heap.objs.size->s.heap.get? b=B o->jl.get? b=B o:=λb o a0 e=>kM.extBut b o a0 (e9 _ e);refine bC (rf (Ua bU (b9.keeps λo e=>keep _ o qM e) qM a82 ((ba.push _).extBut kM.extBut c4) (by simp) λsR F_=>?_));simp only[Option.isSome_none,qa,jA];exact eC (h sR λb o e=>F_ b o (gW (dF e)) (keep b o (gW (dF e)) e))
def HeldAt(e0:I)(H:ak):Prop:=∃C od m,m<=1/\H e0=B (dj e0 C od m)
theorem HeldAt.Gk(h:HeldAt e0 H)(D:Inv X a4 G H s):pg s.heap e0:=by obtain⟨C,_,m,hm,q⟩:=h;obtain⟨cQ,vs,et,_,_,ir,_,_,lX⟩:=wH D.bR q;exact⟨cQ,vs,et,ir,lX hm⟩
theorem HeldAt.ne{b:I}(h:HeldAt e0 H)(a0:H b=aa):e0≠b:=λz=>by obtain⟨C,_,m,_,q⟩:=h;rw[z,a0]at q;cases q
theorem HeldAt.mono{H':ak}(h:HeldAt e0 H)(s:∀c u,H c=B u->H' c=B u):HeldAt e0 H':=let⟨C,od,m,hm,q⟩:=h;⟨C,od,m,hm,s _ _ q⟩
def tf(e0:I)(d4:jC):jC:=⟨d4.go,d4.jO,λi H=>d4.stop i H/\HeldAt e0 H⟩
def Ul(e0:I)(gF:TI):TI:=λG H R=>gF G H λd4 ai=>R (tf e0 d4) ai
structure M7 (e0:I) (P:bQ) (w:bI) (K:bj) (tg:bP) (d4:jC) (bO:List I) (a':I) (tn:Nat->br->Prop):Prop where
 mem:a'∈bO
 obj:∀i h,tn i h->∀b∈bO,∃o,h.get? b=B o/\∀v,o.data≠ .cell v
 keep:∀i h h',tn i h->(∀b∈bO,∀o,h.get? b=B o->h'.get? b=B o)->tn i h'
 item:∀(X:bB),X.prog=P->X.w=w->X.K=K->X.A.handled=B (.ref e0)->∀(i:Nat)(a4:List (I×bJ))(s:ay)(G:L2.St)(H:ak)(E:ae->ay->Prop),Inv X a4 G H s->(∀b∈bO,kD X a4 H b)->tn i s.heap->d4.go i H->
  b8 (bq P w) X.A (pB (.ref a')) (λr s1=>∃u,r=B u/\
   b8 (bq P w) X.A (ID tg (.ref a') u) (λ_ s2=>∃x H',Inv X a4 G H' s2/\RelV x u/\d4.jO i H x H'/\tn (i+1) s2.heap/\∀b∈bO,H' b=aa) E s1) E s
 done:∀(X:bB),X.prog=P->X.w=w->X.K=K->X.A.handled=B (.ref e0)->∀(i:Nat)(a4:List (I×bJ))(s:ay)(G:L2.St)(H:ak)(E:ae->ay->Prop),Inv X a4 G H s->(∀b∈bO,kD X a4 H b)->tn i s.heap->d4.stop i H->
  b8 (bq P w) X.A (pB (.ref a')) (λr s1=>r=aa/\Inv X a4 G H s1) E s
 self:∀(A:d9)(i:Nat)(s:ay)(Q:ae->ay->Prop)(E:ae->ay->Prop),tn i s.heap->Q (.ref a') s->b8 (bq P w) A (DY (.ref a')) Q E s
def a83(e0:I)(X:bB)(a4:List (I×bJ))(G:L2.St)(tg:bP)(R:jC->ak->Prop)(w1:ae)(s2:ay):Prop:=
 ∃(a':I)(bO:List I)(tn:Nat->br->Prop)(d4:jC)(H':ak),w1=.ref a'/\Inv X a4 G H' s2/\M7 e0 X.prog X.w X.K tg d4 bO a' tn/\tn 0 s2.heap/\(∀b∈bO,kD X a4 H' b)/\R d4 H'
def BR(e0:I)(X:bB)(tg fj:bP)(gF:TI):Prop:=
 ∀(a4:List (I×bJ))(s:ay)(G:L2.St)(H:ak)(R:jC->ak->Prop),Inv X a4 G H s->gF G H R->b8 (bq X.prog X.w) X.A (eval fj X.env) (λv s1=>b8 (bq X.prog X.w) X.A (DY v) (a83 e0 X a4 G tg R) X.bN s1) X.bN s
variable{tg:bP}
theorem a84{fj:bP}{gF:TI}{g:gR}(ar:a0j (bq X.prog X.w) X.A X.env X.bN)(a7:X.A.handled=B (.ref e0))(hi:BR e0 X tg fj gF)(aI:oN X tg g)(a0:ie X body cu)(ax:∀x,Am fj X.env x=pure x:=by intro _;rfl):jd X (.For tg fj body [] pos) (Qh gF g cu):=by
 intro a4 s G H _ D h;refine wpAny_For (bW (hi a4 s G H _ D h) λv _ O=>bW O λ_ _ a5=>?_) ax;obtain⟨_,bO,tn,_,au,e,cL,T,nS,f2,W,⟨i1,ig⟩,turn⟩:=a5;subst e;have n3:∀{H':ak},(∀b∈bO,H' b=aa)->∀b∈bO,kD X a4 H' b:=λaH b a0=>⟨aH b a0,(f2 b a0).2⟩;refine ajd (λn b3=>∃i aM H',Inv X a4 aM H' b3/\tn i b3.heap/\(∀b∈bO,H' b=aa)/\W i n aM H') ?_ i1 ⟨0,G,au,cL,nS,λb a0=>(f2 b a0).1,ig⟩;rintro n bE ⟨i,lH,bc,dG,sC,AJ,n2⟩;obtain⟨stop,Jk⟩|⟨go,N,dD,step⟩:=turn i n lH bc n2
 .refine rg ar (bW (T.done X Y Y Y a7 i a4 bE lH bc X.bN dG (n3 AJ) sC stop) λr s4 ⟨ah,fU⟩=>?_);subst ah;exact vQ ⟨lH,bc,fU,Jk⟩
 refine rg ar (bW (T.item X Y Y Y a7 i a4 bE lH bc X.bN dG (n3 AJ) sC go) λr s4 ⟨u,ah,cG⟩=>?_);subst ah;refine rg ar (bW cG λ_ fV ⟨x,c_,jf,AK,Jl,oR,w3⟩=>?_);have Jm:=jf.pinned (n3 w3) (T.obj _ _ oR);refine rg ar (bW (aI _ fV lH c_ x u _ Jm AK (step x c_ Jl)) λ_ eR ⟨Jn,fK,jg,Jo⟩=>?_);refine rg ar (bW (a0 _ eR Jn fK _ jg Jo) λf jP lJ=>?_);have DT:∀{jh:L2.St}{fm:ak},Inv X (a4++w2 bO fV.heap) jh fm jP->N jh fm->∃m,m<n/\∃i aM H',Inv X a4 aM H' jP/\tn i jP.heap/\(∀b∈bO,H' b=aa)/\W i m aM H':=fun{jh fm} fL n4=>by obtain⟨m',hm,Eu⟩:=dD jh fm n4;refine⟨m',hm,i+1,jh,fm,fL.uj,T.keep _ _ _ oR λb a0 o e=>(fL.pin (b,o) (ox _ (ox _ (ym a0 e)))).1,λb a0=>?_,Eu⟩;obtain⟨o,e,d⟩:=T.obj _ _ oR b a0;exact(fL.pin (b,o) (ox _ (ox _ (ym a0 e)))).2.1
 cases f with|next=>obtain⟨jh,fm,fL,n4⟩:=lJ;exact DT fL n4|cont=>obtain⟨jh,fm,fL,n4⟩:=lJ;exact DT fL n4|brk=>obtain⟨jh,fm,fL,lJ⟩:=lJ;exact⟨jh,fm,fL.uj,lJ⟩|ret v=>obtain⟨Jp,jh,fm,fL,w4,lJ⟩:=lJ;exact⟨Jp,jh,fm,fL.uj,w4,lJ⟩
theorem a85{Q:cR}{i3 fj:bP}{i2:List bP}{scope:hZ}{own:List (a8×Nat)}{iY:Pos}{gF:TI}{g:gR}{tt:TT}{use:Option (ae->hQ Unit)}{Qf:ae->ay->Prop}(a7:X.A.handled=B (.ref e0))(dD:X.N.Nodup)(D:Inv X a4 G H s)(hi:BR e0 X tg fj gF)(ok:wc X.N X.env.scope scope own)(aI:∀(s:ay)(H:ak)(C:I)(cl:List (a8×I))(bO:List I),oN (X.gS s H scope (ky scope cl C X.env) bO) tg g)(ba:∀(s:ay)(H:ak)(C:I)(cl:List (a8×I))(bO:List I),we (X.gS s H scope (ky scope cl C X.env) bO) i2 tt)(aF:∀(s:ay)(H:ak)(C:I)(cl:List (a8×I))(bO:List I),bT (X.gS s H scope (ky scope cl C X.env) bO) i3 bY)(ax:∀x,Am fj X.env x=pure x)(h:wg gF g tt bY (own.map (·.2)) G H Q)(Kf:∀af C b3 m H',Inv X a4 G H' b3->Q (.ref af) H'->b3.heap.Ns C m->kD X a4 H' C->DW (bq X.prog X.w) X.A X.bN use Qf (.ref af) C (.ok .next) b3):
  b8 (bq X.prog X.w) X.A (a0z (.ListComp i3 [⟨tg,fj,i2,0⟩] scope pos) scope X.env iY (newList []) aJ (eval fj X.env) use) Qf X.bN s:=by
 have uf:∀y∈scope.names,y.2=.free->∃c,X.env.cells.lookup y.1=B c:=λy bl e=>by
  obtain k|k:=ok.free y bl e
  .exact D.ok.has _ (.inl k)
  exact D.ok.has _ (.inr k)
 refine ajs (use:=use) Y ax (QX uf) ok.kind (λy bl e=>by rw[ok.uniq y bl,e])
  (bW (hi a4 s G H _ D h) λ_ _ ag=>bW ag λ_ s2 a5=>?_)
 obtain⟨a',bO,tn,_,au,e,cL,T,nS,f2,q⟩:=a5;subst e;refine y0 (QY ?_) (by show 0<=cM;decide);generalize d2:s2.heap.objs.size=af;have Kg:au af=aa:=cL.bR.fresh (Ac d2);obtain⟨W,⟨i1,ig⟩,turn⟩:=q af Kg;generalize nd:({s2 with heap:=s2.heap.push {cls:=.type "list",data:=.seq ([]:List ae).toArray}}:ay)=bE;have dG:Inv X a4 G (av au af (.lst [])) bE:=by rw[<-nd];refine cL.laid (t':=s2.toks) (λb o e=>e9 _ e) (Ac d2) ⟨ek _,[],0,.nil,?_⟩;rw[<-d2];exact hP _ Y
 have aG:bE.heap=s2.heap.push {cls:=.type "list",data:=.seq ([]:List ae).toArray}:=by rw[<-nd]
 have l0:∀b∈bO,b<s2.heap.objs.size:=λb a0=>by obtain⟨o,e,_⟩:=T.obj _ _ nS b a0;exact dF e
 have dw:∀b∈bO,kD X a4 (av au af (.lst [])) b/\b<bE.heap.objs.size:=λb a0=>by have c4:=l0 b a0;refine⟨⟨?_,(f2 b a0).2⟩,by rw[aG,mR];exact P5 c4⟩;rw[aN (by rw[<-d2];exact gW c4)];exact(f2 b a0).1
 have sC:tn 0 bE.heap:=T.keep _ _ _ nS λb _ o e=>by rw[aG];exact e9 _ e
 have fU:=Q_ dG ok dD dw;have qq:=aI bE (av au af (.lst [])) bE.heap.objs.size (ib (bE.heap.objs.size+1) scope.names (ik X.env.cells scope.names [])) bO;have pt:=ba bE (av au af (.lst [])) bE.heap.objs.size (ib (bE.heap.objs.size+1) scope.names (ik X.env.cells scope.names [])) bO;have wh:=aF bE (av au af (.lst [])) bE.heap.objs.size (ib (bE.heap.objs.size+1) scope.names (ik X.env.cells scope.names [])) bO;show me _ _ (.compStart (.ListComp i3 [⟨tg,fj,i2,0⟩] scope pos) 0 (.ref a') (.ref af) (ky scope (ib (bE.heap.objs.size+1) scope.names (ik X.env.cells scope.names [])) bE.heap.objs.size X.env)) (DW (bq X.prog X.w) X.A X.bN use Qf (.ref af) bE.heap.objs.size) {bE with heap:=u2 (bE.heap.push {cls:=.type "dict",data:=.dict #[]}) scope.names};have B5:∀b∈bO,(av au af (.lst [])) b=aa:=λb a0=>(dw b a0).1.1;generalize sS:ky scope (ib (bE.heap.objs.size+1) scope.names (ik X.env.cells scope.names [])) bE.heap.objs.size X.env=iF at fU qq pt wh ⊢;have B6:iF.locals=bE.heap.objs.size:=by subst sS;rfl
 generalize a38:av au af (.lst [])=bc at dG fU qq pt wh ig B5 dw;generalize yB:({bE with heap:=u2 (bE.heap.push {cls:=.type "dict",data:=.dict #[]}) scope.names}:ay)=s4 at fU ⊢;have B7:tn 0 s4.heap:=T.keep _ _ _ sC λb _ o e=>by rw[<-yB];exact IF _ _ _ _ (e9 _ e)
 have n3:∀{aM:L2.St}{H':ak}{b3:ay},Inv (X.gS bE bc scope iF bO) [] aM H' b3->(∀b∈bO,H' b=aa)->∀b∈bO,kD (X.gS bE bc scope iF bO) [] H' b:=fun{aM H' b3} el aH b a0=>⟨aH b a0,(el.ok.rn b a0).1,el.ok.ro b a0,.inl a0,λx c e=>(el.ok.rn b a0).2 x c e,λp ar=>absurd (show p∈([]:List (I×bJ))++[]from ar) (by simp)⟩;have B8:me (bq X.prog X.w) X.A (.compLoop (.ListComp i3 [⟨tg,fj,i2,0⟩] scope pos) 0 (.ref a') (.ref af) iF) (DW (bq X.prog X.w) X.A X.bN use Qf (.ref af) bE.heap.objs.size) s4:=by
  refine R3 (λn b3=>∃i H',Inv (X.gS bE bc scope iF bO) [] (eT G (own.map (·.2))) H' b3/\tn i b3.heap/\(∀b∈bO,H' b=aa)/\W i n H') ?_ i1 ⟨0,bc,fU,B7,B5,ig⟩;rintro n fV ⟨i,c_,jf,oR,kh,wi⟩;obtain⟨stop,iG⟩|⟨go,i4,Kh,step⟩:=turn i n c_ wi
  .have a_:=T.done (X.gS bE bc scope iF bO) Y Y Y a7 i [] fV _ c_ (λ_ _=>False) jf (n3 jf kh) oR stop;refine pN a_ λr eR ⟨ah,jg⟩=>?_;subst ah;have fL:Inv X a4 G c_ eR:=dG.El (ch:=bO) jg.os jg.base jg.bR jg.bare λb a0=>⟨(dw b a0).1.2.2.2.1,(dw b a0).1.2.1,(dw b a0).1.2.2.2.2.1,(dw b a0).1.2.2.2.2.2⟩;have Ki:c_ bE.heap.objs.size=aa:=by have z:c_ iF.locals=aa:=jg.free;rw[B6]at z;exact z
   obtain⟨m,aH,_⟩:=jg.loc;have aH:eR.heap.Ns iF.locals m:=aH;rw[B6]at aH;exact Kf af bE.heap.objs.size eR m c_ fL iG aH (dG.qn (cO _) Ki)
  have oO:=T.item (X.gS bE bc scope iF bO) Y Y Y a7 i [] fV _ c_ (λ_ _=>False) jf (n3 jf kh) oR go;refine pN oO λr eR ⟨u,ah,iH⟩=>?_;subst ah;refine pN iH λ_ jP ⟨x,fm,fL,w4,EY,wj,n4⟩=>?_;have Kj:=fL.pinned (n3 fL n4) (T.obj _ _ wj);refine pN (qq _ jP _ fm x u _ Kj w4 (step x fm EY)) λ_ pO ⟨sT,pP,uv,B9,Kk⟩=>?_;refine pN (pt _ pO sT pP _ uv Kk) λb lO ⟨n',qv,nf⟩=>?_;have fin:∀{b3:ay}{H':ak},Inv (X.gS bE bc scope iF bO) ([]++w2 bO jP.heap) sT H' b3->i4 H'->∃m,m<n/\∃i H',Inv (X.gS bE bc scope iF bO) [] (eT G (own.map (·.2))) H' b3/\tn i b3.heap/\(∀b∈bO,H' b=aa)/\W i m H':=fun{b3 H'} el c6=>by
   obtain⟨m',hm,jb⟩:=Kh H' c6;have Ba:∀b∈bO,∀o,jP.heap.get? b=B o->b3.heap.get? b=B o/\H' b=aa:=λb a0 o e=>
    let z:=el.pin (b,o) (ox _ (ox _ (ym a0 e)))
    ⟨z.1,z.2.1⟩
   have aq:(eT G (own.map (·.2))).length=sT.length:=by rw[<-B9,EV]
   refine⟨m',hm,i+1,H',(el.uj (a4:=[])).weak aq (λj v e=>?_),T.keep _ _ _ wj λb a0 o e=>(Ba b a0 o e).1,λb a0=>?_,jb⟩
   .rw[<-B9]at e;exact(EW e).1
   obtain⟨o,e,_⟩:=T.obj _ _ wj b a0;exact(Ba b a0 o e).2
  cases b with|false=>simp only[qa,jA]at nf ⊢;exact fin qv nf|true=>simp only[jB]at nf ⊢;refine pN (wh _ lO sT n' _ qv nf) λz _ ⟨_,_,qw,Kl,_,Km,Kn,c6⟩=>?_;exact R1 (X:=X.gS bE bc scope iF bO) qw Km Kn Kl λ_ Ko=>fin Ko c6
 exact ajc B8 (T.self X.A 0 _ _ _ B7 B8)
theorem a86{i3 fj:bP}{i2:List bP}{scope:hZ}{own:List (a8×Nat)}{gF:TI}{g:gR}{tt:TT}(a7:X.A.handled=B (.ref e0))(dD:X.N.Nodup)(hi:BR e0 X tg fj gF)(ok:wc X.N X.env.scope scope own)(aI:∀(s:ay)(H:ak)(C:I)(cl:List (a8×I))(bO:List I),oN (X.gS s H scope (ky scope cl C X.env) bO) tg g)(ba:∀(s:ay)(H:ak)(C:I)(cl:List (a8×I))(bO:List I),we (X.gS s H scope (ky scope cl C X.env) bO) i2 tt)(aF:∀(s:ay)(H:ak)(C:I)(cl:List (a8×I))(bO:List I),bT (X.gS s H scope (ky scope cl C X.env) bO) i3 bY)(ax:∀x,Am fj X.env x=pure x:=by intro _;rfl):
  bT X (.ListComp i3 [⟨tg,fj,i2,0⟩] scope pos) (wg gF g tt bY (own.map (·.2))):=by
 intro _ s G H Q D h;rw[ajg];refine a85 a7 dD D hi ok aI ba aF ax h λaf C b3 m H' el q aH f=>⟨m,aH,λ_ cF=>?_⟩;obtain⟨fT,dS,_,dw,fa,fb⟩:=f;exact⟨.ref af,H',el.turned (t':=b3.toks) (λb o a0 e=>(cF.2 b a0).trans e) fT dS dw fa fb,Y,q⟩
def a87(e0:I)(K:bj)(n:Nat)(t:sz):gR:=λv G H Q=>HeldAt e0 H/\Qb K n t v G H Q
theorem a88{t:sz}(a7:X.A.handled=B (.ref e0))(h:AH X b7 t)(aH:(sk b7 X.env).length=n:=by rfl)(ft:(sk b7 X.env).findIdx? (·.1)=aa:=by rfl):oN X (.Tuple b7 k pos) (a87 e0 X.K n t):=by intro a4 s G H v u Q D r hw;obtain⟨hd,a,xs,aO,aQ,aq,hw⟩:=hw;subst aO;cases r;obtain⟨_,cA,ba,_⟩:=D.tuple aQ;refine a80 a7 (hd.Gk D) ba (by simp[aH,<-aq,cA.length]) ft λ_ ag=>?_;exact h a4 _ G H xs _ Q (D.kept (t':=s.toks) ag) (by simpa using cA) hw
def Um(e0:I):List V->ak->cR->Prop:=λxs H Q=>HeldAt e0 H/\∃i j,xs=[.int i,.int j]/\Q (.int (if j>i then j else i)) H
theorem a89(a7:X.A.handled=B (.ref e0)):pK X (.builtin "max") (Um e0):=by
 intro _ s G H _ _ Q D r h;obtain⟨hd,i,j,rfl,q⟩:=h;obtain⟨u,_,rfl,⟨t,rfl⟩,⟨_,rfl⟩⟩:=vals2 r;refine a7Z a7 (hd.Gk D) λ_ _ k=>⟨_,H,D.kept k,?_,q⟩;by_cases bX:j>i
 .rw[aZ bX,aZ bX];exact⟨_,Y⟩
 rw[aL bX,aL bX];exact⟨_,Y⟩
theorem a8a{c7:Nat}{a b z TI fW gI g4:I}(af:a0s z TI fW gI g4 a b):M7 e0 P w K (.Tuple kI c7 l4) (tf e0 (sW K a b)) [z,TI,fW,gI,g4] z (λi h=>DM h z TI fW .none/\Ag h TI (.ref gI) (.ref g4)/\(∃x y,Ag h fW x y)/\h.IsListIter gI a i/\h.IsListIter g4 b i) where
 mem:=by simp
 obj:=λi h st c a7=>by
  obtain⟨aR,iI,⟨x,y,jn⟩,⟨o1,aO,_,oL⟩,⟨o2,aT,_,h2⟩⟩:=st;have d7:c=z∨c=TI∨c=fW∨c=gI∨c=g4:=by simpa using a7
  obtain q|q|q|q|q:=d7
  .rw[q];exact⟨_,aR,λv q=>nomatch q⟩
  .rw[q];exact⟨_,iI,λv q=>nomatch q⟩
  .rw[q];exact⟨_,jn,λv q=>nomatch q⟩
  .rw[q];exact⟨o1,aO,λv q=>by rw[oL]at q;cases q⟩
  rw[q];exact⟨o2,aT,λv q=>by rw[h2]at q;cases q⟩
 keep:=λi h h' st k=>by obtain⟨aR,iI,⟨x,y,jn⟩,O,a5⟩:=st;exact⟨k z (by simp) _ aR,k TI (by simp) _ iI,⟨x,y,k fW (by simp) _ jn⟩,O.at λo q=>k gI (by simp) o q,a5.at λo q=>k g4 (by simp) o q⟩
 item:=by
  intro X bK hw fu a7 i a4 s G H E D hf st aI;subst bK hw fu;obtain⟨aR,iI,⟨Kz,KA,jn⟩,O,a5⟩:=st;obtain⟨xs,ys,x,y,p0,p1,ag,bl⟩:=aI;obtain⟨b6,cA,p,_⟩:=D.list p0;obtain⟨nc,sX,eY,_⟩:=D.list p1;obtain⟨u,bz,h8⟩:=cA.get ag;obtain⟨jU,KC,KD⟩:=sX.get bl;have Bh:z<s.heap.objs.size:=dF aR;refine ajH af aR iI jn O a5 p.isList eY.isList (x:=u) (y:=jU) (by simpa using bz) (by simpa using KC) λh' mq KG uz Bi dp _ aA=>?_;refine⟨_,Y,ajw (s:={s with heap:=h'}) mq λjm KH cF=>?_⟩;have wm:jm.get? s.heap.objs.size=B {cls:=.type "tuple",data:=.seq #[u,jU]}:=(cF.2 _ (xK Bh)).trans dp;have new:h7 X.prog X.w (av H s.heap.objs.size (.tup [x,y])) jm s.heap.objs.size (.tup [x,y]):=
   ⟨by show 2<=cM;decide,[u,jU],.cons h8 (.cons KD .nil),⟨_,wm,Y,_,Y⟩⟩
  have aP:Inv X a4 G (av H s.heap.objs.size (.tup [x,y])) {s with heap:=jm}:=
   D.F2 (t':=s.toks) (ch:=[z,TI,fW,gI,g4]) (λc o a0 q=>(cF.2 c (λeQ=>a0 (by simp[eQ]))).trans (aA c o (λeQ=>a0 (by simp[eQ])) (λeQ=>a0 (by simp[eQ])) (λeQ=>a0 (by simp[eQ])) (λeQ=>a0 (by simp[eQ])) q)) hf (cO _) new
  refine⟨.ref s.heap.objs.size,_,aP,Y,⟨_,x,y,Y,D.bR.fresh (cO _),Y,λl aq=>by rw[D.yh aq p0];exact ag,λl aq=>by rw[D.yh aq p1];exact bl⟩,⟨KH,?_,⟨u,jU,?_⟩,?_,?_⟩,λc sY=>?_⟩
  .exact(cF.2 _ af.TIz).trans (aA _ _ af.TIz af.TITO af.TIi1 af.TIi2 iI)
  .exact(cF.2 _ af.TOz).trans KG
  .exact uz.at λo q=>(cF.2 _ af.i1z).trans q
  .exact Bi.at λo q=>(cF.2 _ af.i2z).trans q
  have c4:c<s.heap.objs.size:=by
   have d7:c=z∨c=TI∨c=fW∨c=gI∨c=g4:=by simpa using sY
   obtain q|q|q|q|q:=d7
   .rw[q];exact Bh
   .rw[q];exact dF iI
   .rw[q];exact dF jn
   .rw[q];obtain⟨_,aO,_⟩:=O;exact dF aO
   rw[q];obtain⟨_,aT,_⟩:=a5;exact dF aT
  rw[aN (gW c4)];exact(hf c sY).1
 done:=by
  intro X bK hw fu a7 i a4 s G H E D hf st aI;subst bK hw fu;obtain⟨aR,iI,⟨Kz,KA,jn⟩,O,a5⟩:=st;obtain⟨⟨xs,ys,p0,p1,Bj⟩,hd⟩:=aI;have ne:∀b∈[z,TI,fW,gI,g4],e0≠b:=λb a0=>hd.ne (hf b a0).1;obtain⟨b6,cA,p,_⟩:=D.list p0;obtain⟨nc,sX,eY,_⟩:=D.list p1;have iJ:=cA.length;have gx:=sX.length;have aF:b6.toArray[i]? =aa∨nc.toArray[i]? =aa:=by
   obtain q|q:=Bj
   .exact .inl (by simp;omega)
   exact .inr (by simp;omega)
  exact a7W a7 (hd.Gk D) ⟨ne z (by simp),ne fW (by simp),ne gI (by simp),ne g4 (by simp)⟩ af aR iI jn O a5 p.isList eY.isList aF λh' aA=>⟨Y,D.Rh (t':=s.toks) (ch:=[z,TI,fW,gI,g4]) (λc o a0 q=>aA c o (λeQ=>a0 (by simp[eQ])) (λeQ=>a0 (by simp[eQ])) (λeQ=>a0 (by simp[eQ])) (λeQ=>a0 (by simp[eQ])) q) hf⟩
 self:=λA i s Q E st h=>PA st.1 h
theorem a8b{e aT:bP}{c0:gE}{c7:Nat}(aI:hA X "zip")(hm:X.a6 "zip" =aa)(bf:hz X [e,aT] c0)(ax:fC [e,aT] X.env=(aJ,eval e X.env)::fC [aT] X.env:=by rfl)(eF:(lD pos (fC [aT] X.env)).any (·.1)=aJ:=by rfl):
  BR e0 X (.Tuple kI c7 l4) (.Call (.Name "zip" p) [e,aT] [] pos) (Ul e0 (Rk X.K c0)):=by
 intro a4 s G H R D h;refine Il (vZ D aI hm Rj (DK (bW (bf pos a4 s G H _ D h) λ_ s1 ⟨_,ai,aP,cv,bx⟩=>?_) ax eF));obtain⟨a,b,_,_,ex,p0,p1,q⟩:=bx;subst ex;cases cv with
 |cons r iC=>
  cases iC with
  |cons gq iC=>
   cases iC;cases r;cases gq;obtain⟨_,_,p2,_⟩:=aP.list p0;obtain⟨_,_,eY,_⟩:=aP.list p1;have KI:a<s1.heap.objs.size:=p2.lt;have KJ:b<s1.heap.objs.size:=eY.lt;refine call_zip_2 p2.isList eY.isList λh' aR iI jn O a5 _ aA=>PA aR ?_;have cL:Inv X a4 G ai {s1 with heap:=h'}:=aP.kept (t':=s1.toks) aA;refine⟨s1.heap.objs.size+4,[s1.heap.objs.size+4,s1.heap.objs.size+2,s1.heap.objs.size+3,s1.heap.objs.size,s1.heap.objs.size+1],_,_,ai,Y,cL,a8a (aj2 s1.heap.objs.size a b KI KJ),⟨aR,iI,⟨_,_,jn⟩,O,a5⟩,λc sY=>?_,q⟩;have d7:c=s1.heap.objs.size+4∨c=s1.heap.objs.size+2∨c=s1.heap.objs.size+3∨c=s1.heap.objs.size∨c=s1.heap.objs.size+1:=by simpa using sY
   have hg:s1.heap.objs.size<=c:=by
    obtain z|z|z|z|z:=d7
    .rw[z];exact r8 _ _
    .rw[z];exact r8 _ _
    .rw[z];exact r8 _ _
    .rw[z];exact cO _
    rw[z];exact r8 _ _
   exact aP.qn hg (aP.bR.fresh hg)
theorem a8c(a':I)(x:a8)(t:jy):M7 e0 P w K tg (tf e0 (o_ x)) [a'] a' (λi h=>h.IsStrIter a' "str_ascii_iterator" x t i) where
 mem:=(yD (P:=P) (w:=w) (K:=K) (tg:=tg) a' x t _ (.inl Y)).mem
 obj:=(yD (P:=P) (w:=w) (K:=K) (tg:=tg) a' x t _ (.inl Y)).obj
 keep:=(yD (P:=P) (w:=w) (K:=K) (tg:=tg) a' x t _ (.inl Y)).keep
 item:=by intro X bK hw fu a7 i a4 s G H E D hf st aI;subst bK hw fu;obtain⟨fT,dS,f2,dw,fa,fb⟩:=hf a' (by simp);have aI:i<x.cps.size:=aI;refine wpAny_pyNext_ascii_item st (ahx aI) λh' lI cF=>?_;have aP:Inv X a4 G H {s with heap:=h',toks:=s.toks+1}:=D.turned (λb o a0 e=>(cF.2 b (by simpa using a0)).trans e) fT dS dw fa fb;obtain⟨_,e,Kx,dd⟩:=id lI;exact⟨_,Y,yl (s:={s with heap:=h',toks:=s.toks+1}) e Kx dd (by decide) ⟨.str ⟨#[x.cps[i]]⟩,H,aP,⟨_,Y⟩,⟨Y,_,ahx aI,Y⟩,lI,λb a0=>(hf b a0).1⟩⟩
 done:=by intro X bK hw fu a7 i a4 s G H E D hf st aI;subst bK hw fu;obtain⟨fT,dS,f2,dw,fa,fb⟩:=hf a' (by simp);obtain⟨aI,hd⟩:=aI;exact a7V a7 (hd.Gk D) (hd.ne fT) st (ahy aI) λh' h9=>⟨Y,D.turned (t':=s.toks) (λb o a0 e=>h9 b o a0 e) fT dS dw fa fb⟩
 self:=(yD (P:=P) (w:=w) (K:=K) (tg:=tg) a' x t _ (.inl Y)).self
def a8d(bY:b'):TI:=λG H R=>bY G H λv ai=>∃x,v=.str x/\x.cps.all (·<128)=a9/\R (o_ x) ai
theorem a8e{e:bP}(aF:bT X e bY):BR e0 X tg e (Ul e0 (a8d bY)):=by
 intro a4 s G H R D h;refine bW (aF a4 s G H _ D h) λv s1 ⟨y,ai,aP,cv,x,ex,bf,q⟩=>?_;subst ex;obtain⟨t,rfl⟩:=cv;refine ajB bf ⟨s1.heap.objs.size,[s1.heap.objs.size],_,_,ai,Y,aP.kept (t':=s1.toks) λb o e=>e9 _ e,a8c _ x t,⟨_,hP _ Y,Y,Y⟩,λb a0=>?_,q⟩;have e:b=s1.heap.objs.size:=by simpa using a0
 subst e;exact aP.qn (cO _) (aP.bR.fresh (cO _))
theorem j'.deeper(r:j' (k+1) A)(env:eB):j' k (A.deeper env):=⟨by have:=r.ey;show A.depth+1+3*k+5<_;omega,by have:=r.un;show A.units+3+16*k+200<_;omega⟩
structure zc (P:bQ) (w:bI) (K:bj) (a6:a8->Option ae) (base:br) (k:Nat) (f:I) (fd:ka) (aK:List a8) (sp:bF):Prop where
 len:∀vs H Q E,sp vs H Q E->vs.length=aK.length
 run:∀(A:d9)(e0:I)(outer:List eB)(s:ay)(H:ak)(args:Args)(us:List ae)(vs:List V)(Q:cR)(E:dN),j' k A->A.handled=B (.ref e0)->qr P w K a6 base A outer s H->xN s fd args (aK.zip us)->cB vs us->HeldAt e0 H->sp vs H Q E->me (bq P w) A (.call (.ref f) args) (JK cj outer P w H s Q E) s
theorem Un{cm:a8}{st:bH}(F:o4 K x cm st f fd)(S:bZ N aK (bo st))(len:∀vs H Q E,sp vs H Q E->vs.length=aK.length)(sG:∀(b4:ae)(A:d9)(e0:I)(outer:List eB)(s:ay)(H:ak)(vs:List V)(Q:cR)(E:dN),j' k (A.deeper (fB cm (bo st) s.heap.objs.size f b4))->(wY P w K a6 base N cm (bo st) f b4 A outer s H E).A.handled=B (.ref e0)->HeldAt e0 H->sp vs H Q E->∃t,ie (wY P w K a6 base N cm (bo st) f b4 A outer s H E) (lP st) t/\t {c6:=λ_ H'=>Q .bS H',ic:=Q} (start N vs) H):zc P w K a6 base (k+1) f fd aK sp:=
 ⟨len,λA e0 outer s H _ us vs Q E ah bU iL a0 r hd l6=>by obtain⟨_,_,_,_,_,_,b4,_,_,rfl,lk,l1⟩:=F.ex;have aq:=len _ _ _ _ l6;have bb:K.In s.heap:=iL.mod.hR.keeps λb o e=>(iL.bs b o e).1;have aA:∀y∈aK.zip us,(bo st).names.lookup y.1=B .local∨((bo st).names.lookup y.1=B .cell/\((ib (s.heap.objs.size+1) (bo st).names []).lookup y.1).isSome=a9):=λ⟨n,v⟩ bl=>(S.par n (Ic bl).1).elim .inl λz=>.inr ⟨z,Po _ _ _ (.inl z)⟩;refine a0w (by have:=ah.ey;omega) (bb _ _ lk) Y S.co S.gen Y (a0m bb l1) (a0 _ _ _ _ ?_);refine a0Q S.kind aA λ_ aF s1 x=>?_;subst aF;refine⟨(iL.mod.nolimit.keeps λb o e=>(iL.bs b o e).1).keeps x.toInCall.keep,a0x ?_⟩;obtain⟨t,ba,aQ⟩:=sG b4 A e0 outer s H vs Q E (ah.deeper _) bU hd l6;have D:=BP (JN (CX:=cj) (E:=E) (A:={A with handled:=aa}) S Y (⟨iL.frames,iL.mod,iL.bs,iL.mm,iL.k_,iL.oG,iL.bR,iL.bare⟩:qr P w K a6 base {A with handled:=aa} outer s H) aq r x);refine mg (ba [] s1 (start N vs) H _ D aQ) (λdE b3 ax=>?_) λe b3 ax=>ax.elim;cases dE with|ret u=>obtain⟨v,aM,H',d4,cA,q⟩:=ax;exact⟨v,H',d4.os,d4.bare,d4.base,d4.bR,cA,q⟩|next=>obtain⟨aM,H',d4,q⟩:=ax;exact⟨.bS,H',d4.os,d4.bare,d4.base,d4.bR,Y,q⟩|brk=>obtain⟨_,_,_,q⟩:=ax;exact hk q|cont=>obtain⟨_,_,_,q⟩:=ax;exact hk q⟩
def zd(e0:I)(sp:bF):bF:=λvs H Q E=>HeldAt e0 H/\sp vs H Q E
section
variable{E:dN}{m:a8}{fo:Pos}{e o:bP}{c0:b'}{t:gE}
theorem Uo{Q:cR}{vs:List V}(F:zc X.prog X.w X.K X.a6 X.base k f fd aK sp)(ah:j' k X.A)(bU:X.A.handled=B (.ref e0))(a0:Binds X.K fd aK [])(D:Inv X a4 G H s)(r:cB vs us)(h:zd e0 sp (vs++[]) H Q E):b8 (bq X.prog X.w) X.A (mU (.ref f) us) (i0 X a4 G Q) X.bN s:=by
 have dR:cB (vs++[]) (us++[]):=r.append .nil;have aq:(us++[]).length=aK.length:=by rw[<-dR.length];exact F.len _ _ _ _ h.2
 refine Au (vN (F.run X.A e0 X.stack s H ⟨us,[]⟩ (us++[]) (vs++[]) Q E ah bU D.yt (a0 s us D.gQ aq) dR h.1 h.2) λr _ aQ=>?_);cases r with
 |error e=>exact aQ.elim
 |ok dE=>cases dE with|ret u=>exact D.after aQ|next=>exact hk aQ|brk=>exact hk aQ|cont=>exact hk aQ
theorem a8f(F:zc X.prog X.w X.K X.a6 X.base k f fd aK sp)(ah:j' k X.A)(bU:X.A.handled=B (.ref e0))(aI:hA X x)(hm:X.a6 x=B (.ref f))(aA:nH X.K (.ref f)=a9)(a0:Binds X.K fd aK [])(bf:hz X (e::b7) t)(gd:kF x:=by decide)(aF:nY X e b7:=by rfl)(eF:l5 X pos b7:=by rfl):
  bT X (.Call (.Name x p) (e::b7) [] pos) (mw (zd e0 sp) [] E t):=λa4 s G H Q D h=>vP (oJ D aI hm (xR (h₀:=X.base) D.ok.mod.hR aA (bW (bf pos a4 s G H _ D h) λ_ _ ⟨_,_,aP,r,q⟩=>⟨aP.gQ,Uo F ah bU a0 aP r q⟩) aF eF) gd)
theorem a8g{pl:hQ Bool}(aF:bT X o c0)(c:ij X.K C)(hm:uk X.K C m f)(F:zc X.prog X.w X.K X.a6 X.base k f fd aK sp)(ah:j' k X.A)(bU:X.A.handled=B (.ref e0))(a0:Binds X.K fd aK [])(bf:hz X (e::b7) t)(ft:fC (e::b7) X.env=(aJ,eval e X.env)::fC b7 X.env:=by rfl)(eF:l5 X pos b7:=by rfl)(ba:eval (.Call (.Attribute o m fo) (e::b7) [] pos) X.env=(do
   let fJ <-eval o X.env
   u3 fo.atName
   let(f,first) <-rd [fJ] (vO fJ m pl)
   xY pos f first (lD pos (fC (e::b7) X.env)) (tZ pos (u0 [] X.env))):=by rfl):
  bT X (.Call (.Attribute o m fo) (e::b7) [] pos) (n5 C m (zd e0 sp) [] E c0 t):=by
 intro a4 s G H Q D h;refine Pr (pl:=pl) (bW (aF a4 s G H _ D h) λu s1 ⟨x,ai,aP,cp,a,_,_,ex,jj,l,q⟩=>?_) ba;subst ex;obtain rfl:u=dM a:=cp;refine EF aP jj c hm l ?_;refine xR (first:=[.ref a]) (h₀:=X.base) D.ok.mod.hR hm.dH (bW (bf pos a4 s1 G ai _ aP q) λus _ ⟨vs,_,cL,r,cw⟩=>⟨cL.gQ,?_⟩) ft eF;exact Uo (us:=.ref a::us) (vs:=.ref a::vs) F ah bU a0 cL (.cons Y r) cw
end
end LX
namespace Hg
open Tf hiding At Cell Ends Inv Means Right Row bd found heldBy judge_ok laid more pc right_of room same_iff signed sorted_ints tell way zs
open PySem PySem.Spec PyProof.Rows L2 LX
def f5(a6:a8->Option ae)(x:a8)(i:Int):Prop:=∃t,a6 x=B (.int i t)
def nx(a6:a8->Option ae)(x:a8)(z:a8):Prop:=∃t,a6 x=B (.str z t)
variable{X:bB}{pos:Pos}
theorem cK{x:a8}{i:Int}(h:f5 X.a6 x i)(aI:hA X x)(hd:(x==("__debug__" :a8))=aJ:=by decide):bT X (.Name x pos) (iB (.int i)):=by obtain⟨t,h⟩:=h;intro _ s G H Q D q;exact oJ D aI h ⟨.int i,H,D,⟨t,Y⟩,q⟩ hd
variable{z:a8}
theorem eU{x:a8}(h:nx X.a6 x z)(aI:hA X x)(hd:(x==("__debug__" :a8))=aJ:=by decide):bT X (.Name x pos) (iB (.str z)):=by obtain⟨t,h⟩:=h;intro _ s G H Q D q;exact oJ D aI h ⟨.str z,H,D,⟨t,Y⟩,q⟩ hd
variable{g:I}
theorem l'{x:a8}(h:X.a6 x=B (.ref g))(aI:hA X x)(hd:(x==("__debug__" :a8))=aJ:=by decide):bT X (.Name x pos) (iB (.ref g)):=by intro _ s G H Q D q;exact oJ D aI h ⟨.ref g,H,D,Y,q⟩ hd
section
variable(P:bQ)(w:bI)(K:bj)(a6:a8->Option ae)(base:br)
def dK(CX:jR)(k:Nat)(x:a8)(aK:List a8)(sp:bF):Prop:=∃f fd,a6 x=B (.ref f)/\jD P w K a6 base CX k f fd aK sp/\Binds K fd aK []/\nH K (.ref f)=a9
def fY(CX:jR)(k:Nat)(C:I)(m:a8)(aK:List a8)(sp:bF):Prop:=∃f fd,uk K C m f/\jD P w K a6 base CX k f fd aK sp/\Binds K fd aK []
def ph(CX:jR)(k:Nat)(C:I)(aK:List a8)(sp:bF):Prop:=∃f fd,AV K C f/\jD P w K a6 base CX k f fd aK sp/\Binds K fd aK []
def Gl(CX:jR)(k:Nat)(C:I)(cV aK:List a8)(sp:bF):Prop:=∃f fd,iM K C f cV/\jD P w K a6 base CX k f fd aK sp/\Binds K fd aK []
end
variable{P:bQ}{w:bI}{K:bj}{a6:a8->Option ae}{base:br}{k:Nat}{C:I}{cV aK:List a8}{sp:bF}{E:dN}{e:bP}{b7:List bP}
section
variable{CX:jR}{x m:a8}{p fo:Pos}{o:bP}{t:gE}{c0:b'}
theorem ct(af:dK X.prog X.w X.K X.a6 X.base CX k x aK sp)(ah:dn k X.A)(aI:hA X x)(ag:lK CX X E)(bf:hz X (e::b7) t)(gd:kF x:=by decide)(aF:nY X e b7:=by rfl)(eF:l5 X pos b7:=by rfl):bT X (.Call (.Name x p) (e::b7) [] pos) (mw sp [] E t):=by obtain⟨f,_,hm,F,a0,aA⟩:=af;exact a29 F ah aI hm aA a0 .nil ag bf gd aF eF
theorem dP{pl:hQ Bool}(af:fY X.prog X.w X.K X.a6 X.base CX k C m aK sp)(aF:bT X o c0)(c:ij X.K C)(ah:dn k X.A)(ag:lK CX X E)(bf:hz X (e::b7) t)(ft:fC (e::b7) X.env=(aJ,eval e X.env)::fC b7 X.env:=by rfl)(eF:l5 X pos b7:=by rfl)(ba:eval (.Call (.Attribute o m fo) (e::b7) [] pos) X.env=(do
   let fJ <-eval o X.env
   u3 fo.atName
   let(f,first) <-rd [fJ] (vO fJ m pl)
   xY pos f first (lD pos (fC (e::b7) X.env)) (tZ pos (u0 [] X.env))):=by rfl):bT X (.Call (.Attribute o m fo) (e::b7) [] pos) (n5 C m sp [] E c0 t):=by
 obtain⟨f,_,hm,F,a0⟩:=af;exact a2a aF c hm F ah a0 .nil ag bf ft eF ba
theorem g5{pl:hQ Bool}(af:fY X.prog X.w X.K X.a6 X.base CX k C m aK sp)(aF:bT X o c0)(c:ij X.K C)(ah:dn k X.A)(ag:lK CX X E)(ba:eval (.Call (.Attribute o m fo) [] [] pos) X.env=(do
   let fJ <-eval o X.env
   u3 fo.atName
   let(f,first) <-rd [fJ] (vO fJ m pl)
   xY pos f first (lD pos (fC [] X.env)) (tZ pos (u0 [] X.env))):=by rfl):bT X (.Call (.Attribute o m fo) [] [] pos) (n5 C m sp [] E c0 gc):=by
 obtain⟨f,_,hm,F,a0⟩:=af;exact a2b aF c hm F ah a0 .nil ag ba
theorem pj(af:ph X.prog X.w X.K X.a6 X.base CX k C aK sp)(ah:dn (k+1) X.A)(aI:hA X x)(hm:X.a6 x=B (.ref C))(ag:lK CX X E)(bf:hz X (e::b7) t)(gd:kF x:=by decide)(aF:nY X e b7:=by rfl)(eF:l5 X pos b7:=by rfl):bT X (.Call (.Name x p) (e::b7) [] pos) (EI C sp [] E t):=by obtain⟨f,_,M,F,a0⟩:=af;exact a2c M F ah aI hm a0 .nil ag bf gd aF eF
theorem a8h(af:ph X.prog X.w X.K X.a6 X.base CX k C aK sp)(ah:dn (k+1) X.A)(aI:hA X x)(hm:X.a6 x=B (.ref C))(ag:lK CX X E)(gd:kF x:=by decide):bT X (.Call (.Name x p) [] [] pos) (EI C sp [] E gc):=by obtain⟨f,_,M,F,a0⟩:=af;exact a2d M F ah aI hm a0 .nil ag gd
theorem ze(af:Gl X.prog X.w X.K X.a6 X.base CX k C cV aK sp)(ah:dn (k+1) X.A)(aI:hA X x)(hm:X.a6 x=B (.ref C))(ag:lK CX X E)(bf:hz X (e::b7) t)(gd:kF x:=by decide)(aF:nY X e b7:=by rfl)(eF:l5 X pos b7:=by rfl):bT X (.Call (.Name x p) (e::b7) [] pos) (wI C sp E t):=by obtain⟨f,_,e8,F,a0⟩:=af;exact a72 e8 F ah aI hm a0 ag bf gd aF eF
end
def Laid(K:bj)(a6:a8->Option ae)(x:a8)(st:bH):Prop:=∃f fd,a6 x=B (.ref f)/\o4 K x x st f fd
def fx(K:bj)(C:I)(m cm:a8)(st:bH):Prop:=∃f fd,uk K C m f/\o4 K m cm st f fd
def pk(K:bj)(C:I)(cm:a8)(st:bH):Prop:=∃f fd,AV K C f/\o4 K "__init__" cm st f fd
def uX(K:bj)(C:I)(cm:a8)(cV:List a8)(st:bH):Prop:=∃f fd,iM K C f cV/\o4 K "__init__" cm st f fd
abbrev Gm(P:bQ)(w:bI)(K:bj)(a6:a8->Option ae)(base:br)(N:List a8)(cm:a8)(st:bH)(k:Nat)(sp:bF):Prop:=
 ∀(f:I)(b4:ae)(A:d9)(outer:List eB)(s:ay)(H:ak)(vs:List V)(Q:cR)(E:dN),dn k (A.deeper (fB cm (bo st) s.heap.objs.size f b4))->sp vs H Q E->∃t,ie (oU cj P w K a6 base N cm (bo st) f b4 A outer s H E).AE (lP st) t/\t {c6:=λ_ H'=>Q .bS H',ic:=Q} (start N vs) H
abbrev Up(u:Nat)(P:bQ)(w:bI)(K:bj)(a6:a8->Option ae)(base:br)(N:List a8)(cm:a8)(st:bH)(k:Nat)(sp:bF):Prop:=
 ∀(f:I)(b4:ae)(A:d9)(outer:List eB)(s:ay)(H:ak)(vs:List V)(Q:cR)(E:dN),dn k (A.deeper (fB cm (bo st) s.heap.objs.size f b4))->sp vs H Q E->∃t,ie (oU (mC u P w) P w K a6 base N cm (bo st) f b4 A outer s H E) (lP st) t/\t {c6:=λ_ H'=>Q .bS H',ic:=Q} (start N vs) H
abbrev a8i(x cm:a8)(st:bH)(aK:List a8):Prop:=∀(fI iD iE:ae)(i_:Option I)(b4 en:ae)(us:List ae),us.length=aK.length->a0u (si x cm (sZ st) (lP st) (bo st) .none fI iD iE i_ b4 en) ⟨us,[]⟩=pure (aK.zip us)
abbrev a8j(sp:bF)(n:Nat):Prop:=∀vs H Q E,sp vs H Q E->vs.length=n
structure ti (sp:bF) (x cm:a8) (st:bH) (aK:List a8):Prop where
 len:a8j sp aK.length:=by intro _ H Q E h;first|(obtain⟨_,rfl,_⟩:=h;rfl)|(obtain⟨_,_,rfl,_⟩:=h;rfl)|(obtain⟨_,_,_,rfl,_⟩:=h;rfl)|(obtain⟨_,_,_,_,rfl,_⟩:=h;rfl)|(obtain⟨_,_,_,_,_,rfl,_⟩:=h;rfl)|(obtain⟨_,_,_,_,_,_,rfl,_⟩:=h;rfl)|(obtain⟨_,_,_,_,_,_,_,rfl,_⟩:=h;rfl)|(obtain⟨_,_,_,_,_,_,_,_,rfl,_⟩:=h;rfl)|(obtain⟨_,_,_,_,_,_,_,_,_,_,rfl,_⟩:=h;rfl)|(obtain⟨_,_,_,_,_,_,_,_,_,_,_,rfl,_⟩:=h;rfl)|(obtain⟨_,_,_,_,_,_,_,_,_,_,_,_,rfl,_⟩:=h;rfl)|(obtain⟨_,_,_,_,_,_,_,_,_,_,_,_,_,rfl,_⟩:=h;rfl)|(obtain⟨_,_,_,_,_,_,_,_,_,_,_,_,_,_,rfl,_⟩:=h;rfl)|(obtain⟨_,_,_,_,_,_,_,_,_,_,_,_,_,_,_,rfl,_⟩:=h;rfl)
 bd:a8i x cm st aK:=by first|(exact λ_ _ _ _ _ _ us aq=>match us,aq with|[_],_=>rfl)|(exact λ_ _ _ _ _ _ us aq=>match us,aq with|[_,_],_=>rfl)|(exact λ_ _ _ _ _ _ us aq=>match us,aq with|[_,_,_],_=>rfl)|(exact λ_ _ _ _ _ _ us aq=>match us,aq with|[_,_,_,_],_=>rfl)|(exact λ_ _ _ _ _ _ us aq=>match us,aq with|[_,_,_,_,_],_=>rfl)|(exact λ_ _ _ _ _ _ us aq=>match us,aq with|[_,_,_,_,_,_],_=>rfl)
variable{cm:a8}{st:bH}{N:List a8}
section
variable{x m:a8}
theorem Laid.ok(L:Laid K a6 x st)(S:bZ N aK (bo st))(a0:Gm P w K a6 base N x st k sp)(d:ti sp x x st aK:=by exact{}):dK P w K a6 base cj (k+1) x aK sp:=
 let⟨f,fd,hm,F⟩:=L;⟨f,fd,hm,F.ok S d.len λb4 A outer s H vs Q E ah h=>a0 f b4 A outer s H vs Q E ah h,F.binds d.bd,F.dH⟩
theorem Laid.kq{u:Nat}(L:Laid K a6 x st)(S:bZ N aK (bo st))(a0:Up u P w K a6 base N x st k sp)(d:ti sp x x st aK:=by exact{}):dK P w K a6 base (mC u P w) (k+1) x aK sp:=
 let⟨f,fd,hm,F⟩:=L;⟨f,fd,hm,F.kq S d.len λb4 A outer s H vs Q E ah h=>a0 f b4 A outer s H vs Q E ah h,F.binds d.bd,F.dH⟩
theorem fx.ok(L:fx K C m cm st)(S:bZ N aK (bo st))(a0:Gm P w K a6 base N cm st k sp)(d:ti sp m cm st aK:=by exact{}):fY P w K a6 base cj (k+1) C m aK sp:=
 let⟨f,fd,hm,F⟩:=L;⟨f,fd,hm,F.ok S d.len λb4 A outer s H vs Q E ah h=>a0 f b4 A outer s H vs Q E ah h,F.binds d.bd⟩
theorem fx.kq{u:Nat}(L:fx K C m cm st)(S:bZ N aK (bo st))(a0:Up u P w K a6 base N cm st k sp)(d:ti sp m cm st aK:=by exact{}):fY P w K a6 base (mC u P w) (k+1) C m aK sp:=
 let⟨f,fd,hm,F⟩:=L;⟨f,fd,hm,F.kq S d.len λb4 A outer s H vs Q E ah h=>a0 f b4 A outer s H vs Q E ah h,F.binds d.bd⟩
theorem pk.ok(L:pk K C cm st)(S:bZ N aK (bo st))(a0:Gm P w K a6 base N cm st k sp)(d:ti sp "__init__" cm st aK:=by exact{}):ph P w K a6 base cj (k+1) C aK sp:=
 let⟨f,fd,hm,F⟩:=L;⟨f,fd,hm,F.ok S d.len λb4 A outer s H vs Q E ah h=>a0 f b4 A outer s H vs Q E ah h,F.binds d.bd⟩
theorem uX.ok(L:uX K C cm cV st)(S:bZ N aK (bo st))(a0:Gm P w K a6 base N cm st k sp)(d:ti sp "__init__" cm st aK:=by exact{}):Gl P w K a6 base cj (k+1) C cV aK sp:=
 let⟨f,fd,hm,F⟩:=L;⟨f,fd,hm,F.ok S d.len λb4 A outer s H vs Q E ah h=>a0 f b4 A outer s H vs Q E ah h,F.binds d.bd⟩
end
variable{H H':ak}{o:dy}
theorem aw.upd{b:I}(s:aw H H')(h:H' b=aa):aw H (av H' b o):=λc u q=>by rw[aN (cU (s c u q) h)];exact s c u q
theorem aw.new{b:I}(h:H b=aa):aw H (av H b o):=aw.upd (aw.refl H) h
variable{xs:List V}
theorem aw.M8{a:I}(e:aw H H')(h:dq K H a xs):dq K H' a xs:=by
 obtain(h|⟨o,h⟩)|h:=h
 .exact .inl (.inl (e _ _ h))
 .exact .inl (.inr ⟨o,e _ _ h⟩)
 exact .inr h
def cn(i:Nat):bH:=ale.main.body.getD i (.Pass ⟨0,0,0,0⟩)
abbrev Uq:bH:=cn 18
abbrev Ur:bH:=cn 19
abbrev Us:bH:=cn 29
abbrev Ut:bH:=cn 30
abbrev Uu:bH:=cn 31
abbrev Uv:bH:=cn 32
abbrev Uw:bH:=cn 33
abbrev Ux:bH:=cn 34
abbrev Uy:bH:=cn 35
abbrev Uz:bH:=cn 36
abbrev UA:bH:=cn 37
abbrev UB:bH:=cn 38
abbrev UC:bH:=cn 39
abbrev UD:bH:=cn 40
abbrev UE:bH:=cn 41
abbrev UG:bH:=cn 42
abbrev UH:bH:=cn 43
abbrev UI:bH:=cn 44
abbrev UJ:bH:=cn 45
abbrev UK:bH:=cn 46
abbrev UL:bH:=cn 47
abbrev UM:bH:=cn 52
abbrev UN:bH:=cn 53
abbrev UO:bH:=cn 54
abbrev UP:bH:=cn 55
abbrev UQ:bH:=cn 56
abbrev UR:bH:=cn 58
abbrev US:bH:=cn 64
abbrev UT:bH:=cn 65
abbrev UU:bH:=cn 66
abbrev UW:bH:=cn 67
abbrev UX:bH:=cn 68
abbrev UY:bH:=cn 69
abbrev UZ:bH:=cn 70
abbrev U_:bH:=cn 71
abbrev U':bH:=cn 72
abbrev Gn:bH:=cn 73
abbrev V0:bH:=cn 74
abbrev V1:bH:=cn 86
abbrev V2:bH:=cn 87
abbrev V3:bH:=cn 93
abbrev M9:bH:=cn 94
abbrev zf:bH:=cn 95
abbrev Ma:bH:=cn 96
abbrev zg:bH:=cn 97
abbrev Mb:bH:=cn 98
abbrev Mc:bH:=cn 116
abbrev zh:bH:=cn 117
abbrev V4:bH:=cn 118
abbrev V5:bH:=cn 119
abbrev Md:bH:=cn 120
abbrev Me:bH:=cn 121
abbrev V6:bH:=cn 122
abbrev V7:bH:=cn 123
abbrev V8:bH:=cn 124
abbrev V9:bH:=cn 125
abbrev Va:bH:=cn 126
abbrev Vb:bH:=cn 146
abbrev BS:bH:=cn 148
abbrev Vc:bH:=eH (cn 17) 0
abbrev Vd:bH:=eH (cn 27) 0
abbrev Ve:bH:=eH (cn 28) 0
abbrev Vf:bH:=eH (cn 51) 0
abbrev Vg:bH:=eH (cn 57) 0
abbrev Vh:bH:=eH (cn 57) 1
abbrev Vi:bH:=eH (cn 57) 2
abbrev Vj:bH:=eH (cn 57) 3
abbrev Vk:bH:=eH (cn 57) 4
abbrev Vl:bH:=eH (cn 57) 5
abbrev Vm:bH:=eH (cn 57) 6
abbrev Mf:bH:=eH (cn 57) 7
abbrev Mg:bH:=eH (cn 57) 8
abbrev Vn:bH:=eH (cn 57) 9
abbrev Vo:bH:=eH (cn 63) 0
abbrev Vp:bH:=eH (cn 85) 0
abbrev Vq:bH:=eH (cn 88) 0
abbrev Vr:bH:=eH (cn 88) 1
abbrev Vs:bH:=eH (cn 88) 2
abbrev Vt:bH:=eH (cn 88) 3
abbrev Vu:bH:=eH (cn 88) 4
abbrev Vv:bH:=eH (cn 88) 5
abbrev Vw:bH:=eH (cn 88) 6
abbrev Vx:bH:=eH (cn 88) 7
abbrev Vy:bH:=eH (cn 88) 8
abbrev Vz:bH:=eH (cn 88) 9
abbrev VA:bH:=eH (cn 88) 10
abbrev VB:bH:=eH (cn 113) 0
abbrev VC:bH:=eH (cn 114) 0
abbrev VD:bH:=eH (cn 115) 0
abbrev VE:bH:=eH (cn 145) 0
abbrev VF:bH:=eH (cn 145) 1
abbrev VG:bH:=eH (cn 145) 2
abbrev VH:bH:=eH (cn 145) 3
abbrev VI:bH:=eH (cn 147) 0
abbrev zi:bH:=eH (cn 147) 1
abbrev VJ:bH:=eH (cn 147) 2
abbrev VK:bH:=eH (cn 147) 3
abbrev VL:bH:=eH (cn 147) 4
abbrev VM:bH:=eH (cn 147) 5
abbrev VN:bH:=eH (cn 147) 6
abbrev VO:bH:=eH (cn 147) 7
abbrev VP:bH:=eH (cn 147) 8
abbrev VQ:bH:=eH (cn 147) 9
abbrev Mh:bH:=eH (cn 147) 10
abbrev VR:bH:=eH (cn 147) 11
abbrev VS:bH:=eH (cn 147) 12
abbrev VT:bH:=eH (cn 147) 13
theorem Mi:bZ ["rules","cell","direction","x","y"] ["rules","cell","direction"] (bo Uq):={}
theorem zj:bZ ["rules","cell","x","y"] ["rules","cell"] (bo Ur):={}
theorem a8k:bZ ["piece","side"] ["piece","side"] (bo Us):={}
theorem Mj:bZ ["position","cell"] ["position"] (bo Ut):={}
theorem a8l:bZ ["rules","board","cell"] ["rules","board","cell"] (bo Uu):={}
theorem a8m:bZ ["rules","piece","cell"] ["rules","piece","cell"] (bo Uv):={}
theorem a8n:bZ ["rules","piece","cell"] ["rules","piece","cell"] (bo Uw):={}
theorem BU:bZ ["rules","board","cell","direction","piece","found","there"] ["rules","board","cell","direction"] (bo Ux):={}
theorem Mk:bZ ["rules","position","cell","found","direction"] ["rules","position","cell"] (bo Uy):={}
theorem BV:bZ ["rules","position","cells","found","x","y"] ["rules","position","cells"] (bo Uz):={}
theorem a8o:bZ ["rules","position"] ["rules","position"] (bo UA):={}
theorem VU:bZ ["rules","position","cell"] ["rules","position"] (bo UB):={}
theorem BW:bZ ["rules","board","piece","cell","enmity","side"] ["rules","board","piece","cell"] (bo UC):={}
theorem a8p:bZ ["rules","piece","helper"] ["rules","piece","helper"] (bo UD):={}
theorem a8q:bZ ["rules","board","piece","cell"] ["rules","board","piece","cell"] (bo UE):={}
theorem Ml:bZ ["rules","board","cell","direction"] ["rules","board","cell"] (bo UG):={}
theorem VV:bZ ["rules","board","cell","direction","piece"] ["rules","board","cell","direction"] (bo UH):={}
theorem Gp:bZ ["rules","board","cell","turn","found","direction","beside"] ["rules","board","cell","turn"] (bo UI):={}
theorem Gq:bZ ["rules","position","x","y","cells","taken","cell"] ["rules","position","x","y"] (bo UJ):={}
theorem a8r:bZ ["rules","cell"] ["rules","cell"] (bo UK):={}
theorem VW:bZ ["rules","position","king"] ["rules","position"] (bo UL):={}
theorem zk:bZ ["signs","sign"] ["signs"] (bo UM):={}
theorem rP:bZ ["source","place","row","same","byte","wanted"] ["source","place","row"] (bo UN):={}
theorem a8s:bZ ["byte"] ["byte"] (bo UO):={}
theorem a8t:bZ ["byte"] ["byte"] (bo UP):={}
theorem BX:bZ ["value","least","most","lowest","highest"] ["value","least","most"] (bo UQ):={}
theorem VX:bZ ["source","reader"] ["source"] (bo UR):={}
theorem a8u:bZ ["length"] ["length"] (bo US):={}
theorem wZ:bZ ["signs","line","length","sign"] ["signs"] (bo UT):={}
theorem Mm:bZ ["rules","position","rows","y"] ["rules","position"] (bo UU):={}
theorem a8v:bZ ["cell"] ["cell"] (bo UW):={}
theorem a8w:bZ ["x","y"] ["x","y"] (bo UX):={}
theorem uY:bZ ["told","line","taken","over","cell"] ["told"] (bo UY):={}
theorem VY:bZ ["rules","position","x","y","come"] ["rules","position","x","y"] (bo UZ):={}
theorem VZ:bZ ["rules","position","x","y","source","head"] ["rules","position","x","y","source"] (bo U_):={}
theorem V_:bZ ["source","cell","beginning"] ["source","cell"] (bo U'):={}
theorem Gr:bZ ["rules","position","source","named","cell","moves"] ["rules","position","source"] (bo Gn):={}
theorem zl:bZ ["rules","position","source","longest","move","line","same"] ["rules","position","source"] (bo V0):={}
theorem a8x:bZ ["stage","ended_by"] ["stage","ended_by"] (bo V1):={}
theorem V':bZ ["rules","stage","ended_by","over"] ["rules","stage","ended_by"] (bo V2):={}
theorem Mn:bZ ["rules","stage","ended_by","who","how"] ["rules","stage","ended_by"] (bo V3):={}
theorem BY:bZ ["game","hunters_name","kings_name","names","lines","line"] ["game","hunters_name","kings_name"] (bo M9):={}
theorem Mo:bZ ["rules","source","reader","game"] ["rules","source"] (bo zf):={}
theorem a8y:bZ ["reader","rules"] ["reader","rules"] (bo Ma):={}
theorem Mp:bZ ["reader","game","line","said","fault"] ["reader","game"] (bo zg):={}
theorem w_:bZ ["reader","game","stage","endings","number","ended_by"] ["reader","game"] (bo Mb):={}
theorem BZ:bZ ["source","draft","fault","faults","earliest"] ["source"] (bo Mc):={}
theorem w':bZ ["source","reader","own_name","wide","high","rules","draft"] ["source"] (bo zh):={}
theorem zm:bZ ["reader","rules","signs","marks","row","x","place","sign"] ["reader","rules","signs"] (bo V4):={}
theorem Mq:bZ ["marks","cells","mark"] ["marks"] (bo V5):={}
theorem a8z:bZ ["reader","rules"] ["reader","rules"] (bo Md):={}
theorem W0:bZ ["reader","draft","rules"] ["reader","draft"] (bo Me):={}
theorem uZ:bZ ["draft","seats","kings","faults","mark"] ["draft"] (bo V6):={}
theorem Mr:bZ ["marks","sign","mark"] ["marks","sign"] (bo V7):={}
theorem a8A:bZ ["ground_sign","piece"] ["ground_sign","piece"] (bo V8):={}
theorem Ms:bZ ["draft","rules","kings"] ["draft"] (bo V9):={}
theorem Mt:bZ ["draft","rules","needs_seat"] ["draft"] (bo Va):={}
theorem a8B:bZ ["row"] ["row"] (bo Vb):={}
theorem rQ:bZ ["calls","feed","desk","told","call","numbers","count","rows","answer"] ["calls"] (bo BS):={}
theorem a8C:bZ ["self","own_name","wide","high"] ["self","own_name","wide","high"] (bo Vc):={}
theorem a8D:bZ ["self","board","turn"] ["self","board","turn"] (bo Vd):={}
theorem a8E:bZ ["self","position","taken"] ["self","position","taken"] (bo Ve):={}
theorem W2:bZ ["self","place"] ["self","place"] (bo Vf):={}
theorem a8F:bZ ["self","source"] ["self","source"] (bo Vg):={}
theorem a8G:bZ ["self"] ["self"] (bo Vh):={}
theorem W3:bZ ["self","word"] ["self","word"] (bo Vi):={}
theorem zo:bZ ["self","words","longest","number","word","same"] ["self","words"] (bo Vj):={}
theorem a8H:bZ ["self","word"] ["self","word"] (bo Vk):={}
theorem W4:bZ ["self","row","same"] ["self","row"] (bo Vl):={}
theorem Mu:bZ ["self","end"] ["self"] (bo Vm):={}
theorem Gs:bZ ["self","least","most","value","longer"] ["self","least","most"] (bo Mf):={}
theorem W5:bZ ["self","begun"] ["self"] (bo Mg):={}
theorem a8I:bZ ["self"] ["self"] (bo Vn):={}
theorem a8J:bZ ["self","place"] ["self","place"] (bo Vo):={}
theorem a8K:bZ ["self","position","seen","over"] ["self","position","seen","over"] (bo Vp):={}
theorem a8L:bZ ["self","rules"] ["self","rules"] (bo Vq):={}
theorem a8M:bZ ["self"] ["self"] (bo Vr):={}
theorem a8N:bZ ["self"] ["self"] (bo Vs):={}
theorem a8O:bZ ["self"] ["self"] (bo Vt):={}
theorem a8P:bZ ["self"] ["self"] (bo Vu):={}
theorem W6:bZ ["self","x","y","position"] ["self","x","y"] (bo Vv):={}
theorem Mv:bZ ["self","position","key","seen"] ["self","position"] (bo Vw):={}
theorem W7:bZ ["self","position","seen","over"] ["self","position","seen"] (bo Vx):={}
theorem Mw:bZ ["self","x","y","come","told"] ["self","x","y"] (bo Vy):={}
theorem a8Q:bZ ["self","ended_by"] ["self","ended_by"] (bo Vz):={}
theorem W8:bZ ["self","stage"] ["self"] (bo VA):={}
theorem a8R:bZ ["self","kind","place"] ["self","kind","place"] (bo VB):={}
theorem a8S:bZ ["self","cell","sign","place"] ["self","cell","sign","place"] (bo VC):={}
theorem a8T:bZ ["self","rules","length"] ["self","rules","length"] (bo VD):={}
theorem a8U:bZ ["self","calls"] ["self","calls"] (bo VE):={}
theorem a8V:bZ ["self"] ["self"] (bo VF):={}
theorem W9:bZ ["self","value"] ["self"] (bo VG):={}
theorem Mx:bZ ["self","length","begun"] ["self"] (bo VH):={}
theorem a8W:bZ ["self"] ["self"] (bo VI):={}
theorem a8X:bZ ["self","call","numbers","rows"] ["self","call","numbers","rows"] (bo zi):={}
theorem My:bZ ["self","source","rules","fault"] ["self","source"] (bo VJ):={}
theorem a8Y:bZ ["self","x","y"] ["self","x","y"] (bo VK):={}
theorem Mz:bZ ["self","source","said","fault"] ["self","source"] (bo VL):={}
theorem a8Z:bZ ["self","x","y"] ["self","x","y"] (bo VM):={}
theorem a90:bZ ["self","ended_by"] ["self","ended_by"] (bo VN):={}
theorem a91:bZ ["self"] ["self"] (bo VO):={}
theorem MA:bZ ["self","game","count"] ["self"] (bo VP):={}
theorem a92:bZ ["self","k"] ["self","k"] (bo VQ):={}
theorem a93:bZ ["self","k"] ["self","k"] (bo Mh):={}
theorem a94:bZ ["self","k"] ["self","k"] (bo VR):={}
theorem a95:bZ ["self","hunters_name","kings_name"] ["self","hunters_name","kings_name"] (bo VS):={}
theorem MB:bZ ["self","source","game","fault"] ["self","source"] (bo VT):={}
structure b5 where
 Rules:I
 Position:I
 Outcome:I
 m1:I
 Reader:I
 u_:I
 oc:I
 Game:I
 u':I
 Mark:I
 gU:I
 iO:I
 f6:I
 lj:I
 v3:I
 v5:I
 v7:I
 v8:I
 zp:I
 zq:I
 zr:I
 B_:I
 B':I
 C0:I
 C1:I
 C2:I
 x1:I
 C3:I
 C4:I
 tj:I
 C5:I
 C6:I
 C7:I
 C8:I
 C9:I
 Ca:I
 Cb:I
 Cc:I
 Cd:I
 Ce:I
structure Txt (K:bj) (a6:a8->Option ae) (a:b5):Prop where
 pZ:f5 a6 "SPAN" (13)
 MC:f5 a6 "CELLS" (169)
 Cf:f5 a6 "NOWHERE" (-1)
 Gu:f5 a6 "HUNTERS_SIDE" (0)
 Wa:f5 a6 "KINGS_SIDE" (1)
 Wb:f5 a6 "GOAL_EDGE" (0)
 a96:f5 a6 "GOAL_EXITS" (1)
 a97:f5 a6 "AGAINST_HUNTERS" (1)
 a98:f5 a6 "AGAINST_MEN" (2)
 rR:f5 a6 "NOT_OVER" (0)
 Wc:f5 a6 "KING_TAKEN" (1)
 Wd:f5 a6 "GOAL_REACHED" (2)
 MD:f5 a6 "STUCK" (3)
 a99:f5 a6 "LONGEST_NAME" (16)
 a9a:f5 a6 "LINE_FEED" (10)
 a9b:f5 a6 "FIRST_TAKEN" (3)
 We:f5 a6 "SEEN_THRICE" (4)
 a9c:f5 a6 "LIMIT_REACHED" (5)
 Wf:f5 a6 "GIVEN_UP" (6)
 a9d:f5 a6 "LEFT_DRAWN" (7)
 a9e:f5 a6 "TIMES_TO_END" (3)
 ME:f5 a6 "BY_BOTH" (2)
 DRAWN:f5 a6 "DRAWN" (2)
 a9f:f5 a6 "STILL_OPEN" (3)
 Wg:f5 a6 "LEAST_SIZE" (5)
 Wh:f5 a6 "MOST_SIZE" (13)
 a9g:f5 a6 "MOST_LIMIT" (60000)
 a9h:f5 a6 "BEGIN" (0)
 a9i:f5 a6 "MOVE" (1)
 a9j:f5 a6 "SAY" (2)
 a9k:f5 a6 "END" (3)
 a9l:f5 a6 "BACK" (4)
 a9m:f5 a6 "NOW" (5)
 AT:f5 a6 "AT" (6)
 a9n:f5 a6 "MADE" (7)
 a9o:f5 a6 "TEXT" (8)
 Cg:f5 a6 "DONE" (0)
 Wi:f5 a6 "BAD_ARGUMENT" (-1)
 Gv:f5 a6 "NOT_THERE" (-2)
 a9p:f5 a6 "NO_RULES" (-3)
 MF:f5 a6 "GAME_OVER" (-4)
 Wj:f5 a6 "BAD_TEXT" (-5)
 a9q:f5 a6 "BAD_RULES" (-6)
 MG:nx a6 "PLAIN" "."
 Gw:nx a6 "SEAT" "S"
 Ci:nx a6 "EXIT" "X"
 Wk:nx a6 "WALL" "#"
 zt:nx a6 "NOBODY" "."
 Cj:nx a6 "HUNTER" "h"
 Wl:nx a6 "MAN" "m"
 p_:nx a6 "KING" "K"
 a9r:nx a6 "LETTERS" "abcdefghijklm"
 a9s:nx a6 "TURN_SIGNS" "hk"
 MH:nx a6 "END_BEGINNING" "en"
 a9t:nx a6 "GROUND_SIGNS" ".SX#"
 a9u:nx a6 "START_SIGNS" ".hmK"
 lj:a6 "DIRECTIONS" =B (.ref a.lj)/\∀H,dq K H a.lj [.ref a.v3,.ref a.v5,.ref a.v7,.ref a.v8]
 v3:∀H,dq K H a.v3 [.int (0),.int (1)]
 v5:∀H,dq K H a.v5 [.int (1),.int (0)]
 v7:∀H,dq K H a.v7 [.int (0),.int (-1)]
 v8:∀H,dq K H a.v8 [.int (-1),.int (0)]
 zp:a6 "THRICE_WINNERS" =B (.ref a.zp)/\∀H,dq K H a.zp [.int (2),.int (1),.int (0)]
 zq:a6 "WHO_WORDS" =B (.ref a.zq)/\∀H,dq K H a.zq [.str "hunters",.str "king",.str "drawn",.str "open"]
 zr:a6 "HOW_WORDS" =B (.ref a.zr)/\∀H,dq K H a.zr [.str "open",.str "taken",.str "goal",.str "stuck",.str "thrice",.str "limit",.str "given",.str "agreed"]
 B_:a6 "SIDES" =B (.ref a.B_)/\∀H,dq K H a.B_ [.str "hunters",.str "king"]
 B':a6 "GAITS" =B (.ref a.B')/\∀H,dq K H a.B' [.str "steps",.str "slides"]
 C0:a6 "ARMS" =B (.ref a.C0)/\∀H,dq K H a.C0 [.str "bare",.str "armed"]
 C1:a6 "WAYS_TO_TAKE" =B (.ref a.C1)/\∀H,dq K H a.C1 [.str "two",.str "four"]
 C2:a6 "PASSAGES" =B (.ref a.C2)/\∀H,dq K H a.C2 [.str "barred",.str "passed"]
 x1:a6 "ENMITIES" =B (.ref a.x1)/\∀H,dq K H a.x1 [.str "quiet",.str "hunters",.str "men",.str "all"]
 C3:a6 "GOALS" =B (.ref a.C3)/\∀H,dq K H a.C3 [.str "edge",.str "exits"]
 C4:a6 "THRICES" =B (.ref a.C4)/\∀H,dq K H a.C4 [.str "drawn",.str "hunters",.str "king"]
 tj:a6 "SHAPES" =B (.ref a.tj)/\∀H,dq K H a.tj [.ref a.C5,.ref a.C6,.ref a.C7,.ref a.C8,.ref a.C9,.ref a.Ca,.ref a.Cb,.ref a.Cc,.ref a.Cd,.ref a.Ce]
 C5:∀H,dq K H a.C5 [.int (0),.int (1)]
 C6:∀H,dq K H a.C6 [.int (2),.int (0)]
 C7:∀H,dq K H a.C7 [.int (0),.int (1)]
 C8:∀H,dq K H a.C8 [.int (1),.int (0)]
 C9:∀H,dq K H a.C9 [.int (0),.int (0)]
 Ca:∀H,dq K H a.Ca [.int (0),.int (0)]
 Cb:∀H,dq K H a.Cb [.int (1),.int (0)]
 Cc:∀H,dq K H a.Cc [.int (1),.int (0)]
 Cd:∀H,dq K H a.Cd [.int (0),.int (2)]
 Ce:∀H,dq K H a.Ce [.int (0),.int (1)]
 a9v:Laid K a6 "next_cell" Uq
 Wm:Laid K a6 "on_edge" Ur
 a9w:Laid K a6 "is_of_side" Us
 a9x:Laid K a6 "own_cells" Ut
 a9y:Laid K a6 "is_free" Uu
 a9z:Laid K a6 "stops_on" Uv
 a9A:Laid K a6 "goes_over" Uw
 a9B:Laid K a6 "targets_towards" Ux
 targets:Laid K a6 "targets" Uy
 a9C:Laid K a6 "moves_from" Uz
 a9D:Laid K a6 "list_of_moves" UA
 a9E:Laid K a6 "can_move" UB
 a9F:Laid K a6 "is_against" UC
 a9G:Laid K a6 "helps_against" UD
 a9H:Laid K a6 "is_held" UE
 a9I:Laid K a6 "is_surrounded" UG
 a9J:Laid K a6 "is_taken" UH
 a9K:Laid K a6 "taken_cells" UI
 outcome:Laid K a6 "outcome" UJ
 a9L:Laid K a6 "is_on_goal" UK
 a9M:Laid K a6 "position_over" UL
 Wn:Laid K a6 "bytes_of" UM
 Wo:Laid K a6 "agreed" UN
 a9N:Laid K a6 "is_digit" UO
 a9O:Laid K a6 "is_letter" UP
 a9P:Laid K a6 "leads_on" UQ
 a9Q:Laid K a6 "is_name" UR
 a9R:Laid K a6 "run_line" US
 a9S:Laid K a6 "row_line" UT
 a9T:Laid K a6 "position_line" UU
 a9U:Laid K a6 "cell_name" UW
 a9V:Laid K a6 "line_head" UX
 a9W:Laid K a6 "move_line" UY
 a9X:Laid K a6 "whole_line" UZ
 a9Y:Laid K a6 "line_to_compare" U_
 a9Z:Laid K a6 "begins_with_cell" U'
 aa0:Laid K a6 "moves_to_compare" Gn
 aa1:Laid K a6 "said_move" V0
 aa2:Laid K a6 "how_over_if" V1
 aa3:Laid K a6 "who_won_if" V2
 aa4:Laid K a6 "end_line" V3
 aa5:Laid K a6 "game_text" M9
 aa6:Laid K a6 "read_game" zf
 aa7:Laid K a6 "read_names" Ma
 aa8:Laid K a6 "read_move" zg
 aa9:Laid K a6 "read_end" Mb
 aaa:Laid K a6 "read_rules" Mc
 aab:Laid K a6 "read_draft" zh
 aac:Laid K a6 "read_marks" V4
 aad:Laid K a6 "laid_out" V5
 aae:Laid K a6 "read_customs" Md
 aaf:Laid K a6 "read_ends" Me
 aag:Laid K a6 "mark_faults" V6
 aah:Laid K a6 "with_sign" V7
 aai:Laid K a6 "is_misplaced" V8
 aaj:Laid K a6 "goal_faults" V9
 aak:Laid K a6 "missing_faults" Va
 aal:Laid K a6 "counted" Vb
 answers:Laid K a6 "answers" BS
 dk:ij K a.Rules/\a6 "Rules" =B (.ref a.Rules)
 MI:ew K a.Rules "own_name"
 zu:ew K a.Rules "wide"
 x2:ew K a.Rules "high"
 oe:ew K a.Rules "ground"
 Ck:ew K a.Rules "board"
 MJ:ew K a.Rules "first"
 MK:ew K a.Rules "slides"
 Cm:ew K a.Rules "armed"
 ML:ew K a.Rules "four"
 Gx:ew K a.Rules "passed"
 Gy:ew K a.Rules "seat"
 MM:ew K a.Rules "exits"
 Cn:ew K a.Rules "goal"
 MN:ew K a.Rules "thrice"
 MO:ew K a.Rules "limit"
 aam:pk K a.Rules "Rules.__init__" Vc
 jJ:ij K a.Position/\a6 "Position" =B (.ref a.Position)
 qN:ew K a.Position "board"
 tl:ew K a.Position "turn"
 aan:pk K a.Position "Position.__init__" Vd
 x3:ij K a.Outcome/\a6 "Outcome" =B (.ref a.Outcome)
 MP:ew K a.Outcome "position"
 MQ:ew K a.Outcome "taken"
 aao:pk K a.Outcome "Outcome.__init__" Ve
 tm:a6 "GrammarFault" =B (.ref a.m1)
 qO:uX K a.m1 "GrammarFault.__init__" ["place"] Vf
 cN:ij K a.Reader/\a6 "Reader" =B (.ref a.Reader)
 qP:ew K a.Reader "source"
 js:ew K a.Reader "place"
 aap:pk K a.Reader "Reader.__init__" Vg
 aaq:fx K a.Reader "peek" "Reader.peek" Vh
 Wq:fx K a.Reader "agreed_with" "Reader.agreed_with" Vi
 aar:fx K a.Reader "choice" "Reader.choice" Vj
 aas:fx K a.Reader "word" "Reader.word" Vk
 aat:fx K a.Reader "row" "Reader.row" Vl
 aau:fx K a.Reader "line_ahead" "Reader.line_ahead" Vm
 aav:fx K a.Reader "number" "Reader.number" Mf
 aaw:fx K a.Reader "name" "Reader.name" Mg
 aax:fx K a.Reader "finish" "Reader.finish" Vn
 MR:a6 "LineFault" =B (.ref a.u_)
 Gz:uX K a.u_ "LineFault.__init__" ["place"] Vo
 ny:ij K a.oc/\a6 "Stage" =B (.ref a.oc)
 zv:ew K a.oc "position"
 GA:ew K a.oc "seen"
 GB:ew K a.oc "over"
 aay:pk K a.oc "Stage.__init__" Vp
 dm:ij K a.Game/\a6 "Game" =B (.ref a.Game)
 pn:ew K a.Game "rules"
 x4:ew K a.Game "stages"
 tp:ew K a.Game "moves"
 GC:ew K a.Game "lines"
 GD:ew K a.Game "times"
 x5:ew K a.Game "ended_by"
 aaz:pk K a.Game "Game.__init__" Vq
 aaA:fx K a.Game "last_stage" "Game.last_stage" Vr
 aaB:fx K a.Game "last_position" "Game.last_position" Vs
 aaC:fx K a.Game "how_over" "Game.how_over" Vt
 aaD:fx K a.Game "who_won" "Game.who_won" Vu
 aaE:fx K a.Game "has_move" "Game.has_move" Vv
 aaF:fx K a.Game "reach" "Game.reach" Vw
 aaG:fx K a.Game "over_there" "Game.over_there" Vx
 aaH:fx K a.Game "make" "Game.make" Vy
 aaI:fx K a.Game "leave" "Game.leave" Vz
 aaJ:fx K a.Game "take_back" "Game.take_back" VA
 MS:a6 "RulesFault" =B (.ref a.u')
 MT:uX K a.u' "RulesFault.__init__" ["kind","place"] VB
 pq:ij K a.Mark/\a6 "Mark" =B (.ref a.Mark)
 GF:ew K a.Mark "cell"
 GG:ew K a.Mark "sign"
 GH:ew K a.Mark "place"
 aaK:pk K a.Mark "Mark.__init__" VC
 jt:ij K a.gU/\a6 "Draft" =B (.ref a.gU)
 zw:ew K a.gU "rules"
 Wr:ew K a.gU "length"
 GI:ew K a.gU "ground_marks"
 zx:ew K a.gU "start_marks"
 GJ:ew K a.gU "goal_place"
 aaL:pk K a.gU "Draft.__init__" VD
 m2:ij K a.iO/\a6 "Feed" =B (.ref a.iO)
 GK:ew K a.iO "calls"
 x6:ew K a.iO "place"
 aaM:pk K a.iO "Feed.__init__" VE
 aaN:fx K a.iO "has_more" "Feed.has_more" VF
 aaO:fx K a.iO "number" "Feed.number" VG
 aaP:fx K a.iO "row" "Feed.row" VH
 eO:ij K a.f6/\a6 "Desk" =B (.ref a.f6)
 hh:ew K a.f6 "game"
 aaQ:pk K a.f6 "Desk.__init__" VI
 aaR:fx K a.f6 "answer" "Desk.answer" zi
 aaS:fx K a.f6 "begin" "Desk.begin" VJ
 aaT:fx K a.f6 "move" "Desk.move" VK
 aaU:fx K a.f6 "say" "Desk.say" VL
 aaV:fx K a.f6 "make" "Desk.make" VM
 aaW:fx K a.f6 "end" "Desk.end" VN
 aaX:fx K a.f6 "back" "Desk.back" VO
 aaY:fx K a.f6 "now" "Desk.now" VP
 aaZ:fx K a.f6 "at" "Desk.at" VQ
 ab0:fx K a.f6 "line_at" "Desk.line_at" Mh
 ab1:fx K a.f6 "made" "Desk.made" VR
 ab2:fx K a.f6 "text" "Desk.text" VS
 ab3:fx K a.f6 "read" "Desk.read" VT
 Ws:a6 "sorted" =aa
 ab4:a6 "all" =aa
 ab5:a6 "list" =aa
 Wt:a6 "zip" =aa
 zy:a6 "range" =aa
 tq:a6 "ord" =aa
 ab6:a6 "enumerate" =aa
 MU:a6 "str" =aa
 hU:a6 "len" =aa
 MV:a6 "max" =aa
 ab7:a6 "min" =aa
def dA(l:List Nat):a8:=⟨l.toArray⟩
def b2(b:Bool):Int:=if b then 1 else 0
def e2:kZ->a8
 |.none=>"."
 |.hunter=>"h"
 |.man=>"m"
 |.king=>"K"
def og:E5->a8
 |.plain=>"."
 |.seat=>"S"
 |.exit=>"X"
 |.wall=>"#"
theorem oh(p:kZ):(⟨#[Tf.pc p]⟩:a8)=e2 p:=by cases p<;>decide+kernel
theorem v9(k:E5):(⟨#[Tf.eh k]⟩:a8)=og k:=by cases k<;>decide+kernel
theorem k1(p q:kZ):decide (V.str (e2 p)=V.str (e2 q))=(p==q):=by cases p<;>cases q<;>decide+kernel
theorem va(p q:E5):decide (V.str (og p)=V.str (og q))=(p==q):=by cases p<;>cases q<;>decide+kernel
def GL(n:I)(r:eW):List (a8×V):=[("own_name",.ref n),("wide",.int r.wide),("high",.int r.high),("ground",.str (dA (Tf.e' r))),("board",.str (dA (Tf.bd r.begins))),("first",.int r.first),("slides",.int (b2 r.slides)),("armed",.int (b2 r.armed)),("four",.int (b2 r.four)),("passed",.int (b2 r.passed)),("seat",.int r.seat),("exits",.int r.exits),("goal",.int r.goal),("thrice",.int r.thrice),("limit",.int r.limit)]
def fN(a:b5)(H:ak)(p:I)(r:eW):Prop:=∃d:I×I,H p=B (.ins a.Rules d.1 (GL d.2 r))
variable{a:b5}{p:I}{r:eW}
theorem fN.same(h:fN a H p r)(s:aw H H'):fN a H' p r:=let⟨a3,q⟩:=h;⟨a3,s _ _ q⟩
variable{c:Nat}
theorem BN{l:List Nat}{v:Nat}(h:l[c]? =B v):hb (dA l).cps.toList (c:Int)=B v:=by refine gr ?_;show l.toArray.toList[c]? =B v;simpa using h
theorem zz(l:List Nat):(dA l).length=l.length:=by show l.toArray.size=_;simp
def Co:Nat->List V
 |0=>[.int 0,.int 1]
 |1=>[.int 1,.int 0]
 |2=>[.int 0,.int (-1)]
 |_=>[.int (-1),.int 0]
def qQ:Option Nat->Int
 |none=> -1
 |some n=>n
theorem ab8(d:Nat):∃a3 oi:Int,Co d=[.int a3,.int oi]/\(d=0->a3=0/\oi=1)/\(d=1->a3=1/\oi=0)/\(d=2->a3=0/\oi= -1)/\(d=3->a3= -1/\oi=0):=by
 match d with
 |0=>exact⟨_,_,Y,by simp,by simp,by simp,by simp⟩
 |1=>exact⟨_,_,Y,by simp,by simp,by simp,by simp⟩
 |2=>exact⟨_,_,Y,by simp,by simp,by simp,by simp⟩
 |3=>exact⟨_,_,Y,by simp,by simp,by simp,by simp⟩
 |d+4=>exact⟨_,_,Y,by omega,by omega,by omega,by omega⟩
theorem ab9{d:Nat}{a3 oi:Int}(s:dh r)(a7:Tf.Cell r c)(hd:d<4)(h:(d=0->a3=0/\oi=1)/\(d=1->a3=1/\oi=0)/\(d=2->a3=0/\oi= -1)/\(d=3->a3= -1/\oi=0)):qQ (r.next d c)=if(0<=(c:Int)%13+a3/\(c:Int)%13+a3<r.wide)/\(0<=(c:Int)/13+oi/\(c:Int)/13+oi<r.high)then 13*((c:Int)/13+oi)+((c:Int)%13+a3)else -1:=by
 have oH:=kj.mp a7;have:=s.p5;have:=s.pU;have aO:(c:Int)%13=((c%13:Nat):Int):=by omega
 have aT:(c:Int)/13=((c/13:Nat):Int):=by omega
 rw[aO,aT];unfold ajP mh Tafl.cellOf mh;have vb:d=0∨d=1∨d=2∨d=3:=by omega
 obtain rfl|rfl|rfl|rfl:=vb
 .obtain⟨rfl,rfl⟩:=h.1 Y;simp only[jB];split
  .rw[aZ (by omega)];show(((_:Nat)):Int)=_;omega
  rw[aL (by omega)];rfl
 .obtain⟨rfl,rfl⟩:=h.2.1 Y;simp only[show¬(1=0) by decide,jA,jB];split
  .rw[aZ (by omega)];show(((_:Nat)):Int)=_;omega
  rw[aL (by omega)];rfl
 .obtain⟨rfl,rfl⟩:=h.2.2.1 Y;simp only[show¬(2=0) by decide,show¬(2=1) by decide,jA,jB];split
  .rw[aZ (by omega)];show(((_:Nat)):Int)=_;omega
  rw[aL (by omega)];rfl
 obtain⟨rfl,rfl⟩:=h.2.2.2 Y;simp only[show¬(3=0) by decide,show¬(3=1) by decide,show¬(3=2) by decide,jA];split
 .rw[aZ (by omega)];show(((_:Nat)):Int)=_;omega
 rw[aL (by omega)];rfl
def GN(p:kZ)(s:Nat):Bool:=if s=0 then p== .hunter else p== .man||p== .king
def aba(K:bj)(a:b5):bF:=λvs H Q _=>∃p r c gA d,vs=[.ref p,.int ((c:Nat):Int),.ref gA]/\fN a H p r/\dh r/\Tf.Cell r c/\d<4/\dq K H gA (Co d)/\Q (.int (qQ (r.next d c))) H
def abb(a:b5):bF:=λvs H Q _=>∃p r c,vs=[.ref p,.int ((c:Nat):Int)]/\fN a H p r/\dh r/\Q (.c1 (r.onEdge (c%13,c/13))) H
def Wu:bF:=λvs H Q _=>∃p s,vs=[.str (e2 p),.int ((s:Nat):Int)]/\Q (.c1 (GN p s)) H
def abc(a:b5):bF:=λvs H Q _=>∃p r q n,vs=[.ref p,.str (dA (Tf.bd q)),.int (qQ n)]/\fN a H p r/\dh r/\(∀c,n=B c->Tf.Cell r c)/\Q (.c1 (match n with|none=>aJ|some c=>r.free q c)) H
def abd(a:b5):bF:=λvs H Q _=>∃p r q c,vs=[.ref p,.str (e2 q),.int ((c:Nat):Int)]/\fN a H p r/\dh r/\Tf.Cell r c/\Q (.c1 (yL r (q== .king) c)) H
def abe(a:b5):bF:=λvs H Q _=>∃p r q c,vs=[.ref p,.str (e2 q),.int ((c:Nat):Int)]/\fN a H p r/\dh r/\Tf.Cell r c/\Q (.c1 (yM r (q== .king) c)) H
theorem Cp(T:Txt K a6 a):dK P w K a6 base cj 2 "next_cell" ["rules","cell","direction"] (aba K a):=by
 refine T.a9v.ok Mi (λf _ A _ s H _ Q E _ h=>?_);obtain⟨p,r,c,gA,d,rfl,⟨_,ar⟩,ax,a7,hd,dp,k⟩:=h;refine⟨_,aC (cx (i:=3) Mi.bh (da nT (da EA (J 1) (cK T.pZ Y)) (dV lN (J 2) cb (λ_ _=>rfl)))) (aC (cx (i:=4) Mi.bh (da nT (da Ez (J 1) (cK T.pZ Y)) (dV lN (J 2) cb (λ_ _=>rfl)))) (aC (d3 (jc.pt (nO (Jx rv oS cb (J 3) (bg (J 0) Y)) (pI (Jx rv oS cb (J 4) (bg (J 0) Y))))) (aX (bG (da nT (da w5 (cK T.pZ Y) (J 4)) (J 3)))) d8) (aX (bG (cK T.Cf Y))))),?_⟩;obtain⟨_,_,ll,abf⟩:=ab8 d;rw[ll]at dp;have e:=ab9 ax a7 hd abf;refine⟨_,Y,_,_,Y,Y,(by show(0:Int)<13;decide),_,Y,gA,_,_,_,Y,Y,dp,Y,_,_,Y,Y,_,Y,_,_,Y,Y,⟨(by show(0:Int)<13;decide),(by show(13:Int)<1073741824;decide)⟩,_,Y,gA,_,_,_,Y,Y,dp,Y,_,_,Y,Y,_,Y,_,_,Y,Y,_,Y,gj (λO=>?_) λO=>?_⟩
 .refine⟨_,Y,p,_,_,_,_,Y,ar,T.dk.1,T.zu,Y,_,_,Y,Y,_,Y,gj (λa5=>?_) λa5=>?_⟩
  .refine⟨_,Y,_,_,Y,Y,_,Y,gj (λaG=>?_) λaG=>?_⟩
   .refine⟨_,Y,p,_,_,_,_,Y,ar,T.dk.1,T.x2,Y,_,_,Y,Y,_,Y,gj (λcG=>?_) λcG=>?_⟩
    .refine⟨_,Y,_,_,Y,Y,.inl ⟨by decide,by decide⟩,_,Y,_,_,Y,Y,?_⟩;rw[e,aZ ⟨⟨e3 O,e3 a5⟩,e3 aG,e3 cG⟩]at k;exact k
    rw[e,aL λz=>cG (eE z.2.2)]at k;exact k
   refine⟨_,Y,gz ?_⟩;rw[e,aL λz=>aG (eE z.2.1)]at k;exact k
  rw[e,aL λz=>a5 (eE z.1.2)]at k;exact gz k
 refine⟨_,Y,gz ?_⟩;rw[e,aL λz=>O (eE z.1.1)]at k;exact gz k
theorem MW(T:Txt K a6 a):dK P w K a6 base cj 1 "is_of_side" ["piece","side"] Wu:=by
 refine T.a9w.ok a8k (λf _ A _ s H _ Q E _ h=>?_);obtain⟨p,gM,rfl,k⟩:=h;refine⟨_,aC (d3 (c' dz (J 1) (cK T.Gu Y) (cq _)) (aX (bG (gG dz (J 0) (eU T.Cj Y) (cq _)))) d8) (aX (bG (oK (gG dz (J 0) (eU T.Wl Y) (cq _)) (pJ (gG dz (J 0) (eU T.p_ Y) (cq _)))))),_,Y,Y,_,Y,gj (λO=>?_) λO=>?_⟩
 .refine⟨_,Y,Y,?_⟩;have z:gM=0:=by have:=e3 O;have:=V.int.inj this;omega
  unfold GN at k;rw[aZ z,<-k1 p .hunter]at k;exact k
 have z:¬gM=0:=λz=>O (eE (by rw[z];rfl));unfold GN at k;rw[aL z,<-k1 p .man,<-k1 p .king]at k;refine⟨_,Y,Y,_,Y,gj (λa5=>?_) λa5=>⟨_,Y,Y,?_⟩⟩
 .rw[show decide (V.str (e2 p)=V.str (e2 .man))=a9 from a5]at k;exact k
 rw[show decide (V.str (e2 p)=V.str (e2 .man))=aJ from nK a5]at k;exact k
variable{q:gp}
theorem abg(T:Txt K a6 a):dK P w K a6 base cj 1 "on_edge" ["rules","cell"] (abb a):=by
 refine T.Wm.ok zj (λf _ A _ s H _ Q E _ h=>?_);obtain⟨p,r,c,rfl,⟨_,ar⟩,ax,k⟩:=h;refine⟨_,aC (cx (i:=2) zj.bh (da EA (J 1) (cK T.pZ Y))) (aC (cx (i:=3) zj.bh (da Ez (J 1) (cK T.pZ Y))) (aX (bG (oK (gG dz (J 2) cb (cq _)) (oK (gG dz (J 3) cb (cq _)) (oK (gG dz (J 2) (da nU (bg (J 0) Y) cb) (cq _)) (pJ (gG dz (J 3) (da nU (bg (J 0) Y) cb) (cq _))))))))),?_⟩;have eZ:=ax.wi;have iH:=ax.eZ;have aO:decide (V.int ((c:Int)%13)=V.int 0)=(c%13==0):=by rw[nV];apply hM.mpr;simp only[h_];omega
 have aT:decide (V.int ((c:Int)/13)=V.int 0)=(c/13==0):=by rw[nV];apply hM.mpr;simp only[h_];omega
 have dX:decide (V.int ((c:Int)%13)=V.int ((r.wide:Int)-1))=(c%13+1==r.wide):=by rw[nV];apply hM.mpr;simp only[h_];omega
 have hF:decide (V.int ((c:Int)/13)=V.int ((r.high:Int)-1))=(c/13+1==r.high):=by rw[nV];apply hM.mpr;simp only[h_];omega
 have k:Q (.c1 ((c%13==0)||(c/13==0)||(c%13+1==r.wide)||(c/13+1==r.high))) H:=k;rw[<-aO,<-aT,<-dX,<-hF]at k;refine⟨_,rfl,_,_,rfl,rfl,(by show(0:Int)<13;decide),_,rfl,_,_,rfl,rfl,⟨(by show(0:Int)<13;decide),(by show(13:Int)<1073741824;decide)⟩,_,rfl,rfl,_,rfl,gj (λO=>?_) λO=>?_⟩
 .rw[show decide (V.int ((c:Int)%13)=V.int 0)=a9 from O]at k;exact k
 rw[show decide (V.int ((c:Int)%13)=V.int 0)=aJ from nK O]at k;refine⟨_,Y,Y,_,Y,gj (λa5=>?_) λa5=>?_⟩
 .rw[show decide (V.int ((c:Int)/13)=V.int 0)=a9 from a5]at k;exact k
 rw[show decide (V.int ((c:Int)/13)=V.int 0)=aJ from nK a5]at k;refine⟨_,Y,_,Y,p,_,_,_,_,Y,ar,T.dk.1,T.zu,Y,_,_,Y,Y,Y,_,Y,gj (λaG=>?_) λaG=>?_⟩
 .rw[show decide (V.int ((c:Int)%13)=V.int ((r.wide:Int)-1))=a9 from aG]at k;exact k
 rw[show decide (V.int ((c:Int)%13)=V.int ((r.wide:Int)-1))=aJ from nK aG]at k;refine⟨_,Y,_,Y,p,_,_,_,_,Y,ar,T.dk.1,T.x2,Y,_,_,Y,Y,Y,?_⟩;exact k
theorem zA(l:List Nat)(h:l.length=169):(dA l).length<=cM:=by rw[zz,h];decide
theorem Cq(s:dh r)(h:Tf.Cell r c):(dA (Tf.e' r)).length<=cM/\hb (dA (Tf.e' r)).cps.toList (c:Int)=B (Tf.eh (r.kindAt c)):=⟨zA _ (Lc r),BN (Sd r s h)⟩
theorem GO(h:c<169):(dA (Tf.bd q)).length<=cM/\hb (dA (Tf.bd q)).cps.toList (c:Int)=B (Tf.pc (q.on c)):=⟨zA _ (km q),BN (qC q h)⟩
theorem abh(T:Txt K a6 a):dK P w K a6 base cj 1 "is_free" ["rules","board","cell"] (abc a):=by
 refine T.a9y.ok a8l (λf _ A _ s H _ Q E _ h=>?_);obtain⟨p,r,q,n,rfl,⟨_,ar⟩,ax,aH,k⟩:=h;refine⟨_,aX (bG (Ep (gG nW (J 2) (cK T.Cf Y) (cq _)) (Ep (gG nW (dV n8 (bg (J 0) Y) (J 2) (λ_ _=>rfl)) (eU T.Wk Y) (cq _)) (pJ (gG dz (dV n8 (J 1) (J 2) (λ_ _=>rfl)) (eU T.zt Y) (cq _)))))),?_⟩;cases n with
 |none=>refine⟨_,Y,Y,_,Y,?_⟩;rw[aL (by decide)];exact k
 |some c=>
  have a7:=aH c Y;obtain⟨jr,g2⟩:=Cq ax a7;obtain⟨b1,b2⟩:=GO (q:=q) (ax.lt a7);refine⟨_,Y,Y,_,Y,?_⟩;rw[aZ (show(!decide (V.int (qQ (B c))=V.int (-1)))=a9 by
   have:¬V.int (qQ (B c))=V.int (-1):=λz=>by have z:=V.int.inj z;have z:((c:Nat):Int)= -1:=z;omega
   rw[gP this];rfl)]
  refine⟨_,Y,p,_,_,_,_,Y,ar,T.dk.1,T.oe,Y,_,Y,_,_,_,Y,Y,jr,g2,Y,_,Y,gj (λO=>?_) λO=>?_⟩
  .refine⟨_,Y,_,Y,_,_,_,Y,Y,b1,b2,Y,?_⟩;have k:Q (.c1 (r.free q c)) H:=k;have e:r.free q c=decide (V.str ⟨#[Tf.pc (q.on c)]⟩=V.str (e2 .none)):=by unfold IQ;rw[oh,k1];have O:(!decide (V.str ⟨#[Tf.eh (r.kindAt c)]⟩=V.str (og .wall)))=a9:=O;rw[v9,va]at O;rw[show(r.kindAt c != .wall)=a9 from O];rfl
   rw[e]at k;exact k
  have k:Q (.c1 (r.free q c)) H:=k;have e:r.free q c=aJ:=by unfold IQ;have O:¬(!decide (V.str ⟨#[Tf.eh (r.kindAt c)]⟩=V.str (og .wall)))=a9:=O;rw[v9,va]at O;rw[show(r.kindAt c != .wall)=aJ from nK O];rfl
  rw[e]at k;exact k
theorem Cr(b:Bool):decide (V.int (b2 b)=V.int 1)=b:=by cases b<;>decide
theorem abi(T:Txt K a6 a):dK P w K a6 base cj 1 "stops_on" ["rules","piece","cell"] (abd a):=by
 refine T.a9z.ok a8m (λf _ A _ s H _ Q E _ h=>?_);obtain⟨p,r,q,c,rfl,⟨_,ar⟩,ax,a7,k⟩:=h;refine⟨_,aX (bG (oK (gG dz (J 1) (eU T.p_ Y) (cq _)) (pJ (gG dz (dV n8 (bg (J 0) Y) (J 2) (λ_ _=>rfl)) (eU T.MG Y) (cq _))))),?_⟩;obtain⟨jr,g2⟩:=Cq ax a7;unfold yL at k;rw[<-k1 q .king,<-va (r.kindAt c) .plain,<-v9]at k;refine⟨_,Y,Y,_,Y,gj (λO=>?_) λO=>?_⟩
 .rw[show decide (V.str (e2 q)=V.str (e2 .king))=a9 from O]at k;exact k
 rw[show decide (V.str (e2 q)=V.str (e2 .king))=aJ from nK O]at k;refine⟨_,Y,p,_,_,_,_,Y,ar,T.dk.1,T.oe,Y,_,Y,_,_,_,Y,Y,jr,g2,Y,k⟩
theorem abj(T:Txt K a6 a):dK P w K a6 base cj 1 "goes_over" ["rules","piece","cell"] (abe a):=by
 refine T.a9A.ok a8n (λf _ A _ s H _ Q E _ h=>?_);obtain⟨p,r,q,c,rfl,⟨_,ar⟩,ax,a7,k⟩:=h;refine⟨_,aC (d3 (c' dz (J 1) (eU T.p_ Y) (cq _)) (aX (bG (gG dz (bg (J 0) Y) cb (cq _)))) d8) (aC (d3 (c' dz (dV n8 (bg (J 0) Y) (J 2) (λ_ _=>rfl)) (eU T.Gw Y) (cq _)) (aX (bG (gG dz (bg (J 0) Y) cb (cq _)))) d8) (aX (bG (gG nW (dV n8 (bg (J 0) Y) (J 2) (λ_ _=>rfl)) (eU T.Ci Y) (cq _))))),?_⟩;obtain⟨jr,g2⟩:=Cq ax a7;unfold yM at k;refine⟨_,Y,Y,_,Y,gj (λO=>?_) λO=>?_⟩
 .have O:decide (V.str (e2 q)=V.str (e2 .king))=a9:=O;rw[k1]at O;rw[aZ O,<-Cr r.slides]at k;exact⟨_,Y,p,_,_,_,_,Y,ar,T.dk.1,T.MK,Y,Y,k⟩
 have O:¬decide (V.str (e2 q)=V.str (e2 .king))=a9:=O;rw[k1]at O;rw[aL O]at k;refine⟨_,Y,p,_,_,_,_,Y,ar,T.dk.1,T.oe,Y,_,Y,_,_,_,Y,Y,jr,g2,Y,_,Y,gj (λa5=>?_) λa5=>?_⟩
 .have a5:decide (V.str ⟨#[Tf.eh (r.kindAt c)]⟩=V.str (og .seat))=a9:=a5;rw[v9,va]at a5;rw[show r.kindAt c=.seat from eq_of_beq a5]at k;have k:Q (.c1 r.passed) H:=k;rw[<-Cr r.passed]at k;exact⟨_,Y,p,_,_,_,_,Y,ar,T.dk.1,T.Gx,Y,Y,k⟩
 have a5:¬decide (V.str ⟨#[Tf.eh (r.kindAt c)]⟩=V.str (og .seat))=a9:=a5;rw[v9,va]at a5;refine⟨_,Y,p,_,_,_,_,Y,ar,T.dk.1,T.oe,Y,_,Y,_,_,_,Y,Y,jr,g2,Y,?_⟩;have e:(!decide (V.str ⟨#[Tf.eh (r.kindAt c)]⟩=V.str (og .exit)))=(match r.kindAt c with|.seat=>r.passed|.exit=>aJ|_=>a9):=by rw[v9,va];cases z:r.kindAt c with|seat=>rw[z]at a5;exact absurd Y a5|plain=>rfl|exit=>rfl|wall=>rfl
 refine(f_ (λb=>Q (V.c1 b) H) e).mpr ?_;exact k
def dB(l:List Nat):List V:=l.map λ(n:Nat)=>V.int ((n:Nat):Int)
def abk(K:bj)(a:b5):bF:=λvs H Q _=>∃p r q c gA d,vs=[.ref p,.str (dA (Tf.bd q)),.int ((c:Nat):Int),.ref gA]/\fN a H p r/\dh r/\Tf.Cell r c/\d<4/\dq K H gA (Co d)/\∀l,H l=aa->∀H',aw H H'->H' l=B (.lst (dB (Tf.way r q c d)))->Q (.ref l) H'
theorem Wv{k:Bool}{d:Nat}:∀(f c:Nat),(p9 r q k d f c).length<=f:=by
 intro f;induction f with
 |zero=>intro c;cases k<;>simp[p9,y4,y5]
 |succ f ih=>
  intro c;cases e:r.next d c with
  |none=>rw[R_ e];simp
  |some n=>
   unfold p9;have:=ih n;unfold p9 at this;cases k
   .simp only[qa,jA]at this ⊢;conv=>lhs;unfold y5
    rw[e];dsimp only;split
    .simp
    split
    .simp
    .split
     .omega
     simp
    simp;omega
   simp only[jB]at this ⊢;conv=>lhs;unfold y4
   rw[e];dsimp only;split
   .simp
   split
   .simp;omega
   simp
theorem abl(T:Txt K a6 a):dK P w K a6 base cj 3 "targets_towards" ["rules","board","cell","direction"] (abk K a):=by
 refine T.a9B.ok BU (λf _ A _ s H _ Q E ah h=>?_);obtain⟨p,r,q,c,gA,d,rfl,⟨fX,ar⟩,ax,a7,hd,dp,k⟩:=h;refine⟨_,aC (cx (i:=4) BU.bh (dV n8 (J 1) (J 2) (λ_ _=>rfl))) (aC (cx (i:=5) BU.bh (fv az)) (aC (cx (i:=6) BU.bh (ct (Cp T) ah Y bw (ao (J 0) (ao (J 2) (ao (J 3) az))))) (aC (w0 oz (je (ct (abh T) ah.mono Y bw (ao (J 0) (ao (J 1) (ao (J 6) az))))) (aC (d3 (je (ct (abi T) ah.mono Y bw (ao (J 0) (ao (J 4) (ao (J 6) az))))) (aX (e6 (pM oy tV vI sO (J 5) (ao (J 6) az)))) d8) (aC (d3 (v_ (je (ct (abj T) ah.mono Y bw (ao (J 0) (ao (J 4) (ao (J 6) az)))))) (aX Q9) d8) (aX (cx (i:=6) BU.bh (ct (Cp T) ah Y bw (ao (J 0) (ao (J 6) (ao (J 3) az))))))))) (aX (bG (J 5)))))),?_⟩;have s1:∀l,H l=aa->aw H (av H l (.lst [])):=λl aq=>aw.new aq;obtain⟨b1,Cs⟩:=GO (q:=q) (ax.lt a7);have abm:=a4d (d:=d) ax a7;refine⟨_,Y,_,Y,_,_,_,Y,Y,b1,Cs,ek _,λl aq=>?_⟩;refine⟨_,Y,_,Y,_,Y,p,r,c,gA,d,Y,fN.same ⟨fX,ar⟩ (s1 l aq),ax,a7,hd,aw.M8 (s1 l aq) dp,λf aM H'=>∃e4 bM,aM=[B (.ref p),B (.str (dA (Tf.bd q))),B (.int (c:Int)),B (.ref gA),B (.str (e2 (q.on c))),B (.ref l),B (.int (qQ (r.next d e4)))]/\Tf.Cell r e4/\Tf.room r d e4<f/\bM++p9 r q (q.on c== .king) d f e4=Tf.way r q c d/\aw H H'/\H' l=B (.lst (dB bM)),⟨13,c,[],?_,a7,abm,?_,s1 l aq,(by rw[b0];rfl)⟩,λf aM H' abn=>?_⟩
 .rw[<-oh];rfl
 .rw[L7];rfl
 obtain⟨e4,bM,rfl,oH,_,nz,aE,iW⟩:=abn;obtain⟨f,rfl⟩:∃g,f=g+1:=⟨f-1,by omega⟩;have abo:(Tf.way r q c d).length<=13:=by rw[L7];exact Wv 13 c
 have abp:bM.length<=13:=by rw[<-nz,df]at abo;omega
 have fin:bM=Tf.way r q c d->Q (.ref l) H':=λz=>k l aq H' aE (by rw[<-z];exact iW);refine⟨_,Y,_,Y,_,Y,p,r,q,r.next d e4,Y,fN.same ⟨fX,ar⟩ aE,ax,λ_ aO=>(wy ax oH aO).1,_,Y,?_⟩;cases e:r.next d e4 with
 |none=>refine gz ⟨_,Y,fin ?_⟩;rw[R_ e,hN]at nz;exact nz
 |some n=>
  obtain⟨aH,_,_⟩:=wy ax oH e;rw[a4w ax e]at nz;show if r.free q n=a9 then _ else _
  cases hf:r.free q n with
  |false=>refine gz ⟨_,Y,fin ?_⟩;rw[hf,aZ Y,hN]at nz;exact nz
  |true=>
   rw[hf,aL (by decide)]at nz;refine hE ⟨λaM H'=>∃bM,aM=[B (.ref p),B (.str (dA (Tf.bd q))),B (.int (c:Int)),B (.ref gA),B (.str (e2 (q.on c))),B (.ref l),B (.int (qQ (r.next d n)))]/\bM++p9 r q (q.on c== .king) d f n=Tf.way r q c d/\aw H H'/\H' l=B (.lst (dB bM)),λ_ au ⟨zB,hC,g0,Fw,BK⟩=>⟨f,by omega,n,zB,hC,aH,by omega,g0,Fw,BK⟩,?_⟩;refine⟨_,Y,_,Y,_,Y,p,r,q.on c,n,Y,fN.same ⟨fX,ar⟩ aE,ax,aH,_,Y,gj (λO=>⟨_,Y,.inl ⟨Y,_,bp.of iW⟩,_,Y,l,_,_,Y,Y,iW,(by rw[dB,cW];exact lC abp (by decide)),?_⟩) λO=>?_⟩
   .have bU:∃zB:List Nat,aw H (av H' l (.lst (dB bM++[.int (n:Int)])))/\(av H' l (.lst (dB bM++[.int (n:Int)]))) l=B (.lst (dB zB))/\zB=bM++(if yL r (q.on c== .king) n=a9 then[n]else[]):=by
     refine⟨bM++[n],λb o z=>?_,?_,?_⟩
     .rw[aN (cU z aq)];exact aE b o z
     .rw[b0,dB,dB,fH];rfl
     rw[aZ O]
    revert bU;show _->nP _ _ _ _ (av H' l (.lst (dB bM++[.int (n:Int)])));generalize av H' l (.lst (dB bM++[.int (n:Int)]))=au;rintro⟨zB,eI,hc,jj⟩;refine⟨_,Y,_,Y,_,Y,p,r,q.on c,n,Y,fN.same ⟨fX,ar⟩ eI,ax,aH,_,Y,?_⟩;cases aI:yM r (q.on c== .king) n with|false=>refine hE ⟨_,rfl,k l aq au eI ?_⟩;rw[aI,aL (show¬(aJ=a9) by decide),hN,<-jj]at nz;rw[<-nz];exact hc|true=>rw[aI,aZ (show a9=a9 from Y),<-lA,<-jj]at nz;refine gz ⟨_,Y,_,Y,_,Y,p,r,n,gA,d,Y,fN.same ⟨fX,ar⟩ eI,ax,aH,hd,aw.M8 eI dp,?_⟩;exact⟨zB,Y,nz,eI,hc⟩
   have jj:bM=bM++(if yL r (q.on c== .king) n=a9 then[n]else[]):=by rw[aL O,hN]
   refine⟨_,Y,_,Y,_,Y,p,r,q.on c,n,Y,fN.same ⟨fX,ar⟩ aE,ax,aH,_,Y,?_⟩;cases aI:yM r (q.on c== .king) n with|false=>refine hE ⟨_,rfl,fin ?_⟩;rw[aI,aL (show¬(aJ=a9) by decide),hN,<-jj]at nz;exact nz|true=>rw[aI,aZ (show a9=a9 from Y),<-lA,<-jj]at nz;refine gz ⟨_,Y,_,Y,_,Y,p,r,n,gA,d,Y,fN.same ⟨fX,ar⟩ aE,ax,aH,hd,aw.M8 aE dp,?_⟩;exact⟨bM,Y,nz,aE,iW⟩
def GP(q:gp):List (a8×V):=[("board",.str (dA (Tf.bd q))),("turn",.int q.side)]
def ju(a:b5)(H:ak)(p:I)(q:gp):Prop:=∃a3,H p=B (.ins a.Position a3 (GP q))
theorem ju.same(h:ju a H p q)(s:aw H H'):ju a H' p q:=let⟨a3,z⟩:=h;⟨a3,s _ _ z⟩
theorem GQ(l:List Nat):dB l=(l.map λ(n:Nat)=>(n:Int)).map V.int:=by unfold dB;rw[ix];rfl
theorem GR(l m:List Nat):dB (l++m)=dB l++dB m:=by unfold dB;rw[fH]
theorem jv(l:List Nat):(dB l).length=l.length:=by unfold dB;rw[cW]
theorem MX(q:gp)(c:Nat):GN (q.on c) q.side=hS q c:=rfl
def abq(a:b5):bF:=λvs H Q _=>∃p r q cY c,vs=[.ref p,.ref cY,.int ((c:Nat):Int)]/\fN a H p r/\ju a H cY q/\dh r/\ea r q/\c<169/\∀l,H l=aa->∀H',aw H H'->H' l=B (.lst (dB (hT r q c)))->Q (.ref l) H'
variable{i:Nat}{bu:Type}
theorem MY(T:Txt K a6 a){x:V}(h:([.ref a.v3,.ref a.v5,.ref a.v7,.ref a.v8]:List V)[i]? =B x):i<4/\hy[i]? =B i/\∃gA,x=.ref gA/\∀H,dq K H gA (Co i):=by
 match i,h with
 |0,h=>cases h;exact⟨by decide,Y,_,Y,T.v3⟩
 |1,h=>cases h;exact⟨by decide,Y,_,Y,T.v5⟩
 |2,h=>cases h;exact⟨by decide,Y,_,Y,T.v7⟩
 |3,h=>cases h;exact⟨by decide,Y,_,Y,T.v8⟩
 |i+4,h=>simp at h
theorem take_snoc:∀{l:List bu}{i:Nat}{x:bu},l[i]? =B x->l.take (i+1)=l.take i++[x]:=fun{l i x} h=>by rw[tU,h];rfl
theorem GS{d:Nat}:(Tf.way r q c d).length<=13:=by rw[L7];exact Wv 13 c
theorem Ww(i:Nat):((hy.take i).flatMap (Tf.way r q c)).length<=52:=by
 have b9:=GS (r:=r) (q:=q) (c:=c) (d:=0);have O:=GS (r:=r) (q:=q) (c:=c) (d:=1);have a5:=GS (r:=r) (q:=q) (c:=c) (d:=2);have aG:=GS (r:=r) (q:=q) (c:=c) (d:=3);have e:∀i,((hy.take i).flatMap (Tf.way r q c)).length<=(hy.flatMap (Tf.way r q c)).length:=λi=>by
  conv=>rhs;rw[<-Ab i hy,A3,df]
  omega
 refine dC (e i) ?_;simp[hy];omega
theorem MZ(T:Txt K a6 a):dK P w K a6 base cj 4 "targets" ["rules","position","cell"] (abq a):=by
 refine T.targets.ok Mk (λf _ A _ s H _ Q E ah h=>?_);obtain⟨p,r,q,cY,c,rfl,d1,⟨_,ar⟩,ax,hw,a7,k⟩:=h;refine⟨_,aC (cx (i:=3) Mk.bh (fv az)) (aC (d3 (je (ct (MW T) ah.mono Y bw (ao (dV n8 (bg (J 1) Y) (J 2) (λ_ _=>rfl)) (ao (bg (J 1) Y) az)))) (aX (nR oz Y (Jj (l' T.lj.1 Y)) (g_ (i:=4) Mk.bh) (aX (e6 (pM oy Pf a0f K0 (J 3) (ao (ct (abl T) ah Y bw (ao (J 0) (ao (bg (J 1) Y) (ao (J 2) (ao (J 4) az))))) az)))))) d8) (aX (bG (fc QU Y T.Ws boot_sorted (ao (J 3) az))))),?_⟩;obtain⟨b1,Cs⟩:=GO (q:=q) a7;refine⟨ek _,λl aq=>?_⟩;have s1:aw H (av H l (.lst [])):=aw.new aq;have fin:∀(aM:L2.St)(H':ak)(found:List Nat),aw H H'->H' l=B (.lst (dB found))->found.length<64->found.Nodup->(∀x∈found,x<192)->(hT r q c=(eA 192).filter λt=>found.contains t)->aM[3]? =B (B (.ref l))->∃v,aM[3]? =B (B v)/\QT K [v] H' Q:=λaM H' found aE iW ES uB a0 aF aG=>by refine⟨_,aG,l,found.map λ(n:Nat)=>(n:Int),Y,bp.of (by rw[iW,GQ]),by rw[cW];exact ES,λlL fM M_ M' qR=>?_⟩;have b7:=Tf.sorted_ints M_ M' uB a0;refine k fM (aw.free aE qR) (av H' fM (.lst (lL.map V.int))) (aw.upd aE qR) ?_;rw[b0,b7,aF,GQ]
 refine⟨_,Y,cY,_,_,_,_,Y,s1 _ _ ar,T.jJ.1,T.qN,Y,_,Y,_,_,_,Y,Y,b1,Cs,_,Y,cY,_,_,_,_,Y,s1 _ _ ar,T.jJ.1,T.tl,Y,q.on c,q.side,?_,_,Y,?_⟩
 .rw[<-oh];rfl
 rw[MX];cases aU:hS q c with
 |false=>refine gz ?_;refine fin _ _ [] s1 b0 (by decide) ai1 (λx ag=>nomatch ag) ?_ Y;unfold hT;rw[aU,aL (by decide)];simp
 |true=>
  have nN:Tf.Cell r c:=K_ hw ax (RW aU) (by omega);obtain⟨abr,abt⟩:=RN (p:=q) ax nN;refine hE ⟨a.lj,Y,⟨_,T.lj.2 _⟩,Qi (K:=K) (a:=a.lj) (xs:=[.ref a.v3,.ref a.v5,.ref a.v7,.ref a.v8]) (λi aM H'=>∃v,aM=[B (.ref p),B (.ref cY),B (.int (c:Int)),B (.ref l),v]/\aw H H'/\H' l=B (.lst (dB ((hy.take i).flatMap (Tf.way r q c))))) ⟨aa,Y,s1,b0⟩ (λ_ _ H' _ _=>T.lj.2 H') (λi x aM H' hi bK=>?_) λaM H' bK=>?_⟩
  .obtain⟨v,rfl,aE,iW⟩:=bK;obtain⟨GU,oW,gA,rfl,tr⟩:=MY T hi;refine⟨_,Y,.inl ⟨Y,_,bp.of iW⟩,_,Y,_,Y,cY,_,_,_,_,Y,aE _ _ ar,T.jJ.1,T.qN,Y,_,Y,_,Y,p,r,q,c,gA,i,Y,d1.same aE,ax,nN,GU,tr _,λgx _ _ eI abu=>?_⟩;have eS:=Ww (r:=r) (q:=q) (c:=c) (i+1);rw[take_snoc oW,A3]at eS;refine⟨l,gx,_,_,Y,Y,eI _ _ iW,abu,?_,_,Y,λb o z=>?_,?_⟩
   .rw[jv,jv];simp at eS;exact dC (dC (by simp) eS) (by decide)
   .rw[aN (cU z aq)];exact eI _ _ (aE _ _ z)
   rw[b0,take_snoc oW,A3,GR];simp
  obtain⟨v,rfl,aE,iW⟩:=bK;refine fin _ _ _ aE iW (lC (Ww 4) (by decide)) ?_ ?_ ?_ Y
  .exact abr
  .intro x ag;have:=ax.lt (abt x ag).1;omega
  unfold hT;rw[aU,aZ Y];rfl
def ff(H:ak)(l:I)(cz:List (Nat×Nat)):Prop:=∃ts:List I,H l=B (.lst (ts.map V.ref))/\ts.length=cz.length/\∀(i:Nat)(t:I)(m:Nat×Nat),ts[i]? =B t->cz[i]? =B m->H t=B (.tup [.int (m.1:Int),.int (m.2:Int)])
def zD(r:eW)(q:gp):Bool:=(eA 169).any λc=>!(hT r q c).isEmpty
def oj(q:gp):List Nat:=(eA 169).filter (hS q)
def abv(a:b5):bF:=λvs H Q _=>∃q cY,vs=[.ref cY]/\ju a H cY q/\∀l,H l=aa->∀H',aw H H'->H' l=B (.lst (dB (oj q)))->Q (.ref l) H'
def abw(a:b5):bF:=λvs H Q _=>∃p r q cY,vs=[.ref p,.ref cY]/\fN a H p r/\ju a H cY q/\dh r/\ea r q/\∀H',aw H H'->Q (.c1 (zD r q)) H'
def abx(a:b5):bF:=λvs H Q _=>∃p r q cY cl c2,vs=[.ref p,.ref cY,.ref cl]/\fN a H p r/\ju a H cY q/\dh r/\ea r q/\H cl=B (.lst (dB c2))/\(∀c∈c2,c<169)/\c2.length<=169/\∀l,H l=aa->∀H',aw H H'->ff H' l (c2.flatMap λc=>(hT r q c).map λt=>(c,t))->Q (.ref l) H'
def aby(a:b5):bF:=λvs H Q _=>∃p r q cY,vs=[.ref p,.ref cY]/\fN a H p r/\ju a H cY q/\dh r/\ea r q/\∀l,H l=aa->∀H',aw H H'->ff H' l ((eA 169).flatMap λc=>(hT r q c).map λt=>(c,t))->Q (.ref l) H'
theorem N0(q:gp):(oj q).length<=169:=dC (vC ..) (by simp)
theorem GV(h:c∈oj q):c<169:=fR.mp (j7.mp h).1
theorem Wx(h:¬hS q c=a9):hT r q c=[]:=by unfold hT;rw[aL h]
theorem GW(r:eW)(q:gp):∀l:List Nat,((l.filter (hS q)).flatMap λc=>(hT r q c).map λt=>(c,t))=l.flatMap λc=>(hT r q c).map λt=>(c,t)
 |[]=>rfl
 |c::l=>by
  rw[qd,mO];by_cases h:hS q c=a9
  .rw[aZ h,mO,GW r q l]
  rw[aL h,Wx h,GW r q l];rfl
theorem Ct{l:List Nat}{x:V}(h:(dB l)[i]? =B x):∃t,l[i]? =B t/\x=.int (t:Int):=by unfold dB at h;rw[fP]at h;cases e:l[i]? with|none=>rw[e]at h;cases h|some t=>rw[e]at h;exact⟨t,Y,(gX h).symm⟩
theorem N1(T:Txt K a6 a):dK P w K a6 base cj 2 "own_cells" ["position"] (abv a):=by
 refine T.a9x.ok Mj (λf _ A _ s H _ Q E ah h=>?_);obtain⟨q,cY,rfl,⟨_,ar⟩,k⟩:=h;refine⟨_,aX (bG (sU (tt:=Em (mw Wu [] pQ (eL (pL QM (ji K (dr 0) "board") (dr 1)) (eL (ji K (dr 0) "turn") gc)))) Y Mj.bh (AI Y T.zy (ao (fc ER Y T.hU ia (ao (bg (J 0) Y) az)) az)) (o3 (own:=[("cell",1)]) Y) (λ_ _ _ _ _=>g_ (i:=1) Mj.bh) (λ_ _ _ _ _=>Kc (je (ct (MW T) ah Y bw (ao (dV n8 (bg (J 0) Y) (J 1) (λ_ _=>rfl)) (ao (bg (J 0) Y) az))))) (λ_ _ _ _ _=>J 1))),?_⟩;have eS:(dA (Tf.bd q)).length=169:=by rw[zz,km]
 refine⟨_,Y,cY,_,_,_,_,Y,ar,T.jJ.1,T.qN,Y,_,Y,zA _ (km q),((dA (Tf.bd q)).length:Int),Y,(by rw[eS];decide),(by rw[eS];decide),λaf d2=>?_⟩;rw[eS];refine Kp (lo:=0) (n:=169) (λj H'=>aw H H'/\H' af=B (.lst (dB ((eA j).filter (hS q))))) ⟨aw.new d2,b0⟩ (λj H' bX aR=>?_) λH' aR=>?_
 .obtain⟨aE,gN⟩:=aR;have kO:(0:Int)+(j:Int)=(j:Int):=by omega
  rw[kO];obtain⟨b1,Cs⟩:=GO (q:=q) bX;refine⟨Y,_,Y,cY,_,_,_,_,Y,aE _ _ ar,T.jJ.1,T.qN,Y,_,Y,_,_,_,Y,Y,b1,Cs,_,Y,cY,_,_,_,_,Y,aE _ _ ar,T.jJ.1,T.tl,Y,q.on j,q.side,?_,_,Y,?_⟩
  .rw[<-oh];rfl
  rw[MX];have st:(eA (j+1)).filter (hS q)=(eA j).filter (hS q)++(if hS q j=a9 then[j]else[]):=by rw[xG,A2,qd,I8]
  cases aU:hS q j with
  |false=>refine gz ⟨aE,?_⟩;rw[st,aU,gN];simp
  |true=>
   refine hE ⟨_,Y,_,gN,?_,λb o z=>?_,?_⟩
   .rw[jv];exact lC (dC (vC ..) (by simp;omega:_<=169)) (by decide)
   .rw[aN (cU z d2)];exact aE _ _ z
   rw[b0,st,aU,GR];rfl
 obtain⟨aE,gN⟩:=aR;exact k af d2 H' aE gN
theorem abz(T:Txt K a6 a):dK P w K a6 base cj 5 "can_move" ["rules","position"] (abw a):=by
 refine T.a9E.ok VU (λf _ A _ s H _ Q E ah h=>?_);obtain⟨p,r,q,cY,rfl,d1,ar,ax,hw,k⟩:=h;refine⟨_,aC (nR oz Y (nQ (ct (N1 T) ah.mono Y bw (ao (J 1) az))) (g_ (i:=2) VU.bh) (aX (d3 (c' rx (fc i' Y T.hU ia (ao (ct (MZ T) ah Y bw (ao (J 0) (ao (J 1) (ao (J 2) az)))) az)) cb (cq _)) (aX (bG qm)) d8))) (aX (bG qm)),_,Y,q,cY,Y,ar,λcl _ ai p' x7=>⟨cl,Y,⟨_,bp.of x7⟩,?_⟩⟩;refine yn (xs:=dB (oj q)) (λi aM H'=>∃v,aM=[B (.ref p),B (.ref cY),v]/\aw ai H'/\∀c∈(oj q).take i,hT r q c=[]) ⟨aa,Y,aw.refl ai,λc z=>nomatch z⟩ (λi aM H' _ bK=>?_) (λi x aM H' hi bK=>?_) λaM H' bK=>?_
 .obtain⟨v,rfl,aE,_⟩:=bK;exact bp.of (aE _ _ x7)
 .obtain⟨v,rfl,aE,aR⟩:=bK;obtain⟨c,a7,rfl⟩:=Ct hi;have GX:=GV (mQ a7);have eI:=p'.trans aE;refine⟨_,Y,_,Y,_,Y,p,r,q,cY,c,Y,d1.same eI,ar.same eI,ax,hw,GX,λl _ au fp hc=>?_⟩;refine⟨l,_,Y,.inl (bp.of hc),_,_,Y,Y,_,Y,gj (λO=>?_) λO=>?_⟩
  .have O:=e3 O;rw[jv]at O;have ne:hT r q c≠[]:=λz=>by rw[z]at O;exact absurd O (by decide)
   have c7:=k au (eI.trans fp);rw[show zD r q=a9 from A1.mpr ⟨c,fR.mpr GX,by simpa using ne⟩]at c7;exact c7
  refine⟨_,Y,aE.trans fp,λe4 oH=>?_⟩;rw[take_snoc a7]at oH;obtain z|z:=kv.mp oH
  .exact aR e4 z
  rw[jL.mp z];cases e:hT r q c with|nil=>rfl|cons x gb=>exfalso;refine O (eE ?_);rw[jv,e];show(0:Int)<((gb.length+1:Nat):Int);omega
 obtain⟨v,rfl,aE,aR⟩:=bK;have c7:=k H' (p'.trans aE);rw[jv,j8]at aR;rw[show zD r q=aJ from Zz.mpr λc a7=>by
  by_cases aU:hS q c=a9
  .rw[aR c (j7.mpr ⟨a7,aU⟩)];simp
  rw[Wx aU];simp]at c7
 exact c7
variable{cz:List (Nat×Nat)}
theorem ff.same{l:I}(h:ff H l cz)(s:aw H H'):ff H' l cz:=
 let⟨ts,a,b,c⟩:=h;⟨ts,s _ _ a,b,λi t m x y=>s _ _ (c i t m x y)⟩
theorem ff.nil{l:I}(h:H l=B (.lst [])):ff H l []:=⟨[],h,Y,λi t m x=>by simp at x⟩
theorem ff.list{l:I}(h:ff H l cz):∃xs,H l=B (.lst xs)/\xs.length=cz.length:=let⟨ts,a,b,_⟩:=h;⟨_,a,by rw[cW,b]⟩
theorem ff.cat{l b:I}{ns:List (Nat×Nat)}{zs:List V}(h:ff H l cz)(h':ff H b ns)(ex:H l=B (.lst xs))(N2:H b=B (.lst zs)):ff (av H l (.lst (xs++zs))) l (cz++ns):=by
 obtain⟨ts,et,eM,hH⟩:=h;obtain⟨us,b1,b2,lS⟩:=h';rw[ex]at et;cases et;rw[N2]at b1;cases b1;refine⟨ts++us,by rw[b0,fH],by simp[eM,b2],λi t m x y=>?_⟩;have key:H t=B (.tup [.int (m.1:Int),.int (m.2:Int)]):=by
  by_cases hi:i<ts.length
  .rw[kV hi]at x;rw[kV (by omega)]at y;exact hH i t m x y
  rw[pz (by omega)]at x;rw[pz (by omega)]at y;rw[<-eM]at y;exact lS _ t m x y
 rw[aN (J1 key ex (by intro z;cases z))];exact key
theorem ff.snoc{af lp:I}{m:Nat×Nat}(h:ff H af cz)(ex:H af=B (.lst xs))(ba:H lp=aa):(av H lp (.tup [.int (m.1:Int),.int (m.2:Int)])) af=B (.lst xs)/\ff (av (av H lp (.tup [.int (m.1:Int),.int (m.2:Int)])) af (.lst (xs++[.ref lp]))) af (cz++[m]):=by
 obtain⟨ts,et,eM,hH⟩:=h;rw[ex]at et;cases et;have GY:af≠lp:=cU ex ba;refine⟨by rw[aN GY];exact ex,ts++[lp],by rw[b0,fH];rfl,by simp[eM],λi t m' x y=>?_⟩;by_cases hi:i<ts.length
 .rw[kV hi]at x;rw[kV (by omega)]at y;have key:=hH i t m' x y;rw[aN (J1 key ex (by intro z;cases z)),aN (cU key ba)];exact key
 rw[pz (by omega)]at x;rw[pz (by omega)]at y;have aR:i-ts.length=0:=by cases z:i-ts.length with|zero=>rfl|succ j=>rw[z]at x;simp at x
 rw[aR]at x;have abA:i-cz.length=0:=by omega
 rw[abA]at y;cases x;cases y;rw[aN (λz=>GY z.symm),b0]
theorem N3(r:eW)(q:gp)(c:Nat):(hT r q c).length<=192:=by
 unfold hT;split
 .exact dC (vC ..) (by simp)
 simp
def tu(r:eW)(q:gp)(c2:List Nat):List (Nat×Nat):=c2.flatMap λc=>(hT r q c).map λt=>(c,t)
theorem abB(r:eW)(q:gp)(c2:List Nat)(n:Nat):tu r q (c2++[n])=tu r q c2++(hT r q n).map λt=>(n,t):=by unfold tu;rw[A3];simp
theorem Wy(r:eW)(q:gp):∀c2,(tu r q c2).length<=c2.length*192
 |[]=>by simp[tu]
 |c::c2=>by have:=Wy r q c2;have:=N3 r q c;unfold tu at this ⊢;rw[mO,df,cW,fQ];unfold tu at*;omega
theorem Wz(T:Txt K a6 a):dK P w K a6 base cj 5 "moves_from" ["rules","position","cells"] (abx a):=by
 refine T.a9C.ok BV (λf _ A _ s H _ Q E ah h=>?_);obtain⟨p,r,q,cY,cl,c2,rfl,d1,⟨zC,ar⟩,ax,hw,e_,KO,_,k⟩:=h;refine⟨_,aC (cx (i:=3) BV.bh (fv az)) (aC (nR oz Y (nQ (J 2)) (g_ (i:=4) BV.bh) (aX (e6 (pM oy Pf a0f K0 (J 3) (ao (sU Y BV.bh (nQ (ct (MZ T) ah Y bw (ao (J 0) (ao (J 1) (ao (J 4) az))))) (o3 (own:=[("y",5)]) Y) (λ_ _ _ _ _=>g_ (i:=5) BV.bh) (λ_ _ _ _ _=>qu) (λ_ _ _ _ _=>sF (ao (J 4) (ao (J 5) az)))) az))))) (aX (bG (J 3)))),ek _,λl aq=>?_⟩;have s1:aw H (av H l (.lst [])):=aw.new aq;have aki:cl≠l:=cU e_ aq;refine⟨_,Y,cl,Y,⟨_,bp.of (s1 _ _ e_)⟩,yn (xs:=dB c2) (λi aM H'=>∃v,aM=[B (.ref p),B (.ref cY),B (.ref cl),B (.ref l),v,aa]/\aw H H'/\ff H' l (tu r q (c2.take i))) ⟨aa,Y,s1,ff.nil b0⟩ (λi aM H' _ bK=>?_) (λi x aM H' hi bK=>?_) λaM H' bK=>?_⟩
 .obtain⟨v,rfl,aE,_⟩:=bK;exact bp.of (aE _ _ e_)
 .obtain⟨v,rfl,aE,vc⟩:=bK;obtain⟨c,a7,rfl⟩:=Ct hi;have GX:=KO c (mQ a7);obtain⟨xs,lW,hv⟩:=vc.list;refine⟨_,Y,.inl ⟨Y,_,bp.of lW⟩,_,Y,_,Y,_,Y,p,r,q,cY,c,Y,d1.same aE,⟨zC,aE _ _ ar⟩,ax,hw,GX,λlt _ au eI wU=>?_⟩;refine⟨lt,Y,⟨_,bp.of wU⟩,λaf d2=>?_⟩;have kP:aw au (av au af (.lst [])):=aw.new d2;refine ux (K:=K) (a:=lt) (xs:=dB (hT r q c)) (λj bc=>aw au bc/\ff bc af (((hT r q c).take j).map λt=>(c,t))) ⟨kP,ff.nil b0⟩ (λj bc _ z=>bp.of (z.1 _ _ wU)) (λj x bc bX aR=>?_) λbc aR=>?_
  .obtain⟨fp,zE⟩:=aR;obtain⟨t,ba,rfl⟩:=Ct bX;obtain⟨ys,rL,wQ⟩:=zE.list;refine⟨Y,_,Y,_,Y,nL,λ_ kN=>?_⟩;obtain⟨bx,cw⟩:=zE.snoc (m:=(c,t)) rL kN;refine⟨ys,bx,?_,λb o z=>?_,?_⟩
   .rw[wQ,cW];have:=N3 r q c;have:((hT r q c).take j).length<=192:=by rw[k9];omega
    exact lC this (by decide)
   .rw[aN (cU z d2),aN (cU (fp _ _ z) kN)];exact fp _ _ z
   rw[take_snoc ba,fH];exact cw
  obtain⟨fp,zE⟩:=aR;rw[jv,j8]at zE;obtain⟨_,hC,g0⟩:=zE.list;have WA:=fp _ _ (eI _ _ lW);have abC:=(vc.same eI).same fp;refine⟨l,af,_,_,Y,Y,WA,hC,?_,_,Y,λb o z=>?_,?_⟩
  .rw[hv,g0,cW];have O:=Wy r q (c2.take i);have a5:=N3 r q c;have aG:(c2.take i).length<=169:=by rw[k9];omega
   have:(c2.take i).length*192<=169*192:=Nat.mul_le_mul_right _ aG;exact dC (show(tu r q (c2.take i)).length+(hT r q c).length<=40000 by omega) (by decide)
  .rw[aN (cU z aq)];exact fp _ _ (eI _ _ (aE _ _ z))
  rw[take_snoc a7,abB];exact abC.cat zE WA hC
 obtain⟨v,rfl,aE,vc⟩:=bK;rw[jv,j8]at vc;exact⟨_,Y,k l aq H' aE vc⟩
theorem abD(T:Txt K a6 a):dK P w K a6 base cj 6 "list_of_moves" ["rules","position"] (aby a):=by refine T.a9D.ok a8o (λf _ A _ s H _ Q E ah h=>?_);obtain⟨p,r,q,cY,rfl,d1,ar,ax,hw,k⟩:=h;refine⟨_,aX (bG (ct (Wz T) ah Y bw (ao (J 0) (ao (J 1) (ao (ct (N1 T) ah.mono Y bw (ao (J 1) az)) az))))),_,Y,_,Y,_,Y,q,cY,Y,ar,λcl _ _ s1 x7=>⟨p,r,q,cY,cl,oj q,Y,d1.same s1,ar.same s1,ax,hw,x7,λc a7=>GV a7,N0 q,λl aq au s2 l8=>k l (s1.free aq) au (s1.trans s2) ?_⟩⟩;unfold oj at l8;rw[GW]at l8;exact l8
def qS(q:gp):List V:=(Tf.bd q).map λ(c:Nat)=>V.str ⟨#[c]⟩
theorem x8(q:gp)(h:c<169):hb (qS q) (c:Int)=B (.str (e2 (q.on c))):=by refine gr ?_;unfold qS;rw[fP,qC q h,<-oh];rfl
theorem abE(q:gp):(qS q).length=169:=by unfold qS;rw[cW,km]
def abF(a:b5):bF:=λvs H Q _=>∃p r x y,vs=[.ref p,.str (e2 x),.str (e2 y)]/\fN a H p r/\Q (.c1 (r.helps (x != .hunter) y)) H
def abG(a:b5):bF:=λvs H Q _=>∃p r cl q x c,vs=[.ref p,.ref cl,.str (e2 x),.int ((c:Nat):Int)]/\fN a H p r/\h3 r/\H cl=B (.lst (qS q))/\Tf.Cell r c/\Q (.c1 (r.against q (x != .hunter) c)) H
def abH(a:b5):bF:=λvs H Q _=>∃p r cl q x n,vs=[.ref p,.ref cl,.str (e2 x),.int (qQ n)]/\fN a H p r/\h3 r/\H cl=B (.lst (qS q))/\(∀c,n=B c->Tf.Cell r c)/\Q (.c1 (Tf.heldBy r q (x != .hunter) n)) H
def abI(a:b5):bF:=λvs H Q _=>∃p r cl q c,vs=[.ref p,.ref cl,.int ((c:Nat):Int)]/\fN a H p r/\h3 r/\H cl=B (.lst (qS q))/\Tf.Cell r c/\∀H',aw H H'->Q (.c1 (hy.all λe=>Tf.heldBy r q a9 (r.next e c))) H'
def abJ(K:bj)(a:b5):bF:=λvs H Q _=>∃p r cl q c gA d,vs=[.ref p,.ref cl,.int ((c:Nat):Int),.ref gA]/\fN a H p r/\h3 r/\H cl=B (.lst (qS q))/\Tf.Cell r c/\d<4/\(∀H',dq K H' gA (Co d))/\∀H',aw H H'->Q (.c1 (pV r q d c)) H'
theorem abK(T:Txt K a6 a):dK P w K a6 base cj 1 "helps_against" ["rules","piece","helper"] (abF a):=by
 refine T.a9G.ok a8p (λf _ A _ s H _ Q E _ h=>?_);obtain⟨p,r,x,y,rfl,⟨_,ar⟩,k⟩:=h;refine⟨_,aC (d3 (c' nW (J 1) (eU T.Cj Y) (cq _)) (aX (bG (gG dz (J 2) (eU T.Cj Y) (cq _)))) d8) (aX (bG (oK (gG dz (J 2) (eU T.Wl Y) (cq _)) (pJ (Ep (gG dz (J 2) (eU T.p_ Y) (cq _)) (pJ (gG dz (bg (J 0) Y) cb (cq _)))))))),?_⟩;unfold alW at k;refine⟨_,Y,Y,_,Y,gj (λO=>?_) λO=>?_⟩
 .have O:(!decide (V.str (e2 x)=V.str (e2 .hunter)))=a9:=O;rw[k1]at O;have O:(x != .hunter)=a9:=O;rw[aZ O,<-k1 y .hunter]at k;exact⟨_,Y,Y,k⟩
 have O:¬(!decide (V.str (e2 x)=V.str (e2 .hunter)))=a9:=O;rw[k1]at O;have O:¬(x != .hunter)=a9:=O;rw[aL O,<-k1 y .man,<-k1 y .king,<-Cr r.armed]at k;refine⟨_,Y,Y,_,Y,gj (λa5=>?_) λa5=>?_⟩
 .rw[show decide (V.str (e2 y)=V.str (e2 .man))=a9 from a5]at k;exact k
 rw[show decide (V.str (e2 y)=V.str (e2 .man))=aJ from nK a5]at k;refine⟨_,Y,Y,_,Y,gj (λaG=>?_) λaG=>?_⟩
 .rw[show decide (V.str (e2 y)=V.str (e2 .king))=a9 from aG]at k;exact⟨_,Y,p,_,_,_,_,Y,ar,T.dk.1,T.Cm,Y,Y,k⟩
 rw[show decide (V.str (e2 y)=V.str (e2 .king))=aJ from nK aG]at k;exact k
theorem abL{e:Nat}(h:e<4)(men:Bool):decide ((0:Int)<a0a (e:Int) (if men=a9 then 2 else 1))=ajS e men:=by
 have:e=0∨e=1∨e=2∨e=3:=by omega
 rcases this with rfl|rfl|rfl|rfl<;>cases men<;>decide+kernel
theorem abM(T:Txt K a6 a):dK P w K a6 base cj 1 "is_against" ["rules","board","piece","cell"] (abG a):=by
 refine T.a9F.ok BW (λf _ A _ s H _ Q E _ h=>?_);obtain⟨p,r,cl,q,x,c,rfl,⟨_,ar⟩,aY,e_,a7,k⟩:=h;refine⟨_,aC (cx (i:=4) BW.bh cb) (aC (d3 (jc.pt (nO (c' dz (dV n8 (bg (J 0) Y) (J 3) (λ_ _=>rfl)) (eU T.Gw Y) (cq _)) (pI (c' dz (dV hD (J 1) (J 3) (λ_ _=>rfl)) (eU T.zt Y) (cq _))))) (aX (cx (i:=4) BW.bh (bg (J 0) Y))) d8) (aC (d3 (c' dz (dV n8 (bg (J 0) Y) (J 3) (λ_ _=>rfl)) (eU T.Ci Y) (cq _)) (aX (cx (i:=4) BW.bh (bg (J 0) Y))) d8) (aC (cx (i:=5) BW.bh (Q8 (c' dz (J 2) (eU T.Cj Y) (cq _)) (cK T.a97 Y) (cK T.a98 Y))) (aX (bG (gG rx (da a1R (J 4) (J 5)) cb (cq _))))))),?_⟩;obtain⟨jr,g2⟩:=Cq aY.b_ a7;have fin:∀(e:Nat),e<4->r.against q (x != .hunter) c=ajS e (x != .hunter)->nP (oP (Q7 (AP (pL Ju (dr 2) (iB (.str "h")))) (iB (.int 1)) (iB (.int 2))) (mr 5)) (oM (pL (mu λi j=>.c1 (decide (j<i))) (pL (mu λi j=>.int (a0a i j)) (dr 4) (dr 5)) (iB (.int 0)))) {c6:=λ_ H'=>Q .bS H',ic:=Q}
   [B (.ref p),B (.ref cl),B (.str (e2 x)),B (.int (c:Int)),B (.int (e:Int)),aa] H:=λe aF bf=>by
  rw[bf,<-abL aF]at k;refine⟨_,Y,Y,_,Y,gj (λO=>?_) λO=>?_⟩
  .have O:decide (V.str (e2 x)=V.str (e2 .hunter))=a9:=O;rw[k1]at O;have O:(x != .hunter)=aJ:=by show(!(x== .hunter))=aJ;rw[O];rfl
   rw[O,aL (show¬(aJ=a9) by decide)]at k;exact⟨_,Y,_,Y,_,_,Y,Y,_,_,Y,Y,k⟩
  have O:¬decide (V.str (e2 x)=V.str (e2 .hunter))=a9:=O;rw[k1]at O;have O:(x != .hunter)=a9:=by show(!(x== .hunter))=a9;rw[nK O];rfl
  rw[O,aZ (show a9=a9 from Y)]at k;exact⟨_,Y,_,Y,_,_,Y,Y,_,_,Y,Y,k⟩
 have Cu:∀(ps:E5),decide (V.str ⟨#[Tf.eh (r.kindAt c)]⟩=V.str (og ps))=(r.kindAt c==ps):=λps=>by rw[v9,va]
 refine⟨_,Y,p,_,_,_,_,Y,ar,T.dk.1,T.oe,Y,_,Y,_,_,_,Y,Y,jr,g2,Y,_,Y,gj (λO=>?_) λO=>?_⟩
 .have O:decide (V.str ⟨#[Tf.eh (r.kindAt c)]⟩=V.str (og .seat))=a9:=O;rw[Cu]at O;have aA:=eq_of_beq O;have WB:¬decide (V.str ⟨#[Tf.eh (r.kindAt c)]⟩=V.str (og .exit))=a9:=by rw[Cu,aA];decide
  refine⟨_,Y,_,Y,cl,_,_,_,Y,Y,bp.of e_,x8 q (aY.b_.lt a7),Y,_,Y,gj (λa5=>?_) λa5=>?_⟩
  .have a5:decide (V.str (e2 (q.on c))=V.str (e2 .none))=a9:=a5;rw[k1]at a5;refine⟨_,Y,p,_,_,_,_,Y,ar,T.dk.1,T.Gy,Y,_,Y,p,_,_,_,_,Y,ar,T.dk.1,T.oe,Y,_,Y,_,_,_,Y,Y,jr,g2,Y,_,Y,gj (λaG=>absurd aG WB) λaG=>?_⟩;refine fin r.seat aY.s4 ?_;unfold PH;rw[aA];dsimp only;rw[a5,Dx]
  have a5:¬decide (V.str (e2 (q.on c))=V.str (e2 .none))=a9:=a5;rw[k1]at a5;refine⟨_,Y,p,_,_,_,_,Y,ar,T.dk.1,T.oe,Y,_,Y,_,_,_,Y,Y,jr,g2,Y,_,Y,gj (λaG=>absurd aG WB) λaG=>?_⟩;refine fin 0 (by decide) ?_;unfold PH;rw[aA];dsimp only;rw[nK a5,I2];cases(x !=a12)<;>rfl
 have O:¬decide (V.str ⟨#[Tf.eh (r.kindAt c)]⟩=V.str (og .seat))=a9:=O;rw[Cu]at O;refine⟨_,Y,p,_,_,_,_,Y,ar,T.dk.1,T.oe,Y,_,Y,_,_,_,Y,Y,jr,g2,Y,_,Y,gj (λaG=>?_) λaG=>?_⟩
 .have aG:decide (V.str ⟨#[Tf.eh (r.kindAt c)]⟩=V.str (og .exit))=a9:=aG;rw[Cu]at aG;refine⟨_,Y,p,_,_,_,_,Y,ar,T.dk.1,T.MM,Y,?_⟩;refine fin r.exits aY.mx ?_;unfold PH;rw[eq_of_beq aG]
 have aG:¬decide (V.str ⟨#[Tf.eh (r.kindAt c)]⟩=V.str (og .exit))=a9:=aG;rw[Cu]at aG;refine fin 0 (by decide) ?_;unfold PH;cases aA:r.kindAt c with|seat=>rw[aA]at O;exact absurd Y O|exit=>rw[aA]at aG;exact absurd Y aG|plain=>cases(x !=a12)<;>rfl|wall=>cases(x !=a12)<;>rfl
theorem WC(T:Txt K a6 a):dK P w K a6 base cj 2 "is_held" ["rules","board","piece","cell"] (abH a):=by
 refine T.a9H.ok a8q (λf _ A _ s H _ Q E ah h=>?_);obtain⟨p,r,cl,q,x,n,rfl,d1,aY,e_,aH,k⟩:=h;refine⟨_,aC (d3 (c' dz (J 3) (cK T.Cf Y) (cq _)) (aX (bG qm)) d8) (aX (bG (oK (ct (abK T) ah Y bw (ao (J 0) (ao (J 2) (ao (dV hD (J 1) (J 3) (λ_ _=>rfl)) az)))) (pJ (ct (abM T) ah Y bw (ao (J 0) (ao (J 1) (ao (J 2) (ao (J 3) az))))))))),_,Y,Y,_,Y,gj (λO=>?_) λO=>?_⟩
 .cases n with|none=>exact k|some c=>exfalso;have z:=V.int.inj (e3 O);have z:((c:Nat):Int)= -1:=z;omega
 cases n with
 |none=>exact absurd Y O
 |some c=>have a7:=aH c Y;refine⟨_,Y,_,Y,_,Y,_,Y,cl,_,_,_,Y,Y,bp.of e_,x8 q (aY.b_.lt a7),p,r,x,q.on c,Y,d1,_,Y,?_⟩;have k:Q (.c1 (r.helps (x != .hunter) (q.on c)||r.against q (x != .hunter) c)) H:=k;cases bU:r.helps (x != .hunter) (q.on c)with|true=>rw[bU]at k;exact k|false=>rw[bU,Dw]at k;exact⟨_,Y,_,Y,_,Y,_,Y,p,r,cl,q,x,c,Y,d1,aY,e_,a7,k⟩
def abN(a:b5):bF:=λvs H Q _=>∃p r cl q c t,vs=[.ref p,.ref cl,.int ((c:Nat):Int),.int ((t:Nat):Int)]/\fN a H p r/\h3 r/\H cl=B (.lst (qS q))/\Tf.Cell r c/\t<=1/\q.side=1-t/\∀l,H l=aa->∀H',aw H H'->H' l=B (.lst (dB ((eA 192).filter λx=>(Tf.found r q c).contains x)))->Q (.ref l) H'
theorem GZ(s:dh r){d:Nat}(a7:Tf.Cell r c):∀n,r.next d c=B n->Tf.Cell r n:=λn e=>(wy s a7 e).1
theorem abO(T:Txt K a6 a):dK P w K a6 base cj 3 "is_surrounded" ["rules","board","cell"] (abI a):=by
 refine T.a9I.ok Ml (λf _ A _ s H _ Q E ah h=>?_);obtain⟨p,r,cl,q,c,rfl,d1,aY,e_,a7,k⟩:=h;refine⟨_,aX (bG (fc (a2Z Y) Y T.ab4 boot_all (ao (sU Y Ml.bh (Jj (l' T.lj.1 Y)) (o3 (own:=[("direction",3)]) Y) (λ_ _ _ _ _=>g_ (i:=3) Ml.bh) (λ_ _ _ _ _=>qu) (λ_ _ _ _ _=>ct (WC T) ah Y bw (ao (J 0) (ao (J 1) (ao (eU T.p_ Y) (ao (ct (Cp T) ah Y bw (ao (J 0) (ao (J 2) (ao (J 3) az)))) az)))))) az))),a.lj,Y,⟨_,T.lj.2 _⟩,λaf d2=>?_⟩;refine a3g (K:=K) (a:=a.lj) (xs:=[.ref a.v3,.ref a.v5,.ref a.v7,.ref a.v8]) (λj H'=>aw H H'/\H' af=B (.lst (((hy.take j).map λd=>Tf.heldBy r q a9 (r.next d c)).map V.c1))) ⟨aw.new d2,b0⟩ (λ_ H' _ _=>T.lj.2 H') (λj x H' bX aR=>?_) λH' aR=>?_
 .obtain⟨aE,gN⟩:=aR;obtain⟨abP,N4,gA,rfl,tr⟩:=MY T bX;refine⟨Y,_,Y,_,Y,_,Y,_,Y,_,Y,p,r,c,gA,j,Y,d1.same aE,aY.b_,a7,abP,tr _,p,r,cl,q,.king,r.next j c,Y,d1.same aE,aY,aE _ _ e_,GZ aY.b_ a7,_,gN,?_,λb o z=>?_,?_⟩
  .rw[cW,cW,k9];exact lC (DH _ _) (by decide)
  .rw[aN (cU z d2)];exact aE _ _ z
  rw[b0,take_snoc N4,fH,fH];rfl
 obtain⟨aE,gN⟩:=aR;refine⟨af,_,Y,bp.of gN,?_⟩;have e:((hy.take 4).map λd=>Tf.heldBy r q a9 (r.next d c)).all id=hy.all λe=>Tf.heldBy r q a9 (r.next e c):=by rw[Zy];rfl
 have c7:=k H' aE;rw[<-e]at c7;exact c7
theorem abQ(T:Txt K a6 a):dK P w K a6 base cj 4 "is_taken" ["rules","board","cell","direction"] (abJ K a):=by
 refine T.a9J.ok VV (λf _ A _ s H _ Q E ah h=>?_);obtain⟨p,r,cl,q,c,gA,d,rfl,⟨fX,ar⟩,aY,e_,a7,hd,tr,k⟩:=h;refine⟨_,aC (cx (i:=4) VV.bh (dV hD (J 1) (J 2) (λ_ _=>rfl))) (aC (d3 (jc.pt (nO (c' dz (J 4) (eU T.p_ Y) (cq _)) (pI (c' dz (bg (J 0) Y) cb (cq _))))) (aX (bG (ct (abO T) ah Y bw (ao (J 0) (ao (J 1) (ao (J 2) az)))))) d8) (aX (bG (ct (WC T) ah.mono Y bw (ao (J 0) (ao (J 1) (ao (J 4) (ao (ct (Cp T) ah.mono Y bw (ao (J 0) (ao (J 2) (ao (J 3) az)))) az)))))))),?_⟩;have d1:fN a H p r:=⟨fX,ar⟩;unfold pV at k;refine⟨_,Y,_,Y,cl,_,_,_,Y,Y,bp.of e_,x8 q (aY.b_.lt a7),_,Y,Y,_,Y,gj (λO=>?_) λO=>?_⟩
 .have O:decide (V.str (e2 (q.on c))=V.str (e2 .king))=a9:=O;rw[k1]at O;refine⟨_,Y,p,_,_,_,_,Y,ar,T.dk.1,T.ML,Y,Y,_,Y,gj (λa5=>?_) λa5=>?_⟩
  .have a5:decide (V.int (b2 r.four)=V.int 1)=a9:=a5;rw[Cr]at a5;have k:∀H',aw H H'->Q (.c1 (hy.all λe=>Tf.heldBy r q a9 (r.next e c))) H':=λH' aE=>by have z:=k H' aE;rw[aZ ⟨eq_of_beq O,a5⟩]at z;exact z
   refine⟨_,Y,_,Y,_,Y,p,r,cl,q,c,Y,d1,aY,e_,a7,λH' aE=>k H' aE⟩
  have a5:¬decide (V.int (b2 r.four)=V.int 1)=a9:=a5;rw[Cr]at a5;have k:∀H',aw H H'->Q (.c1 (Tf.heldBy r q (q.on c != .hunter) (r.next d c))) H':=λH' aE=>by have z:=k H' aE;rw[aL (λz=>a5 z.2)]at z;exact z
  refine⟨_,Y,_,Y,_,Y,_,Y,_,Y,_,Y,p,r,c,gA,d,Y,d1,aY.b_,a7,hd,tr H,p,r,cl,q,q.on c,r.next d c,Y,d1,aY,e_,GZ aY.b_ a7,k H (aw.refl H)⟩
 have O:¬decide (V.str (e2 (q.on c))=V.str (e2 .king))=a9:=O;rw[k1]at O;have k:∀H',aw H H'->Q (.c1 (Tf.heldBy r q (q.on c != .hunter) (r.next d c))) H':=λH' aE=>by have z:=k H' aE;rw[aL (λz=>O (by rw[z.1];rfl))]at z;exact z
 refine⟨_,Y,_,Y,_,Y,_,Y,_,Y,_,Y,p,r,c,gA,d,Y,d1,aY.b_,a7,hd,tr H,p,r,cl,q,q.on c,r.next d c,Y,d1,aY,e_,GZ aY.b_ a7,k H (aw.refl H)⟩
theorem eJ{c A gi:Prop}[Decidable c](h:c)(k:A):if c then A else gi:=by rw[aZ h];exact k
theorem e7{c A gi:Prop}[Decidable c](h:¬c)(k:gi):if c then A else gi:=by rw[aL h];exact k
theorem d6{c A gi:Prop}[Decidable c](k:gi)(h:¬c:=by decide):if c then A else gi:=e7 h k
theorem i6{c A gi:Prop}[Decidable c](k:A)(h:c:=by decide):if c then A else gi:=eJ h k
theorem abR{b:Bool}{U L:Prop}(h:L)(bz:b=a9->L->U):if b=a9 then U else L:=by
 cases b
 .exact gz h
 exact hE (bz Y h)
theorem abS(T:Txt K a6 a):dK P w K a6 base cj 5 "taken_cells" ["rules","board","cell","turn"] (abN a):=by
 refine T.a9K.ok Gp (λf _ A _ s H _ Q E ah h=>?_);obtain⟨p,r,cl,q,c,t,rfl,⟨fX,ar⟩,aY,e_,a7,_,p8,k⟩:=h;refine⟨_,aC (cx (i:=4) Gp.bh (fv az)) (aC (d3 (jc.pt (nO (c' dz (dV hD (J 1) (J 2) (λ_ _=>rfl)) (eU T.p_ Y) (cq _)) (pI (c' dz (bg (J 0) Y) cb (cq _))))) (aX (bG (J 4))) d8) (aC (nR oz Y (Jj (l' T.lj.1 Y)) (g_ (i:=5) Gp.bh) (aC (cx (i:=6) Gp.bh (ct (Cp T) ah.mono Y bw (ao (J 0) (ao (J 2) (ao (J 5) az))))) (aX (d3 (jc.pt (nO (c' nW (J 6) (cK T.Cf Y) (cq _)) (nO (je (ct (MW T) ah.mono Y bw (ao (dV hD (J 1) (J 6) (λ_ _=>rfl)) (ao (da nU cb (J 3)) az)))) (pI (je (ct (abQ T) ah Y bw (ao (J 0) (ao (J 1) (ao (J 6) (ao (J 5) az)))))))))) (aX (e6 (pM oy tV vI sO (J 4) (ao (J 6) az)))) d8)))) (aX (bG (fc QU Y T.Ws boot_sorted (ao (J 4) az)))))),?_⟩;have d1:fN a H p r:=⟨fX,ar⟩;obtain⟨WD,WE⟩:=L5 (q:=q) aY.b_ a7;refine⟨ek _,λl aq=>?_⟩;have s1:aw H (av H l (.lst [])):=aw.new aq;have WG:=aY.b_.lt a7;by_cases ip:q.on c=.king/\r.armed=aJ
 .refine⟨_,Y,_,Y,cl,_,_,_,Y,Y,bp.of (s1 _ _ e_),x8 q WG,Y,_,Y,eJ (show decide (V.str (e2 (q.on c))=V.str (e2 .king))=a9 by rw[k1,ip.1];rfl) ?_⟩;refine⟨_,Y,p,_,_,_,_,Y,s1 _ _ ar,T.dk.1,T.Cm,Y,Y,_,Y,eJ (show decide (V.int (b2 r.armed)=V.int 0)=a9 by rw[ip.2];decide) ?_⟩;refine⟨_,Y,k l aq _ s1 ?_⟩;rw[b0,show Tf.found r q c=[]from aZ ip];simp[dB]
 refine⟨_,Y,_,Y,cl,_,_,_,Y,Y,bp.of (s1 _ _ e_),x8 q WG,Y,_,Y,abR ?_ λO dg=>?_⟩
 rotate_left
 .have O:decide (V.str (e2 (q.on c))=V.str (e2 .king))=a9:=O;rw[k1]at O;refine⟨_,Y,p,_,_,_,_,Y,s1 _ _ ar,T.dk.1,T.Cm,Y,Y,_,Y,e7 (show¬decide (V.int (b2 r.armed)=V.int 0)=a9 from ?_) dg⟩;cases bf:r.armed with|true=>decide|false=>exact absurd ⟨eq_of_beq O,bf⟩ ip
 have kp:Tf.found r q c=hy.filterMap (kk r q c):=aL ip;rw[kp]at k WD WE;refine⟨a.lj,Y,⟨_,T.lj.2 _⟩,Qi (K:=K) (a:=a.lj) (xs:=[.ref a.v3,.ref a.v5,.ref a.v7,.ref a.v8]) (λi aM H'=>∃fy hV,aM=[B (.ref p),B (.ref cl),B (.int (c:Int)),B (.int (t:Int)),B (.ref l),fy,hV]/\aw H H'/\H' l=B (.lst (dB ((hy.take i).filterMap (kk r q c))))) ⟨aa,aa,Y,s1,b0⟩ (λ_ _ H' _ _=>T.lj.2 H') (λi x aM H' hi bK=>?_) λaM H' bK=>?_⟩
 .obtain⟨fy,hV,rfl,aE,iW⟩:=bK;obtain⟨GU,oW,gA,rfl,tr⟩:=MY T hi;have abT:∀j,((hy.take j).filterMap (kk r q c)).length<=4:=λj=>dC (O' ..) (by rw[k9];exact DH _ _);have WH:(hy.take (i+1)).filterMap (kk r q c)=(hy.take i).filterMap (kk r q c)++(kk r q c i).toList:=by rw[take_snoc oW,ahR,vA,ahS];cases kk r q c i<;>rfl
  refine⟨_,Y,_,Y,_,Y,p,r,c,gA,i,Y,d1.same aE,aY.b_,a7,GU,tr _,?_⟩;have none_:kk r q c i=aa->∀au,aw H' au->∃fy hV,([B (.ref p),B (.ref cl),B (.int (c:Int)),B (.int (t:Int)),B (.ref l),B (.ref gA),B (.int (qQ (r.next i c)))]:L2.St)=[B (.ref p),B (.ref cl),B (.int (c:Int)),B (.int (t:Int)),B (.ref l),fy,hV]/\aw H au/\au l=B (.lst (dB ((hy.take (i+1)).filterMap (kk r q c)))):=λz au eI=>⟨_,_,Y,aE.trans eI,by rw[WH,z];simp;exact eI _ _ iW⟩;refine⟨_,Y,Y,_,Y,?_⟩;cases e:r.next i c with
  |none=>rw[e]at none_;refine d6 (none_ ?_ H' (aw.refl _));unfold kk;rw[e]
  |some n=>
   rw[e]at none_;have aH:=GZ aY.b_ a7 n e;have yK:(!decide (V.int (qQ (B n))=V.int (-1)))=a9:=by
    have:¬V.int (qQ (B n))=V.int (-1):=λz=>by have z:=V.int.inj z;have z:((n:Nat):Int)= -1:=z;omega
    rw[gP this];rfl
   refine eJ yK ?_;refine⟨_,Y,_,Y,cl,_,_,_,Y,Y,bp.of (aE _ _ e_),x8 q (aY.b_.lt aH),_,Y,_,_,Y,Y,q.on n,q.side,?_,_,Y,?_⟩
   .rw[p8];show[V.str (e2 (q.on n)),V.int (1-(t:Int))]=_;rw[show(1:Int)-(t:Int)=((1-t:Nat):Int) by omega]
   rw[MX];cases aU:hS q n with
   |false=>refine gz (none_ ?_ H' (aw.refl _));unfold kk;rw[e];dsimp only;rw[aL (λz=>by rw[aU]at z;exact absurd z.1 (by decide))]
   |true=>
    refine hE ?_;refine⟨_,Y,_,Y,_,Y,_,Y,p,r,cl,q,n,gA,i,Y,d1.same aE,aY,aE _ _ e_,aH,GU,tr,λau eI=>⟨_,Y,?_⟩⟩;cases WI:pV r q i n with
    |false=>refine none_ ?_ au eI;unfold kk;rw[e];dsimp only;rw[aL (λz=>by rw[WI]at z;exact absurd z.2 (by decide))]
    |true=>
     have abU:kk r q c i=B n:=by unfold kk;rw[e];dsimp only;rw[aZ ⟨aU,WI⟩]
     refine⟨_,Y,.inl ⟨Y,_,bp.of (eI _ _ iW)⟩,_,Y,l,_,_,Y,Y,eI _ _ iW,(by rw[jv];exact lC (abT i) (by decide)),_,_,Y,λb o z=>?_,?_⟩
     .rw[aN (cU z aq)];exact eI _ _ (aE _ _ z)
     rw[b0,WH,abU,GR];rfl
 obtain⟨fy,hV,rfl,aE,iW⟩:=bK;refine⟨_,Y,l,(hy.filterMap (kk r q c)).map λ(n:Nat)=>(n:Int),Y,bp.of (by rw[<-GQ];exact iW),?_,λ_ fM M_ M' qR=>?_⟩
 .rw[cW];exact lC (O' ..) (by decide)
 have b7:=Tf.sorted_ints M_ M' WD (λx ag=>by have:=aY.b_.lt (WE x ag).1;omega);refine k fM (aw.free aE qR) _ (aw.upd aE qR) ?_;rw[b0,b7,GQ]
theorem abV(l:List Nat)(c:Nat):(∀i:Nat,l[i]? =B c->(∀j:Nat,j<i->l[j]?≠B c)->DP (dA l) ⟨#[c]⟩=(i:Int))/\((∀j:Nat,l[j]?≠B c)->DP (dA l) ⟨#[c]⟩= -1):=by
 have key:∀i,StrLaws.At (dA l) ⟨#[c]⟩ (dA l).length i↔l[i]? =B c:=λi=>by
  have:=StrLaws.subAt_one (dA l) c i;have e:(dA l).cps.toList=l:=by show l.toArray.toList=l;simp
  rw[e]at this;exact this
 refine⟨λi O a5=>?_,λh=>?_⟩
 .unfold DP;obtain⟨e,n⟩|⟨k,r,e,et,eM⟩:=aiQ (dA l) ⟨#[c]⟩ 1 (by decide)
  .exact absurd ((key i).mpr O) (n i)
  rw[e];show(k:Int)=i;have aA:=(key k).mp et;have:k=i:=by
   obtain z|z|z:=Nat.lt_trichotomy k i
   .exact absurd aA (a5 k z)
   .exact z
   exact absurd ((key i).mpr O) (eM i z)
  rw[this]
 unfold DP;obtain⟨e,n⟩|⟨k,r,e,et,eM⟩:=aiQ (dA l) ⟨#[c]⟩ 1 (by decide)
 .rw[e]
 exact absurd ((key k).mp et) (h k)
theorem abW(a7:X.calm=a9):pK X (.type "list") (λxs H Q=>∃l:List Nat,xs=[.str (dA l)]/\l.length<=cM/\∀p,H p=aa->Q (.ref p) (av H p (.lst (l.map λ(c:Nat)=>V.str ⟨#[c]⟩)))):=by
 intro _ s G H xs us Q D r h;obtain⟨l,rfl,aq,k⟩:=h;obtain⟨u,rfl,t,rfl⟩:=vals1 r;have hsz:(dA l).cps.size=l.length:=zz l;refine call_list_str (D.ok.hd a7) (dA l) t (λ_ _ bM e4 aA l9 oX=>?_) (by rw[hsz];exact aq);refine⟨.ref s.heap.objs.size,av H s.heap.objs.size (.lst (l.map λ(c:Nat)=>V.str ⟨#[c]⟩)),D.laid aA (cO _) ⟨by rw[cW];exact aq,bM.toList,e4,?_,by simpa using l9⟩,Y,k _ (D.bR.fresh (cO _))⟩;obtain⟨O,a5⟩:=oX;rw[hsz]at O;have gen:∀(xs:List V)(us:List ae),xs.length=us.length->(∀(j:Nat) x u,xs[j]? =B x->us[j]? =B u->RelV x u)->cB xs us:=by
  intro xs;induction xs with
  |nil=>intro us aq _;cases us with|nil=>exact .nil|cons u us=>simp at aq
  |cons x xs ih=>intro us aq ah;cases us with|nil=>simp at aq|cons u us=>exact .cons (ah 0 x u rfl rfl) (ih us (by simpa using aq) λj x u a b=>ah (j+1) x u (by simpa using a) (by simpa using b))
 refine gen _ _ (by simp[O]) λj x u ag bz=>?_;rw[fP]at ag;cases e:l[j]? with
 |none=>rw[e]at ag;cases ag
 |some c=>
  rw[e]at ag;cases ag;obtain⟨_,nh,aT,rfl⟩:=a5 j u (by simpa using bz);have dX:(dA l).cps[j]? =B c:=by show l.toArray[j]? =B c;simpa using e
  rw[dX]at aT;cases aT;exact⟨nh,Y⟩
def abX(a:b5):bF:=λvs H Q _=>∃p r c,vs=[.ref p,.int ((c:Nat):Int)]/\fN a H p r/\h3 r/\Tf.Cell r c/\Q (.c1 (r.onGoal c)) H
def abY(a:b5):bF:=λvs H Q _=>∃p r q cY,vs=[.ref p,.ref cY]/\fN a H p r/\ju a H cY q/\h3 r/\ea r q/\∀H',aw H H'->Q (.int (r.over q)) H'
theorem abZ(T:Txt K a6 a):dK P w K a6 base cj 2 "is_on_goal" ["rules","cell"] (abX a):=by
 refine T.a9L.ok a8r (λf _ A _ s H _ Q E ah h=>?_);obtain⟨p,r,c,rfl,⟨fX,ar⟩,aY,a7,k⟩:=h;refine⟨_,aC (d3 (c' dz (bg (J 0) Y) (cK T.Wb Y) (cq _)) (aX (bG (ct (abg T) ah Y bw (ao (J 0) (ao (J 1) az))))) d8) (aX (bG (gG dz (dV n8 (bg (J 0) Y) (J 1) (λ_ _=>rfl)) (eU T.Ci Y) (cq _)))),?_⟩;obtain⟨jr,g2⟩:=Cq aY.b_ a7;have akj:=aY.g2;unfold alY at k;refine⟨_,Y,p,_,_,_,_,Y,ar,T.dk.1,T.Cn,Y,Y,_,Y,gj (λO=>?_) λO=>?_⟩
 .have z:r.goal=0:=by have z:=V.int.inj (e3 O);omega
  rw[aL (by omega)]at k;exact⟨_,Y,_,Y,p,r,c,Y,⟨fX,ar⟩,aY.b_,k⟩
 have z:¬r.goal=0:=λz=>O (eE (by rw[z];rfl));rw[aZ (by omega),<-va,<-v9]at k;exact⟨_,Y,p,_,_,_,_,Y,ar,T.dk.1,T.oe,Y,_,Y,_,_,_,Y,Y,jr,g2,Y,k⟩
theorem WJ(T:Txt K a6 a):dK P w K a6 base cj 6 "position_over" ["rules","position"] (abY a):=by
 refine T.a9M.ok VW (λf _ A _ s H _ Q E ah h=>?_);obtain⟨p,r,q,cY,rfl,d1,⟨zC,ar⟩,aY,hw,k⟩:=h;refine⟨_,aC (cx (i:=2) VW.bh (Rn PySem.F.slot_str_find PySem.F.type_str_find a3L (bg (J 1) Y) (eU T.p_ Y))) (aC (d3 (c' dz (J 2) (cK T.Cf Y) (cq _)) (aX (bG (cK T.Wc Y))) d8) (aC (d3 (je (ct (abZ T) ah.mono Y bw (ao (J 0) (ao (J 2) az)))) (aX (bG (cK T.Wd Y))) d8) (aC (d3 (v_ (je (ct (abz T) ah Y bw (ao (J 0) (ao (J 1) az))))) (aX (bG (cK T.MD Y))) d8) (aX (bG (cK T.rR Y)))))),?_⟩;obtain⟨dS,f2⟩:=a4L aY.b_ hw;obtain⟨dZ,cS⟩:=abV (Tf.bd q) 75;have ac0:(⟨#[75]⟩:a8)="K" :=oh .king;rw[ac0]at dZ cS;refine⟨_,Y,cY,_,_,_,_,Y,ar,T.jJ.1,T.qN,Y,⟨_,Y⟩,_,_,Y,Y,?_⟩;by_cases aA:q.king=255
 .have e:=cS (dS aA);rw[e];refine⟨_,Y,Y,_,Y,i6 ?_⟩;have c7:=k H (aw.refl H);have kg:r.over q=1:=by unfold IS IP IU;simp[aA]
  rw[kg]at c7;exact c7
 obtain⟨_,bL,eb⟩:=f2 aA;have e:=dZ q.king bL eb;rw[e];have nN:=hw.eh.resolve_left aA;refine⟨_,Y,Y,_,Y,e7 ?_ ?_⟩
 .intro z;have z:=V.int.inj (e3 z);have z:(q.king:Int)= -1:=z;omega
 refine⟨_,Y,_,Y,p,r,q.king,Y,d1,aY,nN,_,Y,?_⟩;cases aI:r.onGoal q.king with
 |true=>
  refine hE ?_;have c7:=k H (aw.refl H);have kg:r.over q=2:=by unfold IS IP IU;simp[aA,aI]
  rw[kg]at c7;exact c7
 |false=>
  refine gz ?_;have lq:r.ended q=0:=by unfold IP IU;simp[aA,aI]
  refine⟨_,Y,_,Y,p,r,q,cY,Y,d1,⟨zC,ar⟩,aY.b_,hw,λH' aE=>⟨_,Y,?_⟩⟩;have c7:=k H' aE;have kg:r.over q=if zD r q=a9 then 0 else 3:=by unfold IS;rw[lq];simp only[ne_eq,not_true_eq_false,jA];cases bf:zD r q with|true=>obtain⟨c,a7,bV⟩:=A1.mp bf;rw[aL λz=>by have:=(RY hw aY.b_ lq).mp z c (fR.mp a7);rw[this]at bV;exact absurd bV (by decide)];rfl|false=>rw[aZ ((RY hw aY.b_ lq).mpr λc a7=>by have:=Zz.mp bf c (fR.mpr a7);simpa using this)];rfl
  rw[kg]at c7;cases bf:zD r q with|true=>rw[bf]at c7;exact gz c7|false=>rw[bf]at c7;exact hE c7
def WK(C:I)(f g:a8):bF:=λvs H Q _=>∃x a3 u v,vs=[.ref x,u,v]/\H x=B (.ins C a3 [])/\Q .bS (av H x (.ins C a3 [(f,u),(g,v)]))
def ac1(a:b5):bF:=λvs H Q _=>∃p r q cY x y,vs=[.ref p,.ref cY,.int ((x:Nat):Int),.int ((y:Nat):Int)]/\fN a H p r/\ju a H cY q/\h3 r/\ea r q/\p6 r q (x,y)/\∀o a3 eY l H',H eY=aa->H l=aa->aw H H'->H' o=B (.ins a.Outcome a3 [("position",.ref eY),("taken",.ref l)])->ju a H' eY (r.comes q (x,y))->H' l=B (.lst (dB (r.takes q (x,y))))->Q (.ref o) H'
variable{n:Nat}
theorem WL(T:Txt K a6 a):ph P w K a6 base cj 1 a.Position ["self","board","turn"] (WK a.Position "board" "turn"):=by refine T.aan.ok a8D (λf _ A _ s H _ Q E _ h=>?_);obtain⟨x,_,u,v,rfl,ag,k⟩:=h;refine⟨_,aC (dY (J 0) (J 1) Y) (aX (dY (J 0) (J 2) Y)),_,Y,_,Y,x,_,_,_,Y,ag,T.jJ.1,T.qN,by decide,_,Y,_,Y,x,_,_,_,Y,b0,T.jJ.1,T.tl,ql,?_⟩;rw[iT];exact k
theorem ac2(T:Txt K a6 a):ph P w K a6 base cj 1 a.Outcome ["self","position","taken"] (WK a.Outcome "position" "taken"):=by refine T.aao.ok a8E (λf _ A _ s H _ Q E _ h=>?_);obtain⟨x,_,u,v,rfl,ag,k⟩:=h;refine⟨_,aC (dY (J 0) (J 1) Y) (aX (dY (J 0) (J 2) Y)),_,Y,_,Y,x,_,_,_,Y,ag,T.x3.1,T.MP,by decide,_,Y,_,Y,x,_,_,_,Y,b0,T.x3.1,T.MQ,ql,?_⟩;rw[iT];exact k
theorem G_(h:k<n):qs n (k:Int)=B k:=by
 unfold qs;split
 .rw[aZ (by omega)];simp
 omega
def pv(l:List Nat):List V:=l.map λ(c:Nat)=>V.str ⟨#[c]⟩
theorem G'(l:List Nat)(i c:Nat):(pv l).set i (.str ⟨#[c]⟩)=pv (l.set i c):=by unfold pv;rw[List.map_set]
theorem WM(l:List Nat):DQ "" (l.map λ(c:Nat)=>(⟨#[c]⟩:a8))=dA l:=by
 refine TL.KL ?_;rw[TL.join_eq,TL.F3];have e:∀l:List Nat,TL.yF (TL.dU "") ((l.map λ(c:Nat)=>(⟨#[c]⟩:a8)).map TL.dU)=l:=by
  intro l;induction l with
  |nil=>rfl
  |cons x l ih=>cases l with|nil=>rfl|cons y l=>show[x]++([]++_)=_;rw[DE];exact f_ (x::·) ih
 rw[e];show l=l.toArray.toList;simp
theorem WN(l:List Nat):((l.map λ(c:Nat)=>(⟨#[c]⟩:a8)).map (·.length)).sum=l.length:=by induction l with|nil=>rfl|cons x l ih=>simp only[i9,Ie,ih,fQ];show 1+_=_;omega
theorem WO(T:Txt K a6 a):dK P w K a6 base cj 6 "outcome" ["rules","position","x","y"] (ac1 a):=by
 refine T.outcome.ok Gq (λf _ A _ s H _ Q E ah h=>?_);obtain⟨p,r,q,cY,x,y,rfl,d1,⟨_,ar⟩,aY,hw,dg,k⟩:=h;refine⟨_,aC (cx (i:=4) Gq.bh (EJ (abW Y) Y T.ab5 boot_list (ao (bg (J 1) Y) az))) (aC (Es (dV hD (J 4) (J 2) (λ_ _=>rfl)) (Er (J 4) (J 3) EO)) (aC (Es (eU T.zt Y) (Er (J 4) (J 2) EO)) (aC (cx (i:=5) Gq.bh (ct (abS T) ah Y bw (ao (J 0) (ao (J 4) (ao (J 3) (ao (bg (J 1) Y) az)))))) (aC (nR oz Y (nQ (J 5)) (g_ (i:=6) Gq.bh) (aX (Es (eU T.zt Y) (Er (J 4) (J 6) EO)))) (aX (bG (pj (ac2 T) ah.mono Y T.x3.2 bw (ao (pj (WL T) ah.mono Y T.jJ.2 bw (ao (Bk ee (J 4)) (ao (da nU cb (bg (J 1) Y)) az))) (ao (J 5) az))))))))),?_⟩;have ag:x<169:=aY.b_.lt dg.eG;have bl:y<169:=aY.b_.lt dg.gg;obtain⟨_,-,-⟩:=Fm hw aY.b_ dg;have ac3:=a4M hw aY.b_ dg;have ac4:=a4N hw aY.b_ dg;have WQ:=L4 hw aY.b_ dg;obtain⟨-,H2,-⟩:=Fn hw aY.b_ dg;have p8:=hw.gM;refine⟨_,Y,cY,_,_,_,_,Y,ar,T.jJ.1,T.qN,Y,Tf.bd q,Y,(by rw[km];decide),λcl e_=>?_⟩;have len:(pv (Tf.bd q)).length=169:=abE q;refine⟨_,Y,_,Y,cl,_,_,_,Y,Y,bp.of b0,x8 q ag,_,Y,_,Y,cl,_,_,y,Y,Y,b0,?_,?_⟩
 .rw[show(ZL (λ(c:Nat)=>V.str ⟨#[c]⟩) (Tf.bd q)).length=169 from len];exact G_ bl
 refine⟨_,Y,_,Y,cl,_,_,x,Y,Y,b0,?_,?_⟩
 .rw[qf,show(ZL (λ(c:Nat)=>V.str ⟨#[c]⟩) (Tf.bd q)).length=169 from len];exact G_ ag
 have ac5:(List.set (ZL (λ(c:Nat)=>V.str ⟨#[c]⟩) (Tf.bd q)) y (V.str (e2 (q.on x)))).set x (V.str ".")=qS (q.shifted (x,y)):=by show _=pv (Tf.bd (q.shifted (x,y)));rw[ac3,<-G',<-G',oh,show(⟨#[46]⟩:a8)="." from oh .none];rfl
 rw[ac5,iT,iT];have s1:aw H (av H cl (.lst (qS (q.shifted (x,y))))):=aw.new e_;refine⟨_,Y,_,Y,_,Y,_,Y,cY,_,_,_,_,Y,s1 _ _ ar,T.jJ.1,T.tl,Y,p,r,cl,q.shifted (x,y),y,q.side,Y,d1.same s1,aY,b0,dg.gg,p8,Fl hw _,λl aq _ eI hc=>?_⟩;rw[<-WQ]at hc;have H3:l≠cl:=λz=>by rw[z,b0]at aq;cases aq
 have nN:∀c∈r.takes q (x,y),c<169:=λc a7=>by rw[WQ]at a7;exact aY.b_.lt ((L5 aY.b_ dg.gg).2 c (by simpa using(j7.mp a7).2)).1
 refine⟨_,Y,l,Y,⟨_,bp.of hc⟩,yn (xs:=dB (r.takes q (x,y))) (λi aM H'=>∃v,aM=[B (.ref p),B (.ref cY),B (.int (x:Int)),B (.int (y:Int)),B (.ref cl),B (.ref l),v]/\aw H H'/\H' l=B (.lst (dB (r.takes q (x,y))))/\H' cl=B (.lst (pv (uD ((r.takes q (x,y)).take i) (Tf.bd (q.shifted (x,y))))))) ⟨aa,Y,s1.trans eI,hc,eI _ _ b0⟩ (λi aM H' _ bK=>?_) (λi v aM H' hi bK=>?_) λaM H' bK=>?_⟩
 .obtain⟨v,rfl,aE,O,a5⟩:=bK;exact bp.of O
 .obtain⟨hV,rfl,aE,O,a5⟩:=bK;unfold dB at hi;rw[fP]at hi;cases e:(r.takes q (x,y))[i]? with
  |none=>rw[e]at hi;cases hi
  |some c=>
   rw[e]at hi;cases hi;have a7:=nN c (mQ e);refine⟨_,Y,_,Y,cl,_,_,c,Y,Y,a5,?_,_,Y,?_,?_,?_⟩
   .unfold pv;rw[cW,Ld,km];exact G_ a7
   .exact λb o z=>by rw[aN (cU z e_)];exact aE _ _ z
   .rw[aN H3];exact O
   rw[b0,take_snoc e,show(V.str ".")=V.str ⟨#[46]⟩from f_ V.str (oh .none).symm,G'];unfold uD;rw[ZG];rfl
 obtain⟨hV,rfl,aE,O,a5⟩:=bK;rw[jv,j8,<-ac4]at a5;refine⟨⟨_,Y⟩,_,Y,"",cl,(Tf.bd (r.comes q (x,y))).map λ(c:Nat)=>(⟨#[c]⟩:a8),Y,Y,.inl (bp.of (a5.trans ?_)),?_,?_⟩
 .unfold pv;rw[ix];rfl
 .rw[WN,cW,km];show 169+169*0<=_;decide
 rw[WM];refine⟨_,Y,cY,_,_,_,_,Y,aE _ _ ar,T.jJ.1,T.tl,Y,_,_,Y,Y,λeY h2 nv n6 bV=>⟨eY,h2,_,_,Y,b0,Y,?_⟩⟩;rw[iT];refine⟨_,Y,λo x9 aU qJ ac6=>⟨o,x9,_,_,Y,b0,Y,?_⟩⟩;rw[iT];have ac7:(av H' h2 (.own eY)) eY=aa:=by rw[aN (ed bV)];exact nv
 have qT:aw H' (av (av H' h2 (.own eY)) eY (.ins a.Position h2 [("board",.str (dA (Tf.bd (r.comes q (x,y))))),("turn",.int (1-(q.side:Int)))])):=aw.upd (aw.upd (aw.refl _) n6) ac7;have zF:=aw.upd (o:=.ins a.Outcome x9 [("position",.ref eY),("taken",.ref l)]) (aw.upd (o:=.own o) (aw.refl _) qJ) (show(av _ x9 (.own o)) o=aa by rw[aN (ed ac6)];exact aU);refine k o x9 eY l _ (aE.free nv) (s1.free aq) ((aE.trans qT).trans zF) b0 ⟨h2,?_⟩ (zF _ _ (qT _ _ O));have aT:(1:Int)-(q.side:Int)=(((r.comes q (x,y)).side:Nat):Int):=by rw[H2];omega
 have z:=zF _ _ (b0 (H:=av H' h2 (.own eY)) (a:=eY) (o:=.ins a.Position h2 [("board",.str (dA (Tf.bd (r.comes q (x,y))))),("turn",.int (1-(q.side:Int)))]));refine Eq.trans z ?_;unfold GP;rw[aT]
def cy(b:aS):List V:=b.map λ(x:UInt8)=>V.int ((x.toNat:Nat):Int)
def cg(w:aS):a8:=dA (w.map ya)
theorem iu(b:aS):(cy b).length=b.length:=by unfold cy;rw[cW]
theorem fq(w:aS):(cg w).length=w.length:=by unfold cg;rw[zz,cW]
theorem WR(w:aS):(cg w).cps.size=w.length:=fq w
theorem WS{w:aS}(h:(cg w).cps[i]? =B c):∃x,w[i]? =B x/\c=x.toNat:=by have h:(w.map ya).toArray[i]? =B c:=h;simp only[ZJ,fP]at h;cases e:w[i]? with|none=>rw[e]at h;cases h|some x=>rw[e]at h;cases h;exact⟨x,Y,Y⟩
variable{b:aS}
theorem H4{v:V}(h:(cy b)[i]? =B v):∃x,b[i]? =B x/\v=.int ((x.toNat:Nat):Int):=by unfold cy at h;rw[fP]at h;cases e:b[i]? with|none=>rw[e]at h;cases h|some x=>rw[e]at h;cases h;exact⟨x,Y,Y⟩
theorem zG(b:aS)(n m:Nat):lM (cy b) (B (n:Int)) (B ((n:Int)+(m:Int)))=cy ((b.drop n).take m):=by
 unfold lM;rw[show(n:Int)+(m:Int)=((n+m:Nat):Int) by omega,HT.uo,HT.uo,iu];unfold cy;rw[ai0,Ib];by_cases h:n<=b.length
 .rw[xJ h];by_cases a5:n+m<=b.length
  .rw[xJ a5,ZU]
  rw[Nat.min_eq_right (by omega),lB (by simp),lB (by simp;omega)]
 rw[Dz (by simp;omega),Dz (by simp;omega)];simp
def ac8:bF:=λvs H Q _=>∃w,vs=[.str (cg w)]/\w.length<=100000/\∀l H',H l=aa->aw H H'->H' l=B (.lst (cy w))->Q (.ref l) H'
def WT:bF:=λvs H Q _=>∃p b n wp w,vs=[.ref p,.int ((n:Nat):Int),.ref wp]/\H p=B (.lst (cy b))/\H wp=B (.lst (cy w))/\∀H',aw H H'->Q (.int ((cc (b.drop n) w:Nat):Int)) H'
theorem vd(l m:aS):cy (l++m)=cy l++cy m:=by unfold cy;rw[fH]
theorem zH(h:n<=100000):n<cM:=lC h (by decide)
theorem rT(T:Txt K a6 a):dK P w K a6 base cj 1 "bytes_of" ["signs"] ac8:=by
 refine T.Wn.ok zk (λf _ A _ s H _ Q E _ h=>?_);obtain⟨wd,rfl,_,k⟩:=h;refine⟨_,aX (bG (sU Y zk.bh (Ri (J 0)) (o3 (own:=[("sign",1)]) Y) (λ_ _ _ _ _=>g_ (i:=1) zk.bh) (λ_ _ _ _ _=>qu) (λ_ _ _ _ _=>fc sE Y T.tq vF (ao (J 1) az)))),_,Y,cg wd,Y,λaf d2=>U0 (x:=cg wd) (λj H'=>aw H H'/\H' af=B (.lst (cy (wd.take j)))) ⟨aw.new d2,b0⟩ (λj c H' bX aR=>?_) λH' aR=>?_⟩
 .obtain⟨aE,gN⟩:=aR;obtain⟨y,bl,rfl⟩:=WS bX;refine⟨Y,_,Y,_,Y,Y,_,gN,?_,λb o z=>?_,?_⟩
  .rw[iu,k9];exact zH (by omega)
  .rw[aN (cU z d2)];exact aE _ _ z
  rw[b0,take_snoc bl,vd];rfl
 obtain⟨aE,gN⟩:=aR;rw[WR,j8]at gN;exact k af H' d2 aE gN
theorem Cv(T:Txt K a6 a):dK P w K a6 base cj 1 "agreed" ["source","place","row"] WT:=by
 refine T.Wo.ok rP (λf _ A _ s H _ Q E _ h=>?_);obtain⟨p,b,n,wp,wd,rfl,ar,q0,k⟩:=h;refine⟨_,aC (cx (i:=3) rP.bh cb) (aC (nR oz Y (a3H Y T.Wt (ao (sL uq (J 0) (n7 (J 1)) (n7 (da nT (J 1) (fc i' Y T.hU ia (ao (J 2) az))))) (ao (J 2) az))) (Qc Y (yj (g_ (i:=4) rP.bh) (yj (g_ (i:=5) rP.bh) Ji))) (aC (d3 (c' nW (J 4) (J 5) (cq _)) (aX (bG (J 3))) d8) (aX (v' (i:=3) rP.bh Y (sg Y) cb EB)))) (aX (bG (J 3)))),_,Y,_,Y,_,Y,_,Y,_,Y,wp,_,Y,.inl (bp.of q0),?_⟩;rw[iu];refine⟨_,_,Y,Y,_,Y,p,_,Y,bp.of ar,λl aq=>⟨_,Y,l,wp,cy ((b.drop n).take wd.length),cy wd,Y,bp.of ?_,bp.of ?_,a7A (xs:=cy ((b.drop n).take wd.length)) (ys:=cy wd) (λi aM H'=>∃g6 fy,aM=[B (.ref p),B (.int (n:Int)),B (.ref wp),B (.int ((i:Nat):Int)),g6,fy]/\aw H H'/\H' l=B (.lst (cy ((b.drop n).take wd.length)))/\(b.drop n).take i=wd.take i/\i<=(b.drop n).length/\i<=wd.length) ⟨aa,aa,Y,aw.new aq,?_,Y,ek _,ek _⟩ (λi aM H' bK=>?_) (λi x c aM H' hi a7 bK N dD=>?_) λi aM H' _ _ ve bK=>?_⟩⟩
 .rw[b0,zG]
 .rw[aN (cU q0 aq)];exact q0
 .rw[b0,zG]
 .obtain⟨g6,fy,rfl,aE,O,_⟩:=bK;exact⟨bp.of O,bp.of (aE _ _ q0)⟩
 .obtain⟨g6,fy,rfl,aE,O,ba,gn,hc⟩:=bK;obtain⟨eN,jW,rfl⟩:=H4 hi;obtain⟨y,bl,rfl⟩:=H4 a7;have a0:(b.drop n)[i]? =B eN:=by
   rw[ahX]at jW;split at jW
   .exact jW
   cases jW
  refine⟨N,_,Y,dq.of b0,Y,_,_,Y,_,_,Y,Y,_,Y,_,Y,Y,_,Y,?_⟩;have eI:aw H (av H' N (.tup [.int (eN.toNat:Int),.int (y.toNat:Int)])):=aw.upd aE dD;by_cases e:eN=y
  .subst e;refine e7 (by simp) ?_;refine⟨_,Y,_,_,Y,Y,B (.int (eN.toNat:Int)),B (.int (eN.toNat:Int)),?_,eI,?_,Sx ba a0 bl,?_,?_⟩
   .rfl
   .rw[aN (cU O dD)];exact O
   .exact(ec.mp a0).1
   exact(ec.mp bl).1
  refine eJ ?_ ⟨_,Y,?_⟩
  .have:¬V.int (eN.toNat:Int)=V.int (y.toNat:Int):=λz=>e (by have z:=V.int.inj z;exact a16.mp (by omega));show(!decide (V.int (eN.toNat:Int)=V.int (y.toNat:Int)))=a9;rw[gP this];rfl
  have c7:=k _ eI;rw[Fx gn hc ba (λu v bz bk=>by rw[a0]at bz;rw[bl]at bk;cases bz;cases bk;exact e)]at c7;exact c7
 obtain⟨g6,fy,rfl,aE,O,ba,gn,hc⟩:=bK;have c7:=k _ aE;rw[Fx gn hc ba (λu v bz bk=>by rw[iu,k9]at ve;rw[iu]at ve;have:=(ec.mp bz).1;have:=(ec.mp bk).1;omega)]at c7;exact⟨_,Y,c7⟩
def xa(i:Int):Bool:=decide (48<=i)&&decide (i<=57)
def q1(i:Int):Bool:=(decide (65<=i)&&decide (i<=90))||(decide (97<=i)&&decide (i<=122))
theorem aca(x:UInt8):xa ((x.toNat:Nat):Int)=IW x:=by unfold xa IW;congr 1<;>exact Ef.mpr (by omega)
theorem acb(x:UInt8):q1 ((x.toNat:Nat):Int)=Ea x:=by unfold q1 Ea;congr 1<;>congr 1<;>exact Ef.mpr (by omega)
def acd:bF:=λvs H Q _=>∃i,vs=[.int i]/\Q (.c1 (xa i)) H
def ace:bF:=λvs H Q _=>∃i,vs=[.int i]/\Q (.c1 (q1 i)) H
def acf:bF:=λvs H Q _=>∃d lo hi:Nat,vs=[.int (d:Int),.int (lo:Int),.int (hi:Int)]/\hi<1000000/\Q (.c1 (t5 lo hi d)) H
theorem WU(T:Txt K a6 a):dK P w K a6 base cj 1 "is_digit" ["byte"] acd:=by
 refine T.a9N.ok a8s (λf _ A _ s H _ Q E _ h=>?_);obtain⟨i,rfl,k⟩:=h;refine⟨_,aX (bG (Jw rv rv (fc sE Y T.tq vF (ao ee az)) (J 0) (fc sE Y T.tq vF (ao ee az)))),?_⟩;unfold xa at k;refine⟨_,Y,Y,_,Y,_,_,Y,Y,_,Y,?_⟩;have e0:(((mS "0").cps.getD 0 0:Nat):Int)=48:=by decide+kernel
 rw[e0];by_cases h:(48:Int)<=i
 .refine eJ (eE h) ⟨_,Y,Y,_,_,Y,Y,?_⟩;rw[eE h,Dx]at k;have qU:(((mS "9").cps.getD 0 0:Nat):Int)=57:=by decide+kernel
  rw[qU];exact k
 refine e7 (by simpa using h) ?_;rw[gP h,I2]at k;exact k
theorem WV(T:Txt K a6 a):dK P w K a6 base cj 1 "is_letter" ["byte"] ace:=by
 refine T.a9O.ok a8t (λf _ A _ s H _ Q E _ h=>?_);obtain⟨i,rfl,k⟩:=h;refine⟨_,aX (bG (oK (Jw rv rv (fc sE Y T.tq vF (ao ee az)) (J 0) (fc sE Y T.tq vF (ao ee az))) (pJ (Jw rv rv (fc sE Y T.tq vF (ao ee az)) (J 0) (fc sE Y T.tq vF (ao ee az)))))),?_⟩;have aO:(((mS "A").cps.getD 0 0:Nat):Int)=65:=by decide+kernel
 have aT:(((mS "Z").cps.getD 0 0:Nat):Int)=90:=by decide+kernel
 have dX:(((mS "a").cps.getD 0 0:Nat):Int)=97:=by decide+kernel
 have hF:(((mS "z").cps.getD 0 0:Nat):Int)=122:=by decide+kernel
 have two:(decide (97<=i)&&decide (i<=122))=q1 i->Jv (mu λi j=>.c1 (decide (i<=j))) (mu λi j=>.c1 (decide (i<=j))) (AW (λxs H Q=>∃x,xs=[.str x]/\x.length=1/\Q (.int (x.cps.getD 0 0:Nat)) H) (eL (iB (.str (mS "a"))) gc)) (dr 0)
   (AW (λxs H Q=>∃x,xs=[.str x]/\x.length=1/\Q (.int (x.cps.getD 0 0:Nat)) H) (eL (iB (.str (mS "z"))) gc)) [B (.int i)] H Q:=λe=>by
  rw[<-e]at k;refine⟨_,Y,Y,_,Y,_,_,Y,Y,_,Y,?_⟩;rw[dX];by_cases h:(97:Int)<=i
  .refine eJ (eE h) ⟨_,Y,Y,_,_,Y,Y,?_⟩;rw[eE h,Dx]at k;rw[hF];exact k
  refine e7 (by simpa using h) ?_;rw[gP h,I2]at k;exact k
 refine⟨_,Y,Y,_,Y,_,_,Y,Y,_,Y,?_⟩;rw[aO];by_cases h:(65:Int)<=i
 .refine eJ (eE h) ⟨_,Y,Y,_,_,Y,Y,_,Y,?_⟩;rw[aT];by_cases a5:i<=90
  .refine eJ (eE a5) ?_;rw[show q1 i=a9 by unfold q1;rw[eE h,eE a5];rfl]at k;exact k
  exact e7 (by simpa using a5) (two (by unfold q1;rw[gP a5,ahE,Dw]))
 exact e7 (by simpa using h) ⟨_,Y,d6 (two (by unfold q1;rw[gP h,I2,Dw]))⟩
theorem acg(T:Txt K a6 a):dK P w K a6 base cj 1 "leads_on" ["value","least","most"] acf:=by
 refine T.a9P.ok BX (λf _ A _ s H _ Q E _ h=>?_);obtain⟨d,lo,hi,rfl,bU,k⟩:=h;refine⟨_,aC (d3 (c' dz (J 0) cb (cq _)) (aX (bG qm)) d8) (aC (cx (i:=3) BX.bh (J 0)) (aC (cx (i:=4) BX.bh (J 0)) (aC (w0 oz (c' rv (J 3) (J 2) (cq _)) (aC (d3 (c' EC (J 4) (J 1) (cq _)) (aX (bG qm)) d8) (aC (cx (i:=3) BX.bh (da w5 (J 3) cb)) (aX (cx (i:=4) BX.bh (da nT (da w5 (J 4) cb) cb)))))) (aX (bG qm))))),?_⟩;by_cases b9:d=0
 .subst b9;exact⟨_,Y,Y,_,Y,i6 k⟩
 have hd:0<d:=DI b9;refine⟨_,Y,Y,_,Y,e7 (λz=>b9 ?_) ⟨_,Y,_,Y,?_⟩⟩
 .have z:=V.int.inj (e3 z);omega
 have N5:t5 lo hi d=y7 lo hi d:=by unfold t5;rw[eE hd,Dx]
 rw[N5]at k;refine AL (λaM H'=>H'=H/\∃j,aM=[B (.int (d:Int)),B (.int (lo:Int)),B (.int (hi:Int)),B (.int ((d*10^j:Nat):Int)),B (.int ((d*10^j+(10^j-1):Nat):Int))]/\∀i,i<j->¬lo<=d*10^i+(10^i-1))
  (λ(aM:L2.St)(_:ak)=>match aM[3]? with|some (B (V.int x))=>(1000000-x).toNat|_=>0) ⟨Y,0,?_,λi hi=>absurd hi (aih _)⟩ (λaM H' bK=>?_) (λaM H' _ _ m h=>?_)
 .simp;rfl
 .obtain⟨rfl,j,rfl,bX⟩:=bK;obtain⟨H5,jU⟩:=a4E d j;refine⟨_,Y,_,Y,_,_,Y,Y,_,Y,?_⟩;by_cases O:d*10^j<=hi
  .refine eJ (eE (by omega)) ⟨_,Y,_,Y,_,_,Y,Y,_,Y,?_⟩;by_cases a5:lo<=d*10^j+(10^j-1)
   .refine eJ (eE (by omega)) ?_;rw[a4F hd bU O a5]at k;exact k
   refine e7 (λz=>a5 (ahK.mp (e3 z))) ⟨_,Y,_,_,Y,Y,.inr (by decide),_,Y,_,_,Y,Y,.inr (by decide),_,_,Y,Y,⟨Y,j+1,?_,λi _=>?_⟩,?_⟩
   .rw[jU,H5];rfl
   .by_cases e:i=j
    .rw[e];exact a5
    exact bX i (by omega)
   show(1000000-(((d*10^j:Nat):Int)*10)).toNat<(1000000-((d*10^j:Nat):Int)).toNat;have:0<d*10^j:=Nat.mul_pos hd (DI (by simp));omega
  refine e7 (λz=>O (ahK.mp (e3 z))) ?_;rw[a4G hd bU (by omega) bX]at k;exact k
 obtain⟨x,e,y,d7,i,j,kO,qV,b,h9,h⟩:=h;exact⟨x,e,y,d7,i,j,kO,qV,b,h9,m _ _ h⟩
variable{a3 d:I}{m:Nat}{fs:List (a8×V)}
theorem ach{e:I}:dj e C (B a3) m≠gm d fs:=by
 intro z;have z:=dy.ext.inj z;let o:bJ:={cls:=.ref C,dict:=B a3,data:=.fields #[.none,.none,.none,.none,.none,.none]}
 let h:br:=⟨ahC (e+1+d) o,{}⟩
 have aI:∀b,b<e+1+d->h.get? b=B o:=λb a0=>by
  have:h.objs[b]? =B o:=by show(ahC (e+1+d) o)[b]? =B o;simp[a0]
  unfold Heap.get?;rw[this]
 have p:(λh=>∃cQ vs,h.get? e=B cQ/\cQ.cls=.ref C/\cQ.dict=B a3/\cQ.data=.fields vs/\vs.size=6/\(m=0->vs[1]? =B .none)/\(m<=1->vs[2]? =B .none)) h:=⟨o,_,aI e (kW (Ad e) (r8 _ _)),Y,Y,Y,Y,λ_=>rfl,λ_=>rfl⟩;have p:=cast (congrFun z h) p;obtain⟨_,_,⟨_,_,_,O,a5,_⟩,_⟩:=p;rw[aI d (kW (Ad d) (by rw[ai7];exact P1 (aia 1 e) d))]at O;cases O;cases a5
theorem zI{e:I}(O:H e=B (dj e C (B a3) m))(a5:H a3=B (gm a3 fs)):a3≠e:=λz=>by rw[z,O]at a5;exact ach (gX a5)
def dc(p:I)(H H':ak):Prop:=∀c u,c≠p->H c=B u->H' c=B u
theorem dc.of(s:aw H H'):dc p H H':=λc u _ q=>s c u q
variable{ai au:ak}
theorem dc.trans(s:dc p H ai)(t:dc p ai au):dc p H au:=λc u n q=>t c u n (s c u n q)
theorem dc.upd(s:dc p H H'):dc p H (av H' p o):=λc u n q=>by rw[aN n];exact s c u n q
theorem dc.WX{b:I}(s:dc p H H')(h:H' b=aa):dc p H (av H' b o):=λc u n q=>by rw[aN (cU (s c u n q) h)];exact s c u n q
theorem dc.same(s:dc p H H')(h:H p=aa):aw H H':=λc u q=>s c u (λz=>by rw[z,h]at q;cases q) q
def xd(C:I)(f:a8):bF:=λvs H Q _=>∃x u,vs=[.ref x,u]/\H x=B (dj x C aa 0)/\∀a3,H a3=aa->a3≠x->Q .bS (av (av H a3 (gm a3 [(f,u)])) x (dj x C (B a3) 0))
theorem zJ{gB:I}{f:a8}{u:V}{pe:dN}(e8:iM K C gB cV)(h:∀a3 H',aw H H'->H' a3=B (gm a3 [(f,u)])->E (.ref C) (B a3) H'):∀a,H a=aa->xd C f [.ref a,u] (av H a (dj a C aa 0)) (λv au=>v=.bS/\∃hB j3 a3 xe s_,V.ref a=.ref hB/\au hB=B (dj hB j3 (B a3) 0)/\iM K j3 xe s_/\E (.ref j3) (B a3) (av au hB (dj hB j3 (B a3) 1))) pe:=λa bf=>⟨a,u,Y,b0,λa3 fF bV=>⟨Y,a,C,a3,gB,cV,Y,b0,e8,by
  have vf:H a3=aa:=by rw[aN bV]at fF;exact fF
  refine h a3 _ (λc o q=>?_) ?_
  .have O:c≠a:=cU q bf;have a5:c≠a3:=cU q vf;rw[aN O,aN O,aN a5,aN O];exact q
  rw[aN bV,aN bV,b0]⟩⟩
theorem Cw(T:Txt K a6 a):Gl P w K a6 base cj 1 a.m1 ["place"] ["self","place"] (xd a.m1 "place"):=by have L:=T.qO;obtain⟨_,_,e8,_⟩:=id L;refine L.ok W2 (λf _ A _ s H _ Q E _ h=>?_);obtain⟨x,u,rfl,ag,k⟩:=h;exact⟨_,aX (BI (J 0) (J 1) Y),_,Y,_,Y,x,_,_,_,Y,e8,by simp,.inl ⟨ag,λa3 fF bV=>k a3 fF bV⟩⟩
theorem aci(T:Txt K a6 a):Gl P w K a6 base cj 1 a.u_ ["place"] ["self","place"] (xd a.u_ "place"):=by have L:=T.Gz;obtain⟨_,_,e8,_⟩:=id L;refine L.ok a8J (λf _ A _ s H _ Q E _ h=>?_);obtain⟨x,u,rfl,ag,k⟩:=h;exact⟨_,aX (BI (J 0) (J 1) Y),_,Y,_,Y,x,_,_,_,Y,e8,by simp,.inl ⟨ag,λa3 fF bV=>k a3 fF bV⟩⟩
def rV(aD:I)(n:Nat):List (a8×V):=[("source",.ref aD),("place",.int (n:Int))]
def hI(a:b5)(H:ak)(x aD:I)(n:Nat):Prop:=∃a3,H x=B (.ins a.Reader a3 (rV aD n))
def mH(b:aS)(n:Nat):Int:=match b[n]? with
 |some x=>((x.toNat:Nat):Int)
 |none=> -1
def f9(a:b5)(H:ak)(x aD:I)(b:aS)(n:Nat):Prop:=hI a H x aD n/\H aD=B (.lst (cy b))/\n<=b.length
def xf(a:b5)(H:ak)(x aD:I)(v:V)(n:Nat)(Q:cR):Prop:=∀H',dc x H H'->hI a H' x aD n->Q v H'
def om(a:b5)(H:ak)(x:I)(n:Nat)(E:dN):Prop:=∀a3 H',dc x H H'->H' a3=B (gm a3 [("place",.int (n:Int))])->E (.ref a.m1) (B a3) H'
variable{x aD:I}
theorem vg{l:List V}(h:hI a H x aD n)(a5:H aD=B (.lst l)):aD≠x:=λz=>by obtain⟨_,h⟩:=h;rw[z,h]at a5;cases a5
def acj(a:b5):bF:=λvs H Q _=>∃x a3 aD,vs=[.ref x,.ref aD]/\H x=B (.ins a.Reader a3 [])/\Q .bS (av H x (.ins a.Reader a3 (rV aD 0)))
def ack(a:b5):bF:=λvs H Q _=>∃x aD b n,vs=[.ref x]/\f9 a H x aD b n/\Q (.int (mH b n)) H
def N6(a:b5):bF:=λvs H Q E=>∃x aD b n,vs=[.ref x]/\f9 a H x aD b n/\(b.length<=n->Q .bS H)/\(n<b.length->om a H x n E)
theorem N7(T:Txt K a6 a):ph P w K a6 base cj 1 a.Reader ["self","source"] (acj a):=by refine T.aap.ok a8F (λf _ A _ s H _ Q E _ h=>?_);obtain⟨x,_,_,rfl,ag,k⟩:=h;refine⟨_,aC (dY (J 0) (J 1) Y) (aX (dY (J 0) cb Y)),_,Y,_,Y,x,_,_,_,Y,ag,T.cN.1,T.qP,by decide,_,Y,x,_,_,_,Y,b0,T.cN.1,T.js,ql,?_⟩;rw[iT];exact k
theorem Cx(T:Txt K a6 a):fY P w K a6 base cj 1 a.Reader "peek" ["self"] (ack a):=by
 refine T.aaq.ok a8G (λf _ A _ s H _ Q E _ h=>?_);obtain⟨x,aD,b,n,rfl,⟨⟨_,ag⟩,fg,_⟩,k⟩:=h;refine⟨_,aC (d3 (c' oS (bg (J 0) Y) (fc i' Y T.hU ia (ao (bg (J 0) Y) az)) (cq _)) (aX (bG (dV hD (bg (J 0) Y) (bg (J 0) Y) (λ_ _=>rfl)))) d8) (aX (bG (AN AO cb))),_,Y,x,_,_,_,_,Y,ag,T.cN.1,T.js,Y,_,Y,x,_,_,_,_,Y,ag,T.cN.1,T.qP,Y,aD,_,Y,.inl (bp.of fg),_,_,Y,Y,_,Y,?_⟩;rw[iu];by_cases h:n<b.length
 .refine eJ (eE (by omega)) ⟨_,Y,x,_,_,_,_,Y,ag,T.cN.1,T.qP,Y,_,Y,x,_,_,_,_,Y,ag,T.cN.1,T.js,Y,aD,_,_,.int ((b[n].toNat:Nat):Int),Y,Y,bp.of fg,?_,?_⟩
  .refine gr ?_;unfold cy;rw[fP,f7 h];rfl
  unfold mH at k;rw[f7 h]at k;exact k
 refine e7 (by simpa using(show b.length<=n by omega)) ?_;unfold mH at k;rw[qe (by omega)]at k;exact⟨_,Y,k⟩
theorem N8(T:Txt K a6 a):fY P w K a6 base (pd P w) 3 a.Reader "finish" ["self"] (N6 a):=by
 refine T.aax.kq a8I (λf _ A _ s H _ Q E ah h=>?_);obtain⟨x,aD,b,n,rfl,⟨⟨a3,ag⟩,fg,_⟩,cJ,bL⟩:=h;refine⟨_,aX (d3 (c' oS (bg (J 0) Y) (fc i' Y T.hU ia (ao (bg (J 0) Y) az)) (cq _)) (aX (wJ (ze (Cw T) ah Y T.tm bw (ao (bg (J 0) Y) az)) Y dW)) d8),?_⟩;obtain⟨_,_,e8,_⟩:=T.qO;refine⟨_,Y,x,_,_,_,_,Y,ag,T.cN.1,T.js,Y,_,Y,x,_,_,_,_,Y,ag,T.cN.1,T.qP,Y,aD,_,Y,.inl (bp.of fg),_,_,Y,Y,_,Y,?_⟩;rw[iu];by_cases h:n<b.length
 .refine eJ (eE (by omega)) ⟨_,Y,x,_,_,_,_,Y,ag,T.cN.1,T.js,Y,g7,zJ e8 λa3 H' aE hd=>bL h a3 H' (dc.of aE) hd⟩
 exact e7 (by simpa using(show b.length<=n by omega)) (cJ (by omega))
def mI(di:List aS)(b:aS):Nat:=(di.map (cc b)).foldr max 0
theorem acm(l:List aS)(w b:aS):mI (l++[w]) b=max (mI l b) (cc b w):=by unfold mI;induction l with|nil=>simp|cons x l ih=>simp only[ow,i9,ZH,ih];omega
def oo(di:List aS):List V:=di.map λ(w:aS)=>V.str (cg w)
def acn(a:b5):bF:=λvs H Q _=>∃x aD b n w,vs=[.ref x,.str (cg w)]/\f9 a H x aD b n/\w.length<=1000/\∀H',aw H H'->Q (.int ((cc (b.drop n) w:Nat):Int)) H'
def H6(K:bj)(a:b5):bF:=λvs H Q E=>∃x aD b n v di,vs=[.ref x,v]/\f9 a H x aD b n/\((∀H',aw H H'->Holds K H' v (oo di))∨∃l,v=.ref l/\H l=B (.lst (oo di)))/\(∀w∈di,w.length<=1000)/\(∀i w,di[i]? =B w->dt w (b.drop n)=a9->(∀j u,j<i->di[j]? =B u->dt u (b.drop n)=aJ)->xf a H x aD (.int ((i:Nat):Int)) (n+w.length) Q)/\((∀u∈di,dt u (b.drop n)=aJ)->om a H x (n+mI di (b.drop n)) E)
theorem f9.same(h:Hg.f9 a H x aD b n)(s:aw H H'):Hg.f9 a H' x aD b n:=⟨let⟨a3,z⟩:=h.1;⟨a3,s _ _ z⟩,s _ _ h.2.1,h.2.2⟩
theorem aco{di:List aS}{v:V}(h:(oo di)[i]? =B v):∃w,di[i]? =B w/\v=.str (cg w):=by unfold oo at h;rw[fP]at h;cases e:di[i]? with|none=>rw[e]at h;cases h|some w=>rw[e]at h;cases h;exact⟨w,Y,Y⟩
theorem WY(T:Txt K a6 a):fY P w K a6 base cj 2 a.Reader "agreed_with" ["self","word"] (acn a):=by refine T.Wq.ok W3 (λf _ A _ s H _ Q E ah h=>?_);obtain⟨x,aD,b,n,wd,rfl,⟨⟨_,ag⟩,fg,_⟩,_,k⟩:=h;refine⟨_,aX (bG (ct (Cv T) ah Y bw (ao (bg (J 0) Y) (ao (bg (J 0) Y) (ao (ct (rT T) ah Y bw (ao (J 1) az)) az))))),_,Y,x,_,_,_,_,Y,ag,T.cN.1,T.qP,Y,_,Y,x,_,_,_,_,Y,ag,T.cN.1,T.js,Y,_,Y,wd,Y,(by omega),λl _ _ s1 gn=>?_⟩;exact⟨aD,b,n,l,wd,Y,s1 _ _ fg,gn,λau s2=>k au (s1.trans s2)⟩
theorem qW(T:Txt K a6 a):fY P w K a6 base (pd P w) 3 a.Reader "choice" ["self","words"] (H6 K a):=by
 refine T.aar.kq zo (λf _ A _ s H _ Q E ah h=>?_);obtain⟨x,aD,b,n,v,di,rfl,eo,bk,rD,cJ,bL⟩:=h;refine⟨_,aC (cx (i:=2) zo.bh cb) (aC (nR Ai Y (a7w Y T.ab6 (ao (J 1) az)) (Qc Y (yj (g_ (i:=3) zo.bh) (yj (g_ (i:=4) zo.bh) Ji))) (aC (cx (i:=5) zo.bh (dP (WY T) (J 0) T.cN.1 ah bw (ao (J 4) az))) (aC (d3 (c' dz (J 5) (fc ER Y T.hU ia (ao (J 4) az)) (cq _)) (aC (yq (J 0) (J 5) yr) (aX (bG (J 3)))) d8) (aX (cx (i:=2) zo.bh (fc (Qp Y) Y T.MV a04 (ao (J 2) (ao (J 5) az)))))))) (aX (wJ (ze (Cw T) ah Y T.tm bw (ao (da nT (bg (J 0) Y) (J 2)) az)) Y dW))),?_⟩;obtain⟨_,_,e8,_⟩:=T.qO;refine⟨_,Y,v,oo di,Y,a7z (λi aM H'=>∃Cy g6 fy,aM=[B (.ref x),B v,B (.int ((mI (di.take i) (b.drop n):Nat):Int)),Cy,g6,fy]/\aw H H'/\∀u∈di.take i,dt u (b.drop n)=aJ) ⟨aa,aa,aa,Y,aw.refl H,λu bz=>nomatch bz⟩ ?_ (λi y aM H' hi bK N dD=>?_) λaM H' bK=>?_⟩
 .obtain bk|⟨l,rfl,aq⟩:=bk
  .exact .inl λi aM H' _ bK=>by obtain⟨Cy,g6,fy,rfl,aE,_⟩:=bK;exact bk H' aE
  exact .inr ⟨l,Y,λi aM H' _ bK=>by obtain⟨Cy,g6,fy,rfl,aE,_⟩:=bK;exact bp.of (aE _ _ aq)⟩
 .obtain⟨Cy,g6,fy,rfl,aE,wt⟩:=bK;obtain⟨wd,tv,rfl⟩:=aco hi;have eS:=rD wd (mQ tv);have p':aw H (av H' N (.tup [.int ((i:Nat):Int),.str (cg wd)])):=aw.upd aE dD;obtain⟨⟨a3,ag⟩,fg,aH⟩:=eo.same p';refine⟨N,_,Y,dq.of b0,Y,_,_,Y,_,_,Y,Y,_,Y,x,_,_,Y,ag,Y,_,Y,x,aD,b,n,wd,Y,eo.same p',eS,λau eI=>?_⟩;obtain⟨⟨m3,hv⟩,_,_⟩:=eo.same (p'.trans eI);refine⟨_,Y,_,Y,cg wd,Y,?_,Y,_,Y,?_⟩
  .rw[fq];exact dC eS (by decide)
  rw[fq];by_cases ar:dt wd (b.drop n)=a9
  .have a7:=(pa wd (b.drop n)).mp ar;refine eJ (by rw[a7];exact eE Y) ⟨_,Y,x,_,_,_,_,Y,hv,T.cN.1,T.js,Y,_,Y,_,_,Y,Y,m3,_,hv,so,_,Y,?_⟩;refine cJ i wd tv ar (λj u bX bz=>wt u ?_) _ (dc.upd (dc.of (p'.trans eI))) ⟨m3,?_⟩
   .exact mQ (by rw[O_ bX];exact bz)
   rw[b0,a7];rfl
  have a7:cc (b.drop n) wd≠wd.length:=λz=>ar ((pa wd (b.drop n)).mpr z);refine e7 (λz=>a7 ?_) ⟨_,Y,_,Y,_,_,Y,B (.int ((i:Nat):Int)),B (.str (cg wd)),B (.int ((cc (b.drop n) wd:Nat):Int)),?_,p'.trans eI,?_⟩
  .have z:=V.int.inj (e3 z);omega
  .have oq:(if((cc (b.drop n) wd:Nat):Int)>((mI (di.take i) (b.drop n):Nat):Int)then((cc (b.drop n) wd:Nat):Int)else((mI (di.take i) (b.drop n):Nat):Int))=((mI (di.take (i+1)) (b.drop n):Nat):Int):=by rw[take_snoc tv,acm];split<;>omega
   rw[oq];rfl
  intro u bz;rw[take_snoc tv]at bz;obtain h|h:=kv.mp bz
  .exact wt u h
  have e:u=wd:=by simpa using h
  rw[e];cases z:dt wd (b.drop n)with|false=>rfl|true=>exact absurd z ar
 obtain⟨Cy,g6,fy,rfl,aE,wt⟩:=bK;obtain⟨⟨a3,ag⟩,fg,aH⟩:=eo.same aE;have sM:di.take (oo di).length=di:=by unfold oo;rw[cW,j8]
 rw[sM]at wt ⊢;refine⟨_,Y,x,_,_,_,_,Y,ag,T.cN.1,T.js,Y,_,Y,_,_,Y,Y,g7,zJ e8 λdT au eI hd=>bL wt dT au (dc.of (aE.trans eI)) ?_⟩;rw[hd];rfl
def N9(a:b5):bF:=λvs H Q E=>∃x aD b n wp w,vs=[.ref x,.ref wp]/\f9 a H x aD b n/\H wp=B (.lst (cy w))/\(dt w (b.drop n)=a9->xf a H x aD .bS (n+w.length) Q)/\(dt w (b.drop n)=aJ->om a H x (n+cc (b.drop n) w) E)
theorem yO:∀x w:aS,cc x w<=w.length
 |[],w=>by unfold cc;simp
 |_::_,[]=>by simp[cc]
 |x::l,y::m=>by
  unfold cc;split
  .have:=yO l m;simp;omega
  simp
theorem Na(T:Txt K a6 a):fY P w K a6 base (pd P w) 3 a.Reader "row" ["self","row"] (N9 a):=by
 refine T.aat.kq W4 (λf _ A _ s H _ Q E ah h=>?_);obtain⟨x,aD,b,n,wp,wd,rfl,eo,q0,cJ,bL⟩:=h;refine⟨_,aC (cx (i:=2) W4.bh (ct (Cv T) ah.mono Y bw (ao (bg (J 0) Y) (ao (bg (J 0) Y) (ao (J 1) az))))) (aC (d3 (c' oS (J 2) (fc i' Y T.hU ia (ao (J 1) az)) (cq _)) (aX (wJ (ze (Cw T) ah Y T.tm bw (ao (da nT (bg (J 0) Y) (J 2)) az)) Y dW)) d8) (aX (yq (J 0) (J 2) yr))),?_⟩;obtain⟨_,_,e8,_⟩:=T.qO;obtain⟨⟨a3,ag⟩,fg,_⟩:=id eo;refine⟨_,Y,x,_,_,_,_,Y,ag,T.cN.1,T.qP,Y,_,Y,x,_,_,_,_,Y,ag,T.cN.1,T.js,Y,_,Y,aD,b,n,wp,wd,Y,fg,q0,λ_ s2=>?_⟩;refine⟨_,Y,_,Y,wp,_,Y,.inl (bp.of (s2 _ _ q0)),_,_,Y,Y,_,Y,?_⟩;rw[iu];have hg:=yO (b.drop n) wd;by_cases ar:dt wd (b.drop n)=a9
 .have a7:=(pa wd (b.drop n)).mp ar;refine e7 (by rw[a7];simp) ⟨_,Y,x,_,_,_,_,Y,s2 _ _ ag,T.cN.1,T.js,Y,_,Y,_,_,Y,Y,a3,_,s2 _ _ ag,(by show 2<1000;decide),?_⟩;refine cJ ar _ (dc.upd (dc.of s2)) ⟨a3,?_⟩;rw[b0,a7];rfl
 have a7:cc (b.drop n) wd≠wd.length:=λz=>ar ((pa wd (b.drop n)).mpr z);refine eJ (eE (by omega)) ⟨_,Y,x,_,_,_,_,Y,s2 _ _ ag,T.cN.1,T.js,Y,_,Y,_,_,Y,Y,g7,zJ e8 λdT bc bE hd=>bL (nK ar) dT bc (dc.of (s2.trans bE)) ?_⟩;rw[hd];rfl
def Cz(a:b5):bF:=λvs H Q E=>∃x aD b n w,vs=[.ref x,.str (cg w)]/\f9 a H x aD b n/\w.length<=1000/\(dt w (b.drop n)=a9->xf a H x aD .bS (n+w.length) Q)/\(dt w (b.drop n)=aJ->om a H x (n+cc (b.drop n) w) E)
theorem jw(T:Txt K a6 a):fY P w K a6 base (pd P w) 4 a.Reader "word" ["self","word"] (Cz a):=by refine T.aas.kq a8H (λf _ A _ s H _ Q E ah h=>?_);obtain⟨x,aD,b,n,wd,rfl,eo,_,cJ,bL⟩:=h;refine⟨_,aX (e6 (dP (Na T) (J 0) T.cN.1 ah dW.passes (ao (ct (rT T) ah.mono Y bw (ao (J 1) az)) az))),?_⟩;obtain⟨_,ag⟩:=id eo.1;refine⟨_,Y,x,_,_,Y,ag,Y,_,Y,wd,Y,(by omega),λl _ _ s1 gn=>?_⟩;exact⟨x,aD,b,n,l,wd,Y,eo.same s1,gn,λar H' c3 lr=>cJ ar H' ((dc.of s1).trans c3) lr,λar dT H' c3 hd=>bL ar dT H' ((dc.of s1).trans c3) hd⟩
def cD(b:aS)(n:Nat):eP:=⟨b.drop n,n⟩
theorem vh(b:aS)(n k:Nat):kl (cD b n) k=cD b (n+k):=by unfold kl cD;simp only[Dy]
theorem xg(b:aS)(n:Nat):(cD b n).next=b[n]?:=by unfold cD a0Y;simp
theorem H7(b:aS)(n:Nat):xa (mH b n)=a9↔∃x,b[n]? =B x/\IW x=a9:=by unfold mH;cases e:b[n]? with|none=>exact⟨λh=>absurd h (by decide),λ⟨x,h,_⟩=>nomatch h⟩|some x=>dsimp only;rw[aca];exact⟨λh=>⟨x,Y,h⟩,λ⟨y,h,h'⟩=>by cases h;exact h'⟩
theorem CA(b:aS)(n:Nat):q1 (mH b n)=a9↔∃x,b[n]? =B x/\Ea x=a9:=by unfold mH;cases e:b[n]? with|none=>exact⟨λh=>absurd h (by decide),λ⟨x,h,_⟩=>nomatch h⟩|some x=>dsimp only;rw[acb];exact⟨λh=>⟨x,Y,h⟩,λ⟨y,h,h'⟩=>by cases h;exact h'⟩
structure q2 (lo hi:Nat) (b:aS) (n k d:Nat):Prop where
 eq:ua lo hi (cD b n)=y8 lo hi (6-k) d (cD b (n+k))
 le:d<=hi
 WZ:k=0/\d=0∨∃j,k=j+1/\10^j<=d
 pl:n+k<=b.length
variable{lo hi:Nat}
theorem q2.start(h:n<=b.length):q2 lo hi b n 0 0:=⟨Y,ek _,.inl ⟨Y,Y⟩,h⟩
theorem q2.lt{d:Nat}(N:q2 lo hi b n k d)(bU:hi<100000):k<6:=by
 obtain⟨h,_⟩|⟨j,h,a5⟩:=N.WZ
 .omega
 have:=N.le;have:¬5<=j:=λz=>by have:=Nat.pow_le_pow_right (n:=10) (by decide) z;have:10^5=100000:=rfl;omega
 omega
theorem q2.step{d e:Nat}(N:q2 lo hi b n k d)(bU:hi<100000)(h:Tf.more lo hi d (cD b (n+k))=B e):q2 lo hi b n (k+1) e:=by
 have aA:=N.lt bU;have b9:=h;unfold Tf.more at b9;rw[xg]at b9;cases a0:b[n+k]? with
 |none=>rw[a0]at b9;cases b9
 |some x=>
  rw[a0]at b9;dsimp only at b9;split at b9
  .rename_i a7
   cases b9;obtain⟨_,gx⟩:=S9 a7.2;refine⟨?_,gx,.inr ⟨k,Y,?_⟩,?_⟩
   .rw[N.eq,show 6-k=(6-(k+1))+1 by omega,Sa h,vh];rfl
   .obtain⟨O,a5⟩|⟨j,O,a5⟩:=N.WZ
    .subst O;omega
    subst O;rw[Z_];omega
   have:=(ec.mp a0).1;omega
  cases b9
theorem q2.stop{d:Nat}(N:q2 lo hi b n k d)(bU:hi<100000)(h:Tf.more lo hi d (cD b (n+k))=aa):ua lo hi (cD b n)=if lo<=d then .ok (d,cD b (n+k))else .error (n+k):=by
 have aA:=N.lt bU;rw[N.eq,show 6-k=(5-k)+1 by omega,Sb h];have:=N.le;by_cases aq:lo<=d
 .rw[aZ ⟨aq,N.le⟩,aZ aq]
 rw[aL (λz=>aq z.1),aL aq];rfl
def Nb(a:b5):bF:=λvs H Q E=>∃x aD b n,∃lo hi:Nat,vs=[.ref x,.int (lo:Int),.int (hi:Int)]/\f9 a H x aD b n/\hi<100000/\(∀d m,ua lo hi (cD b n)=.ok (d,cD b m)->m<=b.length->xf a H x aD (.int ((d:Nat):Int)) m Q)/\(∀m,ua lo hi (cD b n)=.error m->om a H x m E)
def kQ(H:ak)(x:I):Int:=match H x with
 |some (.ins _ _ fs)=>(match fs.lookup ("place" :a8)with
  |some (V.int i)=>i
  |_=>0)
 |_=>0
theorem zK(h:hI a H x aD n):kQ H x=n:=by obtain⟨_,h⟩:=h;unfold kQ;rw[h];rfl
theorem Nc(T:Txt K a6 a):fY P w K a6 base (pd P w) 3 a.Reader "number" ["self","least","most"] (Nb a):=by
 refine T.aav.kq Gs (λf b4 A _ s H _ Q E ah h=>?_);obtain⟨x,aD,b,n,lo,hi,rfl,eo,bU,cJ,bL⟩:=h;have O:dn 1 (A.deeper (fB "Reader.number" (bo Mf) s.heap.objs.size f b4)):=ah.mono;refine⟨_,aC (cx (i:=3) Gs.bh cb) (aC (w0 Ai (je (ct (WU T) O Y bw (ao (g5 (Cx T) (J 0) T.cN.1 O bw) az))) (aC (cx (i:=4) Gs.bh (da nU (da nT (da w5 (J 3) cb) (g5 (Cx T) (J 0) T.cN.1 O bw)) (fc sE Y T.tq vF (ao ee az)))) (aC (d3 (v_ (je (ct (acg T) O Y bw (ao (J 4) (ao (J 1) (ao (J 2) az)))))) (aX Q9) d8) (aC (cx (i:=3) Gs.bh (J 4)) (aX (yq (J 0) cb yr)))))) (aC (d3 (c' oS (J 3) (J 1) (cq _)) (aX (wJ (ze (Cw T) ah Y T.tm bw (ao (bg (J 0) Y) az)) Y dW)) d8) (aX (bG (J 3))))),?_⟩;obtain⟨_,_,e8,_⟩:=T.qO;obtain⟨qX,fg,aH⟩:=id eo;have bV:=vg qX fg;have fin:∀(g6:Option V)(H':ak)(k d:Nat),q2 lo hi b n k d->dc x H H'->hI a H' x aD (n+k)->Tf.more lo hi d (cD b (n+k))=aa->nP (Jf (AP (pL (mu λi j=>.c1 (decide (i<j))) (dr 3) (dr 1))) (nP (TK K (wI a.m1 (xd a.m1 "place") pQ (eL (ji K (dr 0) "place") gc)) E) AF) AF) (nP (oM (dr 3)) AF)
    {c6:=λ_ H'=>Q .bS H',ic:=Q} [B (.ref x),B (.int (lo:Int)),B (.int (hi:Int)),B (.int ((d:Nat):Int)),g6] H':=λg6 H' k d N c3 lr hm=>by
  have ax:=N.stop bU hm;refine⟨_,Y,_,Y,_,_,Y,Y,_,Y,?_⟩;by_cases aq:lo<=d
  .rw[aZ aq]at ax;exact e7 (by simpa using aq) ⟨_,Y,cJ d (n+k) ax N.pl H' c3 lr⟩
  rw[aL aq]at ax;obtain⟨a3,ag⟩:=lr;exact eJ (eE (by omega)) ⟨_,Y,x,_,_,_,_,Y,ag,T.cN.1,T.js,Y,g7,zJ e8 λdT au eI hd=>bL (n+k) ax dT au (c3.trans (dc.of eI)) hd⟩
 refine AL (λaM H'=>∃k d g6,aM=[B (.ref x),B (.int (lo:Int)),B (.int (hi:Int)),B (.int ((d:Nat):Int)),g6]/\q2 lo hi b n k d/\dc x H H'/\hI a H' x aD (n+k))
  (λ_ H'=>((b.length:Int)-kQ H' x).toNat) ⟨0,0,aa,Y,q2.start aH,dc.of (aw.refl H),qX⟩ (λaM H' bK=>?_) (λaM H' _ _ m h=>?_)
 .obtain⟨k,d,g6,rfl,N,c3,lr⟩:=bK;have rW:=c3 _ _ bV fg;have eF:=N.pl;obtain⟨a3,ag⟩:=id lr;refine⟨_,Y,x,_,_,Y,ag,Y,x,aD,b,n+k,Y,⟨lr,rW,N.pl⟩,_,Y,_,Y,?_⟩;cases d2:xa (mH b (n+k))with
  |false=>refine gz (fin g6 H' k d N c3 lr ?_);unfold Tf.more;rw[xg];cases a0:b[n+k]? with|none=>rfl|some y=>dsimp only;rw[aL];intro z;rw[(H7 b (n+k)).mpr ⟨y,a0,z.1⟩]at d2;cases d2
  |true=>
   obtain⟨y,a0,bl⟩:=(H7 b (n+k)).mp d2;have c4:=(ec.mp a0).1;have acp:mH b (n+k)=((y.toNat:Nat):Int):=by unfold mH;rw[a0]
   have akl:48<=y.toNat:=by unfold IW at bl;rw[i8]at bl;exact e3 bl.1
   have akm:d<100000:=lC N.le bU;refine hE ⟨_,Y,_,_,Y,Y,.inr (by decide),_,Y,x,_,_,Y,ag,Y,x,aD,b,n+k,Y,⟨lr,rW,N.pl⟩,_,_,Y,Y,_,Y,Y,_,_,Y,Y,?_⟩;have acq:(((mS "0").cps.getD 0 0:Nat):Int)=48:=by decide+kernel
   have iZ:(d:Int)*10+mH b (n+k)-(((mS "0").cps.getD 0 0:Nat):Int)=((10*d+(y.toNat-48):Nat):Int):=by rw[acp,acq];omega
   show mr 4 (V.int ((d:Int)*10+mH b (n+k)-(((mS "0").cps.getD 0 0:Nat):Int))) _ _ _;rw[iZ];refine⟨_,Y,_,Y,_,Y,10*d+(y.toNat-48),lo,hi,Y,Ih bU (by decide),_,Y,?_⟩;cases hg:t5 lo hi (10*d+(y.toNat-48))with
   |false=>refine hE (fin _ H' k d N c3 lr ?_);unfold Tf.more;rw[xg,a0];dsimp only;rw[aL];intro z;rw[hg]at z;exact absurd z.2 (by decide)
   |true=>
    have acr:Tf.more lo hi d (cD b (n+k))=B (10*d+(y.toNat-48)):=by unfold Tf.more;rw[xg,a0];dsimp only;rw[aZ ⟨bl,hg⟩]
    refine gz ⟨_,Y,_,Y,x,_,_,_,_,Y,ag,T.cN.1,T.js,Y,_,_,Y,Y,a3,_,ag,so,⟨k+1,_,_,Y,N.step bU acr,dc.upd c3,a3,?_⟩,?_⟩
    .rw[b0];rfl
    have O:kQ H' x=((n+k:Nat):Int):=zK lr;have a5:kQ (av H' x (.ins a.Reader a3 (gH "place" (.int (((n+k:Nat):Int)+1)) (rV aD (n+k))))) x=((n+k+1:Nat):Int):=zK (a:=a) (aD:=aD) ⟨a3,by rw[b0];rfl⟩;show((b.length:Int)-kQ _ x).toNat<_;rw[a5,O];omega
 obtain⟨u,e,eN,dT,gZ,aO,aT,dX,gw,CB,b2,cS,hF,ki,i,m4,q,lu,h⟩:=h;exact⟨u,e,eN,dT,gZ,aO,aT,dX,gw,CB,b2,cS,hF,ki,i,m4,q,lu,m _ _ h⟩
abbrev nA(y:UInt8):Bool:=Ea y||Tafl.isDigit y
structure q3 (b:aS) (n k:Nat):Prop where
 aO:(oE nA 16 (cD b n)).1=(b.drop n).take k++(oE nA (16-k) (cD b (n+k))).1
 aT:(oE nA 16 (cD b n)).2=(oE nA (16-k) (cD b (n+k))).2
 le:k<=16
 pl:n+k<=b.length
theorem q3.start(h:n<=b.length):q3 b n 0:=⟨by simp,by simp,by decide,h⟩
theorem q3.step(N:q3 b n k)(aA:k<16){x:UInt8}(ag:b[n+k]? =B x)(ar:nA x=a9):q3 b n (k+1):=by
 have e:16-k=(16-(k+1))+1:=by omega
 have st:=a4H (p:=nA) (n:=16-(k+1)) (c:=cD b (n+k)) (by rw[xg];exact ag) ar;rw[vh]at st;refine⟨?_,?_,aA,?_⟩
 .rw[N.aO,e,st];dsimp only;rw[tU,A5,ag];simp[ZT]
 .rw[N.aT,e,st];rfl
 have:=(ec.mp ag).1;omega
theorem q3.stop(N:q3 b n k)(h:k=16∨∀x,b[n+k]? =B x->nA x=aJ):oE nA 16 (cD b n)=((b.drop n).take k,cD b (n+k)):=by
 have z:oE nA (16-k) (cD b (n+k))=([],cD b (n+k)):=by
  by_cases aA:k=16
  .subst aA;rfl
  have hg:=N.le;rw[show 16-k=(15-k)+1 by omega];exact a4I λx ag=>(h.resolve_left aA) x (by rw[xg]at ag;exact ag)
 refine Prod.ext ?_ ?_
 .rw[N.aO,z];simp
 rw[N.aT,z]
theorem acs(b:aS)(n:Nat):qi (cD b n)=if q1 (mH b n)=a9 then .ok (oE nA 16 (cD b n))else .error n:=by
 unfold qi;rw[xg];cases a0:b[n]? with
 |none=>
  rw[aL]
  .rfl
  intro z;obtain⟨x,h,_⟩:=(CA b n).mp z;rw[a0]at h;cases h
 |some x=>
  dsimp only;by_cases aq:Ea x=a9
  .rw[aZ aq,aZ ((CA b n).mpr ⟨x,a0,aq⟩)]
  rw[aL aq,aL]
  .rfl
  intro z;obtain⟨y,h,a5⟩:=(CA b n).mp z;rw[a0]at h;cases h;exact aq a5
def acu(b:aS)(n:Nat):Prop:=∃y,b[n]? =B y/\nA y=a9
def zL(t:TT):Prop:=∀(G:L2.St)(H:ak)(Q e5:Bool->ak->Prop),(∀b ai,Q b ai->e5 b ai)->t G H Q->t G H e5
theorem Nd{t u:TT}(ba:zL t)(bz:zL u):zL (Jc t u):=λG H Q _ m h=>ba G H _ _ (λc ai z=>by
 cases c
 .exact gz (m _ _ (by simpa using z))
 exact hE (bz G ai _ _ m (by simpa using z))) h
theorem acv{t u:TT}(ba:zL t)(bz:zL u):zL (Jd t u):=λG H Q _ m h=>ba G H _ _ (λc ai z=>by
 cases c
 .exact gz (bz G ai _ _ m (by simpa using z))
 exact hE (m _ _ (by simpa using z))) h
def Nf(a:b5):bF:=λvs H Q E=>∃x aD b n,vs=[.ref x]/\f9 a H x aD b n/\(∀k,q3 b n k->qi (cD b n)=.ok ((b.drop n).take k,cD b (n+k))->∀l H',H l=aa->dc x H H'->hI a H' x aD (n+k)->H' l=B (.lst (cy ((b.drop n).take k)))->Q (.ref l) H')/\(qi (cD b n)=.error n->om a H x n E)
theorem H8(T:Txt K a6 a):fY P w K a6 base (pd P w) 3 a.Reader "name" ["self"] (Nf a):=by
 refine T.aaw.kq W5 (λf b4 A _ s H _ Q E ah h=>?_);obtain⟨x,aD,b,n,rfl,eo,cJ,bL⟩:=h;have O:dn 1 (A.deeper (fB "Reader.name" (bo Mg) s.heap.objs.size f b4)):=ah.mono;refine⟨_,aC (cx (i:=1) W5.bh (bg (J 0) Y)) (aC (d3 (v_ (je (ct (WV T) O Y bw (ao (g5 (Cx T) (J 0) T.cN.1 O bw) az)))) (aX (wJ (ze (Cw T) ah Y T.tm bw (ao (J 1) az)) Y dW)) d8) (aC (w0 Ai (jc.pt (nO (c' oS (da nU (bg (J 0) Y) (J 1)) (cK T.a99 Y) (cq _)) (pI (jc.pt (Eo (je (ct (WV T) O Y bw (ao (g5 (Cx T) (J 0) T.cN.1 O bw) az))) (Je (je (ct (WU T) O Y bw (ao (g5 (Cx T) (J 0) T.cN.1 O bw) az))))))))) (aX (yq (J 0) cb yr))) (aX (bG (sL uq (bg (J 0) Y) (n7 (J 1)) (n7 (bg (J 0) Y))))))),?_⟩;obtain⟨_,_,e8,_⟩:=T.qO;obtain⟨qX,fg,aH⟩:=id eo;have bV:=vg qX fg;obtain⟨_,ag⟩:=id qX;have lh:=acs b n;refine⟨_,Y,x,_,_,_,_,Y,ag,T.cN.1,T.js,Y,_,Y,x,_,_,Y,ag,Y,x,aD,b,n,Y,eo,_,Y,_,Y,?_⟩;cases dg:q1 (mH b n)with
 |false=>rw[dg,aL (by decide)]at lh;exact hE ⟨_,Y,g7,zJ e8 λdT au eI hd=>bL lh dT au (dc.of eI) hd⟩
 |true=>
  rw[dg,aZ Y]at lh;refine gz (AL (λaM H'=>aM=[B (.ref x),B (.int (n:Int))]/\∃k,q3 b n k/\dc x H H'/\hI a H' x aD (n+k)) (λ_ H'=>((b.length:Int)-kQ H' x).toNat) ⟨Y,0,q3.start aH,dc.of (aw.refl H),qX⟩ (λaM H' bK=>?_) (λaM H' xb xc m h=>?_))
  .obtain⟨rfl,k,N,c3,lr⟩:=bK;have rW:=c3 _ _ bV fg;obtain⟨dT,jW⟩:=id lr;have n_:(k=16∨∀y,b[n+k]? =B y->nA y=aJ)->oM (EM (EP K) (ji K (dr 0) "source") (w8 (dr 1)) (w8 (ji K (dr 0) "place"))) {c6:=λ_ H'=>Q .bS H',ic:=Q} [B (.ref x),B (.int (n:Int))] H':=λz=>by
    refine⟨_,Y,x,_,_,_,_,Y,jW,T.cN.1,T.qP,Y,_,Y,_,Y,_,Y,x,_,_,_,_,Y,jW,T.cN.1,T.js,Y,_,Y,aD,_,Y,bp.of rW,λq aQ=>?_⟩;have CC:q≠x:=λz=>by rw[z,jW]at aQ;cases aQ
    have Ng:H q=aa:=by cases e:H q with|none=>rfl|some u=>have:=c3 _ _ CC e;rw[aQ]at this;cases this
    refine cJ k N (by rw[lh,N.stop z]) q _ Ng (dc.WX c3 aQ) ⟨dT,by rw[aN (ed CC)];exact jW⟩ ?_;rw[b0,show((n+k:Nat):Int)=(n:Int)+(k:Int) by omega,zG]
   refine⟨_,Y,x,_,_,_,_,Y,jW,T.cN.1,T.js,Y,_,Y,_,_,Y,Y,_,_,Y,Y,_,Y,?_⟩;have body:acu b (n+k)->k<16->Qv K (dr 0) (iB (.int 1)) Qw "place" {c6:=λaM xh=>(aM=[B (.ref x),B (.int (n:Int))]/\∃k,q3 b n k/\dc x H xh/\hI a xh x aD (n+k))/\((b.length:Int)-kQ xh x).toNat<((b.length:Int)-kQ H' x).toNat,en:=λaM xh=>(aM=[B (.ref x),B (.int (n:Int))]/\∃k,q3 b n k/\dc x H xh/\hI a xh x aD (n+k))/\((b.length:Int)-kQ xh x).toNat<((b.length:Int)-kQ H' x).toNat,gD:=oM (EM (EP K) (ji K (dr 0) "source") (w8 (dr 1)) (w8 (ji K (dr 0) "place"))) {c6:=λ_ H'=>Q .bS H',ic:=Q},ic:=Q} [B (.ref x),B (.int (n:Int))] H':=λ⟨y,bl,ar⟩ aA=>by
    refine⟨_,Y,x,_,_,_,_,Y,jW,T.cN.1,T.js,Y,_,_,Y,Y,dT,_,jW,so,⟨Y,k+1,N.step aA bl ar,dc.upd c3,dT,?_⟩,?_⟩
    .rw[b0];rfl
    have O:kQ H' x=((n+k:Nat):Int):=zK lr;have a5:kQ (av H' x (.ins a.Reader dT (gH "place" (.int (((n+k:Nat):Int)+1)) (rV aD (n+k))))) x=((n+k+1:Nat):Int):=zK (a:=a) (aD:=aD) ⟨dT,by rw[b0];rfl⟩;have:=(ec.mp bl).1;show((b.length:Int)-kQ _ x).toNat<_;rw[a5,O];omega
   by_cases aA:k<16
   .refine eJ (eE (by show((n+k:Nat):Int)-(n:Int)<16;omega)) ⟨_,Y,x,_,_,Y,jW,Y,x,aD,b,n+k,Y,⟨lr,rW,N.pl⟩,_,Y,_,Y,?_⟩;cases Nh:q1 (mH b (n+k))with
    |true=>obtain⟨y,bl,ar⟩:=(CA b (n+k)).mp Nh;exact hE (hE (body ⟨y,bl,by unfold nA;rw[ar];rfl⟩ aA))
    |false=>
     refine gz ⟨_,Y,x,_,_,Y,jW,Y,x,aD,b,n+k,Y,⟨lr,rW,N.pl⟩,_,Y,_,Y,?_⟩;cases d2:xa (mH b (n+k))with
     |true=>obtain⟨y,bl,ar⟩:=(H7 b (n+k)).mp d2;exact hE (body ⟨y,bl,by unfold nA;rw[ar,OS]⟩ aA)
     |false=>
      refine gz (n_ (.inr λy bl=>?_));cases z:nA y with
      |false=>rfl
      |true=>
       obtain z|z:=sb _ _ ▸ z
       .rw[(CA b (n+k)).mpr ⟨y,bl,z⟩]at Nh;cases Nh
       rw[(H7 b (n+k)).mpr ⟨y,bl,z⟩]at d2;cases d2
   have e:k=16:=by have:=N.le;omega
   exact e7 (by show¬decide (((n+k:Nat):Int)-(n:Int)<16)=a9;simp;omega) (gz (n_ (.inl e)))
  refine Nd (λG H Q e5 m h=>?_) (acv (λG H Q e5 m h=>?_) λG H Q e5 m h=>?_) aM H' xb xc m h
  .obtain⟨u,e,eN,C,dT,gZ,kB,aO,aT,dX,hF,ki,jU,m4,i,j,lu,pw,g4,acw,qU,xi,q,CD,h⟩:=h;exact⟨u,e,eN,C,dT,gZ,kB,aO,aT,dX,hF,ki,jU,m4,i,j,lu,pw,g4,acw,qU,xi,q,CD,m _ _ h⟩
  .obtain⟨u,e,eN,dT,gZ,aO,aT,dX,gw,CB,b2,cS,hF,ki,i,m4,q,lu,h⟩:=h;exact⟨u,e,eN,dT,gZ,aO,aT,dX,gw,CB,b2,cS,hF,ki,i,m4,q,lu,m _ _ h⟩
  obtain⟨u,e,eN,dT,gZ,aO,aT,dX,gw,CB,b2,cS,hF,ki,i,m4,q,lu,h⟩:=h;exact⟨u,e,eN,dT,gZ,aO,aT,dX,gw,CB,b2,cS,hF,ki,i,m4,q,lu,m _ _ h⟩
def acx(a:b5):bF:=λvs H Q _=>∃x aD b n,vs=[.ref x]/\f9 a H x aD b n/\∀l H' k,H l=aa->aw H H'->H' l=B (.lst (cy ((b.drop n).take k)))->k<=(b.drop n).length->(∀y∈(b.drop n).take k,y≠10)->(∀y,(b.drop n)[k]? =B y->y=10)->Q (.ref l) H'
theorem acy(y:UInt8):decide (V.int (y.toNat:Int)=V.int 10)=(y==10):=by
 rw[hM,mj,h_];constructor
 .intro z;have z:=V.int.inj z;exact a16.mp (by show y.toNat=10;omega)
 rintro rfl;rfl
theorem acz(T:Txt K a6 a):fY P w K a6 base cj 1 a.Reader "line_ahead" ["self"] (acx a):=by
 refine T.aau.ok Mu (λf _ A _ s H _ Q E _ h=>?_);obtain⟨x,aD,b,n,rfl,⟨⟨_,ag⟩,fg,aH⟩,k⟩:=h;refine⟨_,aC (cx (i:=1) Mu.bh (bg (J 0) Y)) (aC (w0 oz (jc.pt (nO (c' oS (J 1) (fc i' Y T.hU ia (ao (bg (J 0) Y) az)) (cq _)) (pI (c' nW (dV hD (bg (J 0) Y) (J 1) (λ_ _=>rfl)) (cK T.a9a Y) (cq _))))) (aX (v' (i:=1) Mu.bh Y (sg Y) cb EB))) (aX (bG (sL uq (bg (J 0) Y) (n7 (bg (J 0) Y)) (n7 (J 1)))))),_,Y,x,_,_,_,_,Y,ag,T.cN.1,T.js,Y,?_⟩;refine AL (λaM H'=>H'=H/\∃j,aM=[B (.ref x),B (.int ((n+j:Nat):Int))]/\n+j<=b.length/\∀y∈(b.drop n).take j,y≠10)
  (λ(aM:L2.St) _=>match aM[1]? with|some (B (V.int i))=>((b.length:Int)-i).toNat|_=>0) ⟨Y,0,Y,aH,λy bl=>nomatch bl⟩ (λaM H' bK=>?_) (λaM H' xb xc m h=>?_)
 .obtain⟨rfl,j,rfl,_,ip⟩:=bK;have n_:(∀y,(b.drop n)[j]? =B y->y=10)->oM (EM (EP K) (ji K (dr 0) "source") (w8 (ji K (dr 0) "place")) (w8 (dr 1))) {c6:=λ_ H'=>Q .bS H',ic:=Q} [B (.ref x),B (.int ((n+j:Nat):Int))] H':=λz=>by refine⟨_,Y,x,_,_,_,_,Y,ag,T.cN.1,T.qP,Y,_,Y,x,_,_,_,_,Y,ag,T.cN.1,T.js,Y,_,Y,_,Y,_,Y,aD,_,Y,bp.of fg,λq aQ=>?_⟩;refine k q _ j aQ (aw.upd (aw.refl _) aQ) ?_ (by rw[mP];omega) ip z;rw[b0,show((n+j:Nat):Int)=(n:Int)+(j:Int) by omega,zG]
  refine⟨_,Y,_,Y,x,_,_,_,_,Y,ag,T.cN.1,T.qP,Y,aD,_,Y,.inl (bp.of fg),_,_,Y,Y,_,Y,?_⟩;rw[iu];by_cases c4:n+j<b.length
  .refine eJ (eE (by omega)) ?_;have aI:b[n+j]? =B b[n+j]:=f7 c4;have j_:hb (cy b) ((n+j:Nat):Int)=B (.int (b[n+j].toNat:Int)):=gr (by unfold cy;rw[fP,aI];rfl);refine⟨_,Y,x,_,_,_,_,Y,ag,T.cN.1,T.qP,Y,_,Y,aD,_,_,_,Y,Y,bp.of fg,j_,Y,_,Y,?_⟩;have hd:(b.drop n)[j]? =B b[n+j]:=by rw[A5];exact aI
   show if(!decide (V.int (b[n+j].toNat:Int)=V.int 10))=a9 then _ else _
   rw[acy];by_cases e:b[n+j]=10
   .refine e7 (by rw[e];decide) (n_ λy bl=>?_);rw[hd]at bl;cases bl;exact e
   refine eJ (by simpa using e) ⟨_,Y,_,_,Y,Y,⟨Y,j+1,?_,by omega,λy bl=>?_⟩,?_⟩
   .show _=[B (V.ref x),B (V.int ((n+(j+1):Nat):Int))];rw[show((n+(j+1):Nat):Int)=((n+j:Nat):Int)+1 by omega];rfl
   .rw[take_snoc hd]at bl;obtain z|z:=kv.mp bl
    .exact ip y z
    rw[jL.mp z];exact e
   show((b.length:Int)-(((n+j:Nat):Int)+1)).toNat<((b.length:Int)-((n+j:Nat):Int)).toNat;omega
  refine e7 (λz=>c4 (by have:=e3 z;omega)) (n_ λy bl=>?_);rw[A5,qe (by omega)]at bl;cases bl
 refine Nd (λG H Q e5 m h=>?_) (λG H Q e5 m h=>?_) aM H' xb xc m h
 .obtain⟨u,e,jU,e0,eN,C,dT,gZ,kB,aO,aT,dX,hF,ki,fM,ys,m4,lu,i,j,pw,qU,q,xi,h⟩:=h;exact⟨u,e,jU,e0,eN,C,dT,gZ,kB,aO,aT,dX,hF,ki,fM,ys,m4,lu,i,j,pw,qU,q,xi,m _ _ h⟩
 obtain⟨u,e,eN,C,dT,gZ,kB,aO,aT,dX,hF,ki,jU,e0,fM,ys,i,z,m4,lu,pw,qU,xi,q,CD,h⟩:=h;exact⟨u,e,eN,C,dT,gZ,kB,aO,aT,dX,hF,ki,jU,e0,fM,ys,i,z,m4,lu,pw,qU,xi,q,CD,m _ _ h⟩
def acA:bF:=λvs H Q _=>∃aD b,vs=[.ref aD]/\H aD=B (.lst (cy b))/\∀H',aw H H'->Q (.c1 (rj b)) H'
theorem W_(ax:H aD=B (.lst (cy b)))(ag:H x=aa)(hd:H a3=aa)(bV:a3≠x):aw H (av (av H a3 (.own x)) x (.ins a.Reader a3 (rV aD 0)))/\f9 a (av (av H a3 (.own x)) x (.ins a.Reader a3 (rV aD 0))) x aD b 0:=by have s:aw H (av (av H a3 (.own x)) x (.ins a.Reader a3 (rV aD 0))):=aw.upd (aw.new hd) (by rw[aN (ed bV)];exact ag);exact⟨s,⟨a3,b0⟩,s _ _ ax,ek _⟩
theorem acB{m:aS}(h:qi (cD b 0)=.ok (m,cD b k)):rj b=decide (b.length<=k):=by unfold rj;rw[show(⟨b,0⟩:eP)=cD b 0 from Y,h];show(b.drop k).isEmpty=_;rw[hM,mj,List.isEmpty_iff,ahQ]
theorem acC(h:qi (cD b 0)=.error k):rj b=aJ:=by unfold rj;rw[show(⟨b,0⟩:eP)=cD b 0 from Y,h]
theorem W'(T:Txt K a6 a):dK P w K a6 base cj 4 "is_name" ["source"] acA:=by
 refine T.a9Q.ok VX (λf _ A _ s H _ Q E ah h=>?_);obtain⟨aD,b,rfl,fg,k⟩:=h;obtain⟨_,_,e8,_⟩:=id T.qO;refine⟨_,aC (cx (i:=1) VX.bh (pj (N7 T) ah.mono Y T.cN.2 bw (ao (J 0) az))) (aC (a7P (t:=1) (E1:=λcls _ H'=>cls=.ref a.m1/\aw H H'/\rj b=aJ) (th:=oM (iB (.c1 aJ))) Y Y Y T.tm e8 (λcZ bN c=>aC (e6 (g5 (H8 T) (J 1) T.cN.1 ah c.passes)) (aX (e6 (g5 (N8 T) (J 1) T.cN.1 ah c.passes)))) (λe cZ bN=>aX (bG qm))) (aX (bG qm))),_,Y,λx a3 ag hd bV=>⟨x,a3,aD,Y,b0,Y,?_⟩⟩;rw[iT];obtain⟨s1,ot⟩:=W_ (a:=a) fg ag hd bV;generalize av (av H a3 (.own x)) x (.ins a.Reader a3 (rV aD 0))=ai at s1 ot ⊢;obtain⟨_,lW⟩:=id ot.1;have keep:∀H',dc x ai H'->aw H H':=λH' c3 c u q=>c3 c u (cU q ag) (s1 _ _ q);refine⟨?_,λcls _ H' f3=>⟨f3.1,?_⟩⟩
 .refine⟨_,Y,x,_,_,Y,lW,Y,x,aD,b,0,Y,ot,λn N bR l au _ c3 iP _=>?_,λacD m3 au c3 _=>⟨Y,keep au c3,acC acD⟩⟩;rw[a00]at bR iP;have e:=acB bR;obtain⟨m3,hv⟩:=id iP;have hg:=N.pl;refine⟨_,Y,x,_,_,Y,hv,Y,x,aD,b,n,Y,⟨iP,c3 _ _ (vg ot.1 ot.2.1) ot.2.1,(by omega)⟩,λaH=>?_,λaH _ bc ou _=>⟨Y,keep bc (c3.trans ou),?_⟩⟩
  .have c7:=k au (keep au c3);rw[e,eE aH]at c7;exact c7
  rw[e,gP (by omega)]
 have c7:=k H' f3.2.1;rw[f3.2.2]at c7;exact c7
structure mJ where
 acE:I
 wide:Nat
 high:Nat
 ground:a8
 qY:a8
 first:Nat
 slides:Nat
 armed:Nat
 four:Nat
 passed:Nat
 seat:Nat
 exits:Nat
 goal:Nat
 thrice:Nat
 limit:Nat
def hJ(v:mJ):List (a8×V):=[("own_name",.ref v.acE),("wide",.int (v.wide:Int)),("high",.int (v.high:Int)),("ground",.str v.ground),("board",.str v.qY),("first",.int (v.first:Int)),("slides",.int (v.slides:Int)),("armed",.int (v.armed:Int)),("four",.int (v.four:Int)),("passed",.int (v.passed:Int)),("seat",.int (v.seat:Int)),("exits",.int (v.exits:Int)),("goal",.int (v.goal:Int)),("thrice",.int (v.thrice:Int)),("limit",.int (v.limit:Int))]
def mK(a:b5)(H:ak)(p:I)(v:mJ):Prop:=∃a3,H p=B (.ins a.Rules a3 (hJ v))
def X1:a8:=dA (hO 169 46)
def hj(n:I)(w h:Nat):mJ:=⟨n,w,h,X1,X1,0,0,0,0,0,0,0,0,0,1⟩
def acF(a:b5):bF:=λvs H Q _=>∃x a3 n,∃wd aI:Nat,vs=[.ref x,.ref n,.int (wd:Int),.int (aI:Int)]/\H x=B (.ins a.Rules a3 [])/\Q .bS (av H x (.ins a.Rules a3 (hJ (hj n wd aI))))
def X2(c:Nat)(s:Nat)(p:Nat):List (a8×V):=[("cell",.int (c:Int)),("sign",.str ⟨#[s]⟩),("place",.int (p:Int))]
def m5(a:b5)(H:ak)(m:I)(x:Nat×Nat×Nat):Prop:=∃a3,H m=B (.ins a.Mark a3 (X2 x.1 x.2.1 x.2.2))
def acG(a:b5):bF:=λvs H Q _=>∃x a3 u v w,vs=[.ref x,u,v,w]/\H x=B (.ins a.Mark a3 [])/\Q .bS (av H x (.ins a.Mark a3 [("cell",u),("sign",v),("place",w)]))
def i7(p:I)(len:Nat)(g s:I)(lb:Nat):List (a8×V):=[("rules",.ref p),("length",.int (len:Int)),("ground_marks",.ref g),("start_marks",.ref s),("goal_place",.int (lb:Int))]
def acH(a:b5):bF:=λvs H Q _=>∃x a3 p,∃len:Nat,vs=[.ref x,.ref p,.int (len:Int)]/\H x=B (.ins a.gU a3 [])/\∀g s,H g=aa->H s=aa->g≠s->∀H',(∀b o,b≠x->H b=B o->H' b=B o)->H' g=B (.lst [])->H' s=B (.lst [])->H' x=B (.ins a.gU a3 (i7 p len g s 0))->Q .bS H'
theorem acI(T:Txt K a6 a):ph P w K a6 base cj 1 a.Rules ["self","own_name","wide","high"] (acF a):=by refine T.aam.ok a8C (λf _ A _ s H _ Q E _ h=>?_);obtain⟨x,_,n,_,_,rfl,ag,k⟩:=h;refine⟨_,aC (dY (J 0) (J 1) Y) (aC (dY (J 0) (J 2) Y) (aC (dY (J 0) (J 3) Y) (aC (dY (J 0) (da U1 (eU T.MG Y) (cK T.MC Y)) Y) (aC (dY (J 0) (da U1 (eU T.zt Y) (cK T.MC Y)) Y) (aC (dY (J 0) (cK T.Gu Y) Y) (aC (dY (J 0) cb Y) (aC (dY (J 0) cb Y) (aC (dY (J 0) cb Y) (aC (dY (J 0) cb Y) (aC (dY (J 0) cb Y) (aC (dY (J 0) cb Y) (aC (dY (J 0) cb Y) (aC (dY (J 0) cb Y) (aX (dY (J 0) cb Y))))))))))))))),?_⟩;have X3:(V.str ".")=V.str ⟨#[46]⟩:=f_ V.str (oh .none).symm;refine⟨_,Y,_,Y,x,_,_,_,Y,ag,T.dk.1,T.MI,by decide,_,Y,_,Y,x,_,_,_,Y,b0,T.dk.1,T.zu,ql,_,Y,_,Y,x,_,_,_,Y,b0,T.dk.1,T.x2,so,46,169,X3,Y,by decide,by decide,_,Y,x,_,_,_,Y,b0,T.dk.1,T.oe,PU,46,169,X3,Y,by decide,by decide,_,Y,x,_,_,_,Y,b0,T.dk.1,T.Ck,PV,_,Y,x,_,_,_,Y,b0,T.dk.1,T.MJ,Ax,_,Y,x,_,_,_,Y,b0,T.dk.1,T.MK,I_,_,Y,x,_,_,_,Y,b0,T.dk.1,T.Cm,(by show 7<1000;decide),_,Y,x,_,_,_,Y,b0,T.dk.1,T.ML,(by show 8<1000;decide),_,Y,x,_,_,_,Y,b0,T.dk.1,T.Gx,(by show 9<1000;decide),_,Y,x,_,_,_,Y,b0,T.dk.1,T.Gy,(by show 10<1000;decide),_,Y,x,_,_,_,Y,b0,T.dk.1,T.MM,(by show 11<1000;decide),_,Y,x,_,_,_,Y,b0,T.dk.1,T.Cn,(by show 12<1000;decide),_,Y,x,_,_,_,Y,b0,T.dk.1,T.MN,(by show 13<1000;decide),_,Y,x,_,_,_,Y,b0,T.dk.1,T.MO,(by show 14<1000;decide),?_⟩;simp only[iT];exact k
theorem acJ(T:Txt K a6 a):ph P w K a6 base cj 1 a.Mark ["self","cell","sign","place"] (acG a):=by refine T.aaK.ok a8S (λf _ A _ s H _ Q E _ h=>?_);obtain⟨x,_,u,v,w,rfl,ag,k⟩:=h;refine⟨_,aC (dY (J 0) (J 1) Y) (aC (dY (J 0) (J 2) Y) (aX (dY (J 0) (J 3) Y))),_,Y,_,Y,x,_,_,_,Y,ag,T.pq.1,T.GF,by decide,_,Y,_,Y,x,_,_,_,Y,b0,T.pq.1,T.GG,ql,_,Y,_,Y,x,_,_,_,Y,b0,T.pq.1,T.GH,so,?_⟩;simp only[iT];exact k
theorem acK(T:Txt K a6 a):ph P w K a6 base cj 1 a.gU ["self","rules","length"] (acH a):=by
 refine T.aaL.ok a8T (λf _ A _ s H _ Q E _ h=>?_);obtain⟨x,_,p,_,rfl,ag,k⟩:=h;refine⟨_,aC (dY (J 0) (J 1) Y) (aC (dY (J 0) (J 2) Y) (aC (dY (J 0) (fv az) Y) (aC (dY (J 0) (fv az) Y) (aX (dY (J 0) cb Y))))),_,Y,_,Y,x,_,_,_,Y,ag,T.jt.1,T.zw,by decide,_,Y,_,Y,x,_,_,_,Y,b0,T.jt.1,T.Wr,ql,ek _,λg aI=>?_⟩;have CE:g≠x:=λz=>by rw[z,b0]at aI;cases aI
 rw[iT]at aI ⊢;rw[aN CE]at aI;refine⟨_,Y,x,_,_,_,Y,(by rw[aN (ed CE),b0]),T.jt.1,T.GI,(by show 2<1000;decide),ek _,λt ba=>?_⟩;have CF:t≠x:=λz=>by rw[z,b0]at ba;cases ba
 rw[aN CF]at ba;have Ni:t≠g:=λz=>by rw[z,b0]at ba;cases ba
 rw[aN Ni,aN CF]at ba;refine⟨_,Y,x,_,_,_,Y,(by rw[aN (ed CF),b0]),T.jt.1,T.zx,(by show 3<1000;decide),_,Y,x,_,_,_,Y,b0,T.jt.1,T.GJ,(by show 4<1000;decide),?_⟩;refine k g t aI ba (ed Ni) _ (λb o a0 q=>?_) ?_ ?_ ?_
 .rw[aN a0,aN a0,aN (cU q ba),aN a0,aN (cU q aI),aN a0];exact q
 .rw[aN CE,aN CE,aN (ed Ni),aN CE,b0]
 .rw[aN CF,aN CF,b0]
 rw[b0];rfl
abbrev h4:=Nat×Nat×Nat
def fO(a:b5)(H:ak)(l:I)(cz:List h4):Prop:=∃cX:List I,H l=B (.lst (cX.map V.ref))/\cX.length=cz.length/\∀(i:Nat) m x,cX[i]? =B m->cz[i]? =B x->m5 a H m x
theorem m5.same{m:I}{x:h4}(h:m5 a H m x)(s:aw H H'):m5 a H' m x:=let⟨a3,q⟩:=h;⟨a3,s _ _ q⟩
theorem fO.same{l:I}{cz:List h4}(h:fO a H l cz)(s:aw H H'):fO a H' l cz:=let⟨cX,O,a5,aG⟩:=h;⟨cX,s _ _ O,a5,λi m x q r=>(aG i m x q r).same s⟩
def qZ(cz:List h4):List Nat:=cz.foldl (λl m=>l.set m.1 m.2.1) (hO 169 46)
theorem X4(cz:List h4)(l:List Nat):(cz.foldl (λl m=>l.set m.1 m.2.1) l).length=l.length:=by induction cz generalizing l with|nil=>rfl|cons m cz ih=>rw[vB,ih,qf]
theorem acL(cz:List h4):(qZ cz).length=169:=by unfold qZ;rw[X4,DC]
def acM(a:b5):bF:=λvs H Q _=>∃l cz,vs=[.ref l]/\fO a H l cz/\(∀m∈cz,m.1<169)/\∀H',aw H H'->Q (.str (dA (qZ cz))) H'
theorem zM{cX:List I}{v:V}(h:(cX.map V.ref)[i]? =B v):∃m,cX[i]? =B m/\v=.ref m:=by rw[fP]at h;cases e:cX[i]? with|none=>rw[e]at h;cases h|some m=>rw[e]at h;cases h;exact⟨m,Y,Y⟩
theorem X5(T:Txt K a6 a):dK P w K a6 base cj 1 "laid_out" ["marks"] (acM a):=by
 refine T.aad.ok Mq (λf _ A _ s H _ Q E _ h=>?_);obtain⟨l,cz,rfl,hm,a7,k⟩:=h;refine⟨_,aC (cx (i:=1) Mq.bh (da a2S (fv (ao ee az)) (cK T.MC Y))) (aC (nR oz Y (nQ (J 0)) (g_ (i:=2) Mq.bh) (aX (Es (bg (J 2) Y) (Er (J 1) (bg (J 2) Y) EO)))) (aX (bG (Bk ee (J 1))))),g7,λng CG=>⟨ng,_,_,Y,Y,b0,by decide,by decide,(by show 1*169<=cM;decide),λcl e_=>?_⟩⟩;have X6:aw H (av H ng (.lst [.str "."])):=aw.new CG;have acN:H cl=aa:=X6.free e_;have s1:aw H (av (av H ng (.lst [.str "."])) cl (.lst (hO (169:Int).toNat [V.str "."]).flatten)):=aw.upd X6 e_;obtain⟨cX,O,a5,aG⟩:=id hm;have e0:(hO (169:Int).toNat [V.str "."]).flatten=pv (hO 169 46):=by rw[List.flatten_replicate_singleton];unfold pv;rw[List.map_replicate,show(⟨#[46]⟩:a8)="." from oh .none];rfl
 refine⟨_,Y,l,Y,⟨_,bp.of (s1 _ _ O)⟩,yn (xs:=cX.map V.ref) (λi aM H'=>∃v,aM=[B (.ref l),B (.ref cl),v]/\aw H H'/\H' cl=B (.lst (pv ((cz.take i).foldl (λl m=>l.set m.1 m.2.1) (hO 169 46))))) ⟨aa,Y,s1,?_⟩ (λi aM H' _ bK=>?_) (λi v aM H' hi bK=>?_) λaM H' bK=>?_⟩
 .rw[b0,e0];rfl
 .obtain⟨v,rfl,aE,_⟩:=bK;exact bp.of (aE _ _ O)
 .obtain⟨Gh,rfl,aE,a0⟩:=bK;obtain⟨m,CH,rfl⟩:=zM hi;have c4:i<cz.length:=by rw[<-a5];exact(ec.mp CH).1
  have ag:=f7 c4;obtain⟨_,hd⟩:=(aG i m _ CH ag).same aE;have Ek:=a7 _ (mQ ag);refine⟨_,Y,m,_,_,_,_,Y,hd,T.pq.1,T.GG,Y,_,Y,_,Y,m,_,_,_,_,Y,hd,T.pq.1,T.GF,Y,cl,_,_,cz[i].1,Y,Y,a0,?_,_,Y,?_,?_⟩
  .unfold pv;rw[cW,X4,DC];exact G_ Ek
  .exact λb o z=>by rw[aN (cU z acN)];exact aE _ _ z
  rw[b0,take_snoc ag,G',ZG];rfl
 obtain⟨Gh,rfl,aE,a0⟩:=bK;rw[cW,a5,j8]at a0;refine⟨⟨_,Y⟩,_,Y,"",cl,(qZ cz).map λ(c:Nat)=>(⟨#[c]⟩:a8),Y,Y,.inl (bp.of (a0.trans ?_)),?_,?_⟩
 .unfold pv qZ;rw[ix];rfl
 .rw[WN,cW,acL];show 169+169*0<=_;decide
 rw[WM];exact k H' aE
theorem H9{w:aS}(h:dt w b=a9):w.length<=b.length:=by rw[<-(pa w b).mp h];exact R' b w
variable{Q:cR}{ls:List String}
section
variable{wd:bI}{w:aS}{v:V}
theorem Ha(eo:Hg.f9 a H x aD b n)(e:z=cg w)(aq:w.length<=1000)(O:∀m,eu w (cD b n)=.ok (cD b m)->m<=b.length->xf a H x aD .bS m Q)(a5:∀k,eu w (cD b n)=.error k->om a H x k E):Cz a [.ref x,.str z] H Q E:=by
 have ax:=Fq w (cD b n);rw[show(cD b n).rest=b.drop n from Y]at ax;refine⟨x,aD,b,n,w,by rw[e],eo,aq,λar=>?_,λar=>?_⟩
 .rw[aZ ar,vh]at ax;have:=H9 ar;have aH:=eo.2.2;exact O _ ax (by rw[mP]at this;omega)
 rw[aL (by rw[ar];decide)]at ax;exact a5 _ ax
def nB(ls:List String):List (Nat×aS):=(eA ls.length).map λ(i:Nat)=>(i,hn (ls.getD i ""))
theorem CI(ls:List String):(nB ls).map (·.2)=ls.map hn:=by
 unfold nB;rw[ix];refine I5 λi=>?_;rw[fP,fP];by_cases h:i<ls.length
 .rw[ahV h,f7 h];show B (hn (ls.getD i ""))=B (hn ls[i]);rw[tQ,f7 h];rfl
 rw[qe (by simpa using h),qe (by simpa using h)];rfl
theorem X7{u:Nat×aS}(h:(nB ls)[i]? =B u):u.1=i/\(ls.map hn)[i]? =B u.2:=by
 have a5:((nB ls).map (·.2))[i]? =B u.2:=by rw[fP,h];rfl
 rw[CI]at a5;refine⟨?_,a5⟩;unfold nB at h;rw[fP]at h;cases e:(eA ls.length)[i]? with|none=>rw[e]at h;cases h|some j=>rw[e]at h;cases h;have:=ec.mp e;obtain⟨O,a5⟩:=this;simpa using a5.symm
theorem acO{u:aS}(h:(ls.map hn)[i]? =B u):(nB ls)[i]? =B (i,u):=by rw[<-CI,fP]at h;cases e:(nB ls)[i]? with|none=>rw[e]at h;cases h|some q=>rw[e]at h;cases h;rw[<-(X7 e).1]
theorem acP(CJ:uC (nB ls))(ne:ls≠[])(aq:∀u∈ls.map hn,u.length<16)(c:eP):(∀i u,(ls.map hn)[i]? =B u->dt u c.rest=a9->(∀j t,j<i->(ls.map hn)[j]? =B t->dt t c.rest=aJ)->mX ls c=.ok (i,kl c u.length))/\((∀u∈ls.map hn,dt u c.rest=aJ)->mX ls c=.error (c.at_+mI (ls.map hn) c.rest)):=by
 have ax:mX ls c=_:=S7 16 (nB ls) c CJ (λe=>ne (by have:=f_ tR e;unfold nB at this;simpa using this)) (λu bz=>aq u.2 (by rw[<-CI];exact ZN bz));refine⟨λi u hi ar bX=>?_,λaH=>?_⟩
 .have hf:(nB ls).find? (λw=>dt w.2 c.rest)=B (i,u):=by
   rw[ahT];have WW:=acO hi;obtain⟨bx,cw⟩:=ec.mp WW;refine⟨ar,i,bx,cw,λj xj=>?_⟩;have U4:j<(nB ls).length:=by omega
   have:=X7 (f7 U4);rw[bX j _ xj this.2];rfl
  rw[ax,hf]
 have hf:(nB ls).find? (λw=>dt w.2 c.rest)=aa:=xE.mpr λu bz=>by rw[aH u.2 (by rw[<-CI];exact ZN bz)];decide
 rw[ax,hf];dsimp only;unfold t4 mI;rw[<-CI,ix];rfl
theorem acQ(eo:Hg.f9 a H x aD b n)(bk:∀H',aw H H'->Holds K H' v (oo (ls.map hn)))(CJ:uC (nB ls))(ne:ls≠[])(aq:∀u∈ls.map hn,u.length<16)(O:∀i m,mX ls (cD b n)=.ok (i,cD b m)->m<=b.length->xf a H x aD (.int ((i:Nat):Int)) m Q)(a5:∀k,mX ls (cD b n)=.error k->om a H x k E):H6 K a [.ref x,v] H Q E:=by obtain⟨s1,s2⟩:=acP CJ ne aq (cD b n);refine⟨x,aD,b,n,v,ls.map hn,Y,eo,.inl bk,λu bz=>hl (Ih (aq u bz) (by decide)),λi u hi ar bX=>?_,λaH=>a5 _ (s2 aH)⟩;have:=H9 ar;have aH:=eo.2.2;have z:=s1 i u hi ar bX;rw[vh]at z;exact O i _ z (by rw[mP]at this;omega)
end
structure CK {bu:Type} (S:a8) (ei:UInt8->Option bu) (d5:bu->Nat) (di:List aS):Prop where
 hold:(S.cps.toList.map λ(c:Nat)=>V.str ⟨#[c]⟩)=oo di
 one:∀(i:Nat) u,di[i]? =B u->∃c k,u=[c]/\ei c=B k/\hb S.cps.toList (i:Int)=B (d5 k)
 none:∀c,(∀u∈di,u≠[c])->ei c=none
theorem acR:CK (".SX#" :a8) PN Tf.eh [[46],[83],[88],[35]]:=by
 refine⟨by decide+kernel,λi u h=>?_,λc h=>?_⟩
 .match i,h with
  |0,h=>cases h;exact⟨46,.plain,Y,Y,by decide+kernel⟩
  |1,h=>cases h;exact⟨83,.seat,Y,Y,by decide+kernel⟩
  |2,h=>cases h;exact⟨88,.exit,Y,Y,by decide+kernel⟩
  |3,h=>cases h;exact⟨35,.wall,Y,Y,by decide+kernel⟩
  |i+4,h=>simp at h
 simp only[dx,r7,qk,ne_eq,forall_eq_or_imp,forall_eq,ZA,and_true]at h;unfold PN;rw[aL (λz=>h.1 z.symm),aL (λz=>h.2.1 z.symm),aL (λz=>h.2.2.1 z.symm),aL (λz=>h.2.2.2 z.symm)]
theorem acS:CK (".hmK" :a8) PQ Tf.pc [[46],[104],[109],[75]]:=by
 refine⟨by decide+kernel,λi u h=>?_,λc h=>?_⟩
 .match i,h with
  |0,h=>cases h;exact⟨46,.none,Y,Y,by decide+kernel⟩
  |1,h=>cases h;exact⟨104,.hunter,Y,Y,by decide+kernel⟩
  |2,h=>cases h;exact⟨109,.man,Y,Y,by decide+kernel⟩
  |3,h=>cases h;exact⟨75,.king,Y,Y,by decide+kernel⟩
  |i+4,h=>simp at h
 simp only[dx,r7,qk,ne_eq,forall_eq_or_imp,forall_eq,ZA,and_true]at h;unfold PQ;rw[aL (λz=>h.1 z.symm),aL (λz=>h.2.1 z.symm),aL (λz=>h.2.2.1 z.symm),aL (λz=>h.2.2.2 z.symm)]
theorem X8{c:UInt8}:dt [c] (b.drop n)=a9↔b[n]? =B c:=by
 have:(b.drop n).head? =b[n]?:=by simp
 rw[<-this];cases b.drop n with|nil=>simp[dt]|cons y t=>simp[dt];exact⟨λh=>h.symm,λh=>h.symm⟩
theorem X9{b:aS}:∀{di:List aS},(∀u∈di,cc b u=0)->mI di b=0
 |[],_=>rfl
 |u::di,h=>by have:=X9 λt ba=>h t (ez u ba);unfold mI at this ⊢;rw[i9,ZH,h u (by simp),this];rfl
theorem acT{S:a8}{ei:UInt8->Option bu}{d5:bu->Nat}{di:List aS}(aj:CK S ei d5 di)(h:∀u∈di,dt u (b.drop n)=aJ):b[n]?.bind ei=aa/\mI di (b.drop n)=0:=by
 have one:∀u∈di,∃c,u=[c]:=λu bz=>by obtain⟨i,hi⟩:=A6 bz;obtain⟨c,k,e,_⟩:=aj.one i u hi;exact⟨c,e⟩
 constructor
 .cases e:b[n]? with|none=>rfl|some c=>refine aj.none c λu bz z=>?_;have:=h u bz;rw[z,X8.mpr e]at this;cases this
 have:∀u∈di,cc (b.drop n) u=0:=λu bz=>by
  obtain⟨c,rfl⟩:=one u bz;have O:=Tf.yO (b.drop n) [c];have a5:=h [c] bz;have aG:cc (b.drop n) [c]≠[c].length:=λz=>by rw[(pa [c] (b.drop n)).mpr z]at a5;cases a5
  simp at O aG;omega
 exact X9 this
theorem jK{j3 d':I}{gZ:List (a8×V)}(h:H x=B (.ins C d fs))(h':H p=B (.ins j3 d' gZ))(n:fs.length≠gZ.length):x≠p:=λz=>by subst z;rw[h]at h';cases gX h';exact n Y
theorem eV{l:I}{vs:List V}(h:H l=B (.lst vs))(h':H p=B (.ins C d fs)):l≠p:=λz=>by rw[z,h']at h;cases h
variable{v:mJ}
section
variable{l m:I}{y:h4}{cz:List h4}
theorem mK.ne(h:mK a H p v)(r:hI a H x aD n):p≠x:=by obtain⟨d,h⟩:=h;obtain⟨e,r⟩:=r;exact jK h r (by show(15:Nat)≠2;decide)
theorem mK.q_(h:mK a H p v)(r:hI a H x aD n)(s:dc x H H'):mK a H' p v:=let q:=h.ne r;let⟨d,z⟩:=h;⟨d,s _ _ q z⟩
theorem m5.ne(h:m5 a H m y)(r:hI a H x aD n):m≠x:=by obtain⟨d,h⟩:=h;obtain⟨e,r⟩:=r;exact jK h r (by show(3:Nat)≠2;decide)
theorem m5.q_(h:m5 a H m y)(r:hI a H x aD n)(s:dc x H H'):m5 a H' m y:=let q:=h.ne r;let⟨d,z⟩:=h;⟨d,s _ _ q z⟩
theorem fO.q_(h:fO a H l cz)(r:hI a H x aD n)(s:dc x H H'):fO a H' l cz:=by obtain⟨cX,O,a5,aG⟩:=h;obtain⟨_,ag⟩:=id r;exact⟨cX,s _ _ (eV O ag) O,a5,λi m y bx cw=>(aG i m y bx cw).q_ r s⟩
theorem fO.nil{l:I}(h:H l=B (.lst [])):fO a H l []:=⟨[],h,Y,λi m y q=>by simp at q⟩
theorem fO.more{cX:List I}(O:H l=B (.lst (cX.map V.ref)))(a5:cX.length=cz.length)(aG:∀(i:Nat) m x,cX[i]? =B m->cz[i]? =B x->m5 a H m x)(hm:H m=aa)(hd:H d=aa)(bV:d≠m):fO a (av (av (av H d (.own m)) m (.ins a.Mark d (X2 y.1 y.2.1 y.2.2))) l (.lst (cX.map V.ref++[.ref m]))) l (cz++[y]):=by
 have acU:m≠l:=λz=>by rw[z,O]at hm;cases hm
 refine⟨cX++[m],by rw[b0,fH];rfl,by simp[a5],λi m' rG bx cw=>?_⟩;by_cases hi:i<cX.length
 .rw[kV hi]at bx;rw[kV (by omega)]at cw;obtain⟨a3,ag⟩:=aG i m' rG bx cw;have dZ:m'≠l:=λz=>by rw[z,O]at ag;cases ag
  exact⟨a3,by rw[aN dZ,aN (cU ag hm),aN (cU ag hd)];exact ag⟩
 rw[pz (by omega)]at bx;rw[pz (by omega)]at cw;obtain⟨j,e⟩:∃j,i-cX.length=j:=⟨_,Y⟩;rw[<-a5,e]at cw;rw[e]at bx;cases j with|zero=>cases bx;cases cw;exact⟨d,by rw[aN acU,b0]⟩|succ j=>simp at bx
end
theorem Xa(d5:bu->Nat)(d:bu)(high i p:Nat)(row:List bu):(qD d5 d high i p row).length<=row.length:=by unfold qD;exact dC (O' ..) (by rw[Ia];exact cO _)
theorem Nj(d5:bu->Nat)(d:bu)(high w:Nat)(cH:List (List bu))(fE:List Nat)(h:∀r∈cH,r.length=w):(kK d5 d high cH fE).length<=cH.length*w:=by
 unfold kK;rw[List.length_flatMap];have:∀(l:List Nat)(f:Nat->Nat),(∀i∈l,f i<=w)->(l.map f).sum<=l.length*w:=by intro l f;induction l with|nil=>intro _;simp|cons x l ih=>intro hf;have O:=hf x (by simp);have a5:=ih λi hi=>hf i (ez _ hi);rw[i9,Ie,fQ,Ig];omega
 have z:=this (eA cH.length) (λi=>(qD d5 d high i (fE.getD i 0) (cH.getD i [])).length) λi hi=>by have hi:=fR.mp hi;refine dC (Xa ..) ?_;rw[tQ,f7 hi];exact Ac (h _ (ahY ..))
 rw[Ia]at z;exact z
theorem acV:("\n" :a8)=cg [10]:=by decide+kernel
theorem acW{S:a8}{ei:UInt8->Option bu}{d5:bu->Nat}{di:List aS}(aj:CK S ei d5 di):S.length=di.length:=by have:=f_ tR aj.hold;unfold oo at this;rw[cW,cW]at this;rw[<-this];rfl
def acX(a:b5):bF:=λvs H Q E=>∃(bu:Type)(S:a8)(ei:UInt8->Option bu)(d5:bu->Nat)(d:bu)(di:List aS)(x aD:I)(b:aS)(n:Nat)(p:I)(v:mJ),vs=[.ref x,.ref p,.str S]/\CK S ei d5 di/\di.length<=1000/\f9 a H x aD b n/\mK a H p v/\v.wide<=13/\v.high<=13/\(∀l H' cH fE m,H l=aa->dc x H H'->hI a H' x aD m->m<=b.length->oD ei v.wide v.high (cD b n)=.ok (cH,fE,cD b m)->fO a H' l (kK d5 d v.high cH fE)->Q (.ref l) H')/\(∀k,oD ei v.wide v.high (cD b n)=.error k->om a H x k E)
theorem Xb(T:Txt K a6 a):dK P w K a6 base (pd P w) 5 "read_marks" ["reader","rules","signs"] (acX a):=by
 refine T.aac.kq zm (λf _ A _ s H _ Q E ah h=>?_);obtain⟨_,S,ei,d5,d,di,x,aD,b,n,p,v,rfl,aj,acY,eo,bk,acZ,_,cJ,bL⟩:=h;refine⟨_,aC (cx (i:=3) zm.bh (fv az)) (aC (nR Ai Y (AI Y T.zy (ao (bg (J 1) Y) az)) (g_ (i:=4) zm.bh) (aC (nR Ai Y (AI Y T.zy (ao (bg (J 1) Y) az)) (g_ (i:=5) zm.bh) (aC (cx (i:=6) zm.bh (bg (J 0) Y)) (aC (cx (i:=7) zm.bh (dV n8 (J 2) (dP (qW T) (J 0) T.cN.1 ah.mono dW.passes (ao (J 2) az)) (λ_ _=>rfl))) (aX (d3 (c' nW (J 7) ee (cq _)) (aX (e6 (pM oy tV vI sO (J 3) (ao (pj (acJ T) ah.mono Y T.pq.2 bw (ao (da nT (da w5 (cK T.pZ Y) (da nU (da nU (bg (J 1) Y) cb) (J 4))) (J 5)) (ao (J 7) (ao (J 6) az)))) az)))) d8))))) (aX (e6 (dP (jw T) (J 0) T.cN.1 ah dW.passes (ao ee az)))))) (aX (bG (J 3)))),?_⟩;obtain⟨qX,fg,aH⟩:=id eo;have bV:=vg qX fg;have ad0:S.length<=cM:=by rw[acW aj];exact dC acY (by decide)
 refine⟨ek _,λl aq=>?_⟩;have s1:aw H (av H l (.lst [])):=aw.new aq;obtain⟨_,Nk⟩:=id (bk.q_ qX (dc.of s1));refine⟨_,Y,p,_,_,_,_,Y,Nk,T.dk.1,T.x2,Y,((v.high:Nat):Int),Y,(by omega),(by omega),?_⟩;refine Qj (lo:=0) (n:=v.high) (λi aM H'=>∃g6 fy hV nC cH fE m,aM=[B (.ref x),B (.ref p),B (.str S),B (.ref l),g6,fy,hV,nC]/\dc x H H'/\hI a H' x aD m/\m<=b.length/\yU ei v.wide b n i cH fE m/\fO a H' l (kK d5 d v.high cH fE))
  ⟨aa,aa,aa,aa,[],[],n,Y,dc.of s1,(eo.same s1).1,aH,a5s _ _,fO.nil b0⟩ (λi aM H' _ bK=>?_) λaM H' bK=>?_
 .obtain⟨g6,fy,hV,nC,cH,fE,m,rfl,c3,kR,hm,zN,xk⟩:=bK;have kO:(0:Int)+(i:Int)=(i:Int):=by omega
  rw[kO];obtain⟨j1,ad1,ad2,_⟩:=id zN;obtain⟨_,ad3⟩:=id (bk.q_ qX c3);refine⟨_,Y,p,_,_,_,_,Y,ad3,T.dk.1,T.zu,Y,((v.wide:Nat):Int),Y,(by omega),(by omega),?_⟩;refine Qj (lo:=0) (n:=v.wide) (λj aM H'=>∃fy hV nC row,aM=[B (.ref x),B (.ref p),B (.str S),B (.ref l),B (.int (i:Int)),fy,hV,nC]/\dc x H H'/\hI a H' x aD (m+j)/\m+j<=b.length/\yT ei b m j row/\fO a H' l (kK d5 d v.high cH fE++qD d5 d v.high i m row))
   ⟨fy,hV,nC,[],Y,c3,kR,hm,a5p _,(by rw[show qD d5 d v.high i m []=[]from Y,hN];exact xk)⟩ (λj aM H' _ bK=>?_) λaM H' bK=>?_
  .obtain⟨fy,hV,nC,row,rfl,c3,ot,lZ,tw,xk⟩:=bK;have qV:(0:Int)+(j:Int)=(j:Int):=by omega
   rw[qV];obtain⟨a3,ag⟩:=id ot;have rW:=c3 _ _ bV fg;refine⟨_,Y,x,_,_,_,_,Y,ag,T.cN.1,T.js,Y,_,Y,_,Y,x,_,_,Y,ag,Y,_,Y,x,aD,b,m+j,.str S,di,Y,⟨ot,rW,lZ⟩,.inl λ_ _=>.inr ⟨S,Y,aj.hold.symm⟩,λu bz=>?_,λc u bz ar _ au rX iP=>?_,λip=>?_⟩
   .obtain⟨c,a7⟩:=A6 bz;obtain⟨z,k,e,_⟩:=aj.one c u a7;rw[e];show 1<=1000;decide
   .obtain⟨z,k,rfl,aA,j_⟩:=aj.one c u bz;have aR:=X8.mp ar;have Xc:=a5q tw aR aA;have eS:=(ec.mp aR).1;have ou:=c3.trans rX;have Xd:=xk.q_ ot rX;obtain⟨_,bx,cw,h1⟩:=id Xd;obtain⟨_,ad4⟩:=id (bk.q_ qX ou);refine⟨S,_,_,Y,Y,ad0,j_,_,Y,Y,_,Y,?_⟩;have b7:=a5v d5 d v.high i m row k;by_cases Hb:d5 k=46
    .refine e7 ?_ ⟨_,_,_,row++[k],Y,ou,iP,eS,Xc,?_⟩
     .rw[Hb,show(⟨#[46]⟩:a8)="." from oh .none];simp
     rw[b7,aZ Hb,hN];exact Xd
    have uB:(!decide (V.str ⟨#[d5 k]⟩=V.str "."))=a9:=by have:¬V.str ⟨#[d5 k]⟩=V.str "." :=λz=>Hb (by have z:=V.str.inj z;rw[show("." :a8)=⟨#[46]⟩from(oh .none).symm]at z;have:=f_ (λ(s:a8)=>s.cps.toList) z;simpa using this);rw[gP this];rfl
    refine eJ uB ⟨_,Y,.inl ⟨Y,_,bp.of bx⟩,?_⟩;have iP:hI a au x aD (m+(j+1)):=iP;obtain⟨m3,hv⟩:=id iP;have ad5:l≠x:=eV bx hv;refine⟨_,Y,p,_,_,_,_,Y,ad4,T.dk.1,T.x2,Y,_,_,Y,Y,_,Y,_,_,Y,Y,_,_,Y,Y,.inl ⟨(by decide),(by decide)⟩,_,Y,_,_,Y,Y,_,Y,_,Y,λmk Xe Hc Hd ad6=>⟨mk,Xe,_,_,_,Y,b0,Y,?_⟩⟩;rw[iT];have ad7:l≠mk:=cU bx Hc;have ad8:l≠Xe:=cU bx Hd;refine⟨l,_,_,Y,Y,(by rw[aN ad7,aN ad8];exact bx),?_,?_⟩
    .rw[cW,cw,df];have O:=Nj d5 d v.high v.wide cH fE ad2;have a5:=Xa d5 d v.high i m row;have aG:row.length=j:=tw.1;have cG:cH.length*v.wide<=13*13:=ZZ (by omega) acZ;exact gy (by omega)
    refine⟨_,_,_,row++[k],Y,λc u a7 q=>?_,⟨m3,?_⟩,eS,Xc,?_⟩
    .have z:=ou c u a7 q;rw[aN (cU q aq),aN (cU z Hc),aN (cU z Hd)];exact z
    .rw[aN (ed ad5),aN (cU hv Hc),aN (cU hv Hd)];exact hv
    rw[b7,aL Hb,<-lA];have aO:(13:Int)*(((v.high:Nat):Int)-1-(i:Int))+(j:Int)=((13*(v.high-1-i)+row.length:Nat):Int):=by have:=tw.1;omega
    have aT:((m+j:Nat):Int)=((m+row.length:Nat):Int):=by rw[tw.1]
    have z:=fO.more (y:=(13*(v.high-1-i)+row.length,d5 k,m+row.length)) bx cw h1 Hc Hd ad6;dsimp only;rw[aO,aT];exact z
   obtain⟨hC,g0⟩:=acT aj ip;have aO:=a5r tw hC (v.wide-j-1);rw[show j+(v.wide-j-1+1)=v.wide by omega]at aO;have aT:=SA zN aO (v.high-i-1);rw[show i+(v.high-i-1+1)=v.high by omega]at aT;rw[g0];exact λdT bc ou hd=>bL (m+j) aT dT bc (c3.trans ou) hd
  obtain⟨fy,hV,nC,row,rfl,c3,ot,lZ,tw,xk⟩:=bK;obtain⟨a3,ag⟩:=id ot;have rW:=c3 _ _ bV fg;refine⟨_,Y,x,_,_,Y,ag,Y,Ha ⟨ot,rW,lZ⟩ acV (by decide) (λm' h ad9 au rX iP=>?_) (λk h=>?_)⟩
  .have Nl:nJ ei v.wide (hG b m)=.ok (row,hG b m'):=(Sz tw).trans (by rw[show eu [kY] (hG b (m+v.wide))=_ from h];rfl);refine⟨_,_,_,_,cH++[row],fE++[m],m',Y,c3.trans rX,iP,ad9,a5t zN Nl tw.1,?_⟩;rw[a5w _ _ _ _ _ _ _ (ad1.trans j1.symm),j1];exact xk.q_ ot rX
  have Nl:nJ ei v.wide (hG b m)=.error k:=(Sz tw).trans (by rw[show eu [kY] (hG b (m+v.wide))=_ from h];rfl);have aT:=SA zN Nl (v.high-i-1);rw[show i+(v.high-i-1+1)=v.high by omega]at aT;exact λdT bc ou hd=>bL k aT dT bc (c3.trans ou) hd
 obtain⟨g6,fy,hV,nC,cH,fE,m,rfl,c3,kR,hm,zN,xk⟩:=bK;exact⟨_,Y,cJ l H' cH fE m aq c3 kR hm (a5u zN) xk⟩
def h5(S:List I)(H H':ak):Prop:=∀c u,c∉S->H c=B u->H' c=B u
theorem h5.refl(S:List I)(H:ak):h5 S H H:=λ_ _ _ q=>q
variable{S:List I}
theorem h5.trans(s:h5 S H ai)(t:h5 S ai au):h5 S H au:=λc u n q=>t c u n (s c u n q)
theorem h5.nD(s:h5 S H ai)(ag:x∈S)(t:dc x ai au):h5 S H au:=λc u n q=>t c u (λz=>n (z ▸ ag)) (s c u n q)
theorem h5.put(s:h5 S H ai)(ar:p∈S):h5 S H (av ai p o):=λc u n q=>by rw[aN (λz:c=p=>n (by rw[z];exact ar))];exact s c u n q
def CL(a:b5)(H:ak)(S:List I)(n:Nat)(E:dN):Prop:=∀a3 H',h5 S H H'->H' a3=B (gm a3 [("place",.int (n:Int))])->E (.ref a.m1) (B a3) H'
structure m6 (a:b5) (H0:ak) (S:List I) (x aD:I) (b:aS) (p:I) (jQ:List (I×dy)) (m:Nat) (v:mJ) (H:ak):Prop where
 cF:h5 S H0 H
 cI:Hg.f9 a H x aD b m
 cA:mK a H p v
 xs:x∈S
 aK:p∈S
 cE:∀q∈jQ,q.1≠x/\q.1≠p/\H q.1=B q.2
variable{H0:ak}{jQ:List (I×dy)}{m':Nat}
section
variable{kB:mJ}
theorem m6.go(D:m6 a H0 S x aD b p jQ m v H)(s:dc x H H')(r:hI a H' x aD m')(hm:m'<=b.length):m6 a H0 S x aD b p jQ m' v H':=
 ⟨D.cF.nD D.xs s,⟨r,s _ _ (vg D.cI.1 D.cI.2.1) D.cI.2.1,hm⟩,D.cA.q_ D.cI.1 s,D.xs,D.aK,λq aQ=>⟨(D.cE q aQ).1,(D.cE q aQ).2.1,s _ _ (D.cE q aQ).1 (D.cE q aQ).2.2⟩⟩
theorem m6.put(D:m6 a H0 S x aD b p jQ m v H){dv:I}(kB:mJ):m6 a H0 S x aD b p jQ m kB (av H p (.ins a.Rules dv (hJ kB))):=by
 have dZ:=D.cA.ne D.cI.1;obtain⟨_,b9⟩:=D.cA;have cS:aD≠p:=λz=>by have:=D.cI.2.1;rw[z,b9]at this;cases this
 obtain⟨⟨a3,ag⟩,ax,hm⟩:=D.cI;exact⟨D.cF.put D.aK,⟨⟨a3,by rw[aN (ed dZ)];exact ag⟩,by rw[aN cS];exact ax,hm⟩,⟨dv,b0⟩,D.xs,D.aK,λq aQ=>⟨(D.cE q aQ).1,(D.cE q aQ).2.1,by rw[aN (D.cE q aQ).2.1];exact(D.cE q aQ).2.2⟩⟩
end
structure tx (ls:List String) (vs:List V):Prop where
 hold:oo (ls.map hn)=vs:=by decide+kernel
 CJ:uC (nB ls):=by unfold uC;decide+kernel
 ne:ls≠[]:=by decide
 aq:∀u∈ls.map hn,u.length<16:=by decide+kernel
theorem ada:tx ["hunters","king"] [.str "hunters",.str "king"]:={}
theorem adb:tx ["steps","slides"] [.str "steps",.str "slides"]:={}
theorem ade:tx ["bare","armed"] [.str "bare",.str "armed"]:={}
theorem adf:tx ["two","four"] [.str "two",.str "four"]:={}
theorem adg:tx ["barred","passed"] [.str "barred",.str "passed"]:={}
theorem Xf:tx a0Z [.str "quiet",.str "hunters",.str "men",.str "all"]:={}
theorem adh:tx ["edge","exits"] [.str "edge",.str "exits"]:={}
theorem adi:tx ["drawn","hunters","king"] [.str "drawn",.str "hunters",.str "king"]:={}
variable{kL:Type}
section
variable{t:I}{w:aS}{aj:Except Nat kL}
theorem q5{f:eP->Except Nat kL}(D:m6 a H0 S x aD b p jQ m v H)(aY:aj=(eu w (cD b m)>>=f))(e:z=cg w)(aq:w.length<=1000)(ok:∀m' au,m6 a H0 S x aD b p jQ m' v au->aj=f (cD b m')->Q .bS au)(m7:∀k,aj=.error k->CL a H0 S k E):Cz a [.ref x,.str z] H Q E:=
 Ha D.cI e aq (λm' h hm au c3 ah=>ok m' au (D.go c3 ah hm) (aY.trans (ni h))) λk h a3 au c3 hd=>m7 k (aY.trans (lV h)) a3 au (D.cF.nD D.xs c3) hd
theorem tA{vs:List V}{f:Nat×eP->Except Nat kL}(D:m6 a H0 S x aD b p jQ m v H)(aY:aj=(mX ls (cD b m)>>=f))(W:tx ls vs)(ba:∀H,dq K H t vs)(ok:∀(i m':Nat) au,i<ls.length->m6 a H0 S x aD b p jQ m' v au->aj=f (i,cD b m')->Q (.int (i:Int)) au)(m7:∀k,aj=.error k->CL a H0 S k E):H6 K a [.ref x,.ref t] H Q E:=
 acQ D.cI (λH' _=>.inl ⟨t,Y,by rw[W.hold];exact ba H'⟩) W.CJ W.ne W.aq (λi m' h hm au c3 ah=>ok i m' au (yP h) (D.go c3 ah hm) (aY.trans (ni h))) λk h a3 au c3 hd=>m7 k (aY.trans (lV h)) a3 au (D.cF.nD D.xs c3) hd
theorem adj{f:Nat×eP->Except Nat kL}(D:m6 a H0 S x aD b p jQ m v H)(aY:aj=(ua lo hi (cD b m)>>=f))(bU:hi<100000)(ok:∀(i m':Nat) au,m6 a H0 S x aD b p jQ m' v au->aj=f (i,cD b m')->Q (.int (i:Int)) au)(m7:∀k,aj=.error k->CL a H0 S k E):Nb a [.ref x,.int (lo:Int),.int (hi:Int)] H Q E:=
 ⟨x,aD,b,m,lo,hi,Y,D.cI,bU,λi m' h hm au c3 ah=>ok i m' au (D.go c3 ah hm) (aY.trans (ni h)),λk h a3 au c3 hd=>m7 k (aY.trans (lV h)) a3 au (D.cF.nD D.xs c3) hd⟩
end
def Nm(v:mJ)(k:Bx):mJ:={v with first:=k.f,slides:=k.cJ,armed:=k.bL,four:=k.eb,passed:=k.s1,seat:=k.s2,exits:=k.x}
structure Xg (k:Bx):Prop where
 cJ:k.cJ<2
 bL:k.bL<2
 eb:k.eb<2
 s1:k.s1<2
def adk(a:b5):bF:=λvs H Q E=>∃x aD b n p v,vs=[.ref x,.ref p]/\f9 a H x aD b n/\mK a H p v/\(∀k m H',yX (cD b n)=.ok (k,cD b m)->Xg k->h5 [x,p] H H'->f9 a H' x aD b m->mK a H' p (Nm v k)->Q .bS H')/\(∀k,yX (cD b n)=.error k->CL a H [x,p] k E)
theorem adl(T:Txt K a6 a):dK P w K a6 base (pd P w) 5 "read_customs" ["reader","rules"] (adk a):=by refine T.aae.kq a8z (λf b4 A _ s H _ Q E ah h=>?_);obtain⟨x,aD,b,n,p,v,rfl,eo,bk,cJ,bL⟩:=h;have aG:dn 3 (A.deeper (fB "read_customs" (bo Md) s.heap.objs.size f b4)):=ah.mono;refine⟨_,aC (e6 (dP (jw T) (J 0) T.cN.1 ah dW.passes (ao ee az))) (aC (dY (J 1) (dP (qW T) (J 0) T.cN.1 aG dW.passes (ao (l' T.B_.1 Y) az)) Y) (aC (e6 (dP (jw T) (J 0) T.cN.1 ah dW.passes (ao ee az))) (aC (dY (J 1) (dP (qW T) (J 0) T.cN.1 aG dW.passes (ao (l' T.B'.1 Y) az)) Y) (aC (e6 (dP (jw T) (J 0) T.cN.1 ah dW.passes (ao ee az))) (aC (dY (J 1) (dP (qW T) (J 0) T.cN.1 aG dW.passes (ao (l' T.C0.1 Y) az)) Y) (aC (e6 (dP (jw T) (J 0) T.cN.1 ah dW.passes (ao ee az))) (aC (dY (J 1) (dP (qW T) (J 0) T.cN.1 aG dW.passes (ao (l' T.C1.1 Y) az)) Y) (aC (e6 (dP (jw T) (J 0) T.cN.1 ah dW.passes (ao ee az))) (aC (dY (J 1) (dP (qW T) (J 0) T.cN.1 aG dW.passes (ao (l' T.C2.1 Y) az)) Y) (aC (e6 (dP (jw T) (J 0) T.cN.1 ah dW.passes (ao ee az))) (aC (dY (J 1) (dP (qW T) (J 0) T.cN.1 aG dW.passes (ao (l' T.x1.1 Y) az)) Y) (aC (e6 (dP (jw T) (J 0) T.cN.1 ah dW.passes (ao ee az))) (aC (dY (J 1) (dP (qW T) (J 0) T.cN.1 aG dW.passes (ao (l' T.x1.1 Y) az)) Y) (aX (e6 (dP (jw T) (J 0) T.cN.1 ah dW.passes (ao ee az))))))))))))))))),?_⟩;have D:m6 a H [x,p] x aD b p [] n v H:=⟨h5.refl _ _,eo,bk,by simp,by simp,λq aQ=>nomatch aQ⟩;have aY:yX (cD b n)=yX (cD b n):=rfl;obtain⟨a3,ag⟩:=id D.cI.1;refine⟨_,Y,x,_,_,Y,ag,Y,q5 (w:=hn "first ") D aY (by decide+kernel) (by decide+kernel) (λhq ai D aY=>?_) bL⟩;obtain⟨a3,ag⟩:=id D.cI.1;refine⟨_,Y,x,_,_,Y,ag,Y,tA D aY ada T.B_.2 (λdS hq ai _ D aY=>?_) bL⟩;obtain⟨dv,bk⟩:=id D.cA;refine⟨_,Y,p,_,_,_,Y,bk,T.dk.1,T.MJ,pG,?_⟩;have D:=D.put (dv:=dv) {v with first:=dS};obtain⟨a3,ag⟩:=id D.cI.1;refine⟨_,Y,x,_,_,Y,ag,Y,q5 (w:=hn "\nking ") D aY (by decide+kernel) (by decide+kernel) (λhq ai D aY=>?_) bL⟩;obtain⟨a3,ag⟩:=id D.cI.1;refine⟨_,Y,x,_,_,Y,ag,Y,tA D aY adb T.B'.2 (λf2 hq ai Xh D aY=>?_) bL⟩;obtain⟨dv,bk⟩:=id D.cA;refine⟨_,Y,p,_,_,_,Y,bk,T.dk.1,T.MK,pG,?_⟩;have D:=D.put (dv:=dv) {v with first:=dS,slides:=f2};obtain⟨a3,ag⟩:=id D.cI.1;refine⟨_,Y,x,_,_,Y,ag,Y,q5 (w:=[32]) D aY (by decide+kernel) (by decide+kernel) (λhq ai D aY=>?_) bL⟩;obtain⟨a3,ag⟩:=id D.cI.1;refine⟨_,Y,x,_,_,Y,ag,Y,tA D aY ade T.C0.2 (λdw hq ai He D aY=>?_) bL⟩;obtain⟨dv,bk⟩:=id D.cA;refine⟨_,Y,p,_,_,_,Y,bk,T.dk.1,T.Cm,pG,?_⟩;have D:=D.put (dv:=dv) {v with first:=dS,slides:=f2,armed:=dw};obtain⟨a3,ag⟩:=id D.cI.1;refine⟨_,Y,x,_,_,Y,ag,Y,q5 (w:=[32]) D aY (by decide+kernel) (by decide+kernel) (λhq ai D aY=>?_) bL⟩;obtain⟨a3,ag⟩:=id D.cI.1;refine⟨_,Y,x,_,_,Y,ag,Y,tA D aY adf T.C1.2 (λfa hq ai adm D aY=>?_) bL⟩;obtain⟨dv,bk⟩:=id D.cA;refine⟨_,Y,p,_,_,_,Y,bk,T.dk.1,T.ML,pG,?_⟩;have D:=D.put (dv:=dv) {v with first:=dS,slides:=f2,armed:=dw,four:=fa};obtain⟨a3,ag⟩:=id D.cI.1;refine⟨_,Y,x,_,_,Y,ag,Y,q5 (w:=hn "\nseat ") D aY (by decide+kernel) (by decide+kernel) (λhq ai D aY=>?_) bL⟩;obtain⟨a3,ag⟩:=id D.cI.1;refine⟨_,Y,x,_,_,Y,ag,Y,tA D aY adg T.C2.2 (λfb hq ai zO D aY=>?_) bL⟩;obtain⟨dv,bk⟩:=id D.cA;refine⟨_,Y,p,_,_,_,Y,bk,T.dk.1,T.Gx,pG,?_⟩;have D:=D.put (dv:=dv) {v with first:=dS,slides:=f2,armed:=dw,four:=fa,passed:=fb};obtain⟨a3,ag⟩:=id D.cI.1;refine⟨_,Y,x,_,_,Y,ag,Y,q5 (w:=[32]) D aY (by decide+kernel) (by decide+kernel) (λhq ai D aY=>?_) bL⟩;obtain⟨a3,ag⟩:=id D.cI.1;refine⟨_,Y,x,_,_,Y,ag,Y,tA D aY Xf T.x1.2 (λNn hq ai _ D aY=>?_) bL⟩;obtain⟨dv,bk⟩:=id D.cA;refine⟨_,Y,p,_,_,_,Y,bk,T.dk.1,T.Gy,pG,?_⟩;have D:=D.put (dv:=dv) {v with first:=dS,slides:=f2,armed:=dw,four:=fa,passed:=fb,seat:=Nn};obtain⟨a3,ag⟩:=id D.cI.1;refine⟨_,Y,x,_,_,Y,ag,Y,q5 (w:=hn "\nexits ") D aY (by decide+kernel) (by decide+kernel) (λhq ai D aY=>?_) bL⟩;obtain⟨a3,ag⟩:=id D.cI.1;refine⟨_,Y,x,_,_,Y,ag,Y,tA D aY Xf T.x1.2 (λzP hq ai _ D aY=>?_) bL⟩;obtain⟨dv,bk⟩:=id D.cA;refine⟨_,Y,p,_,_,_,Y,bk,T.dk.1,T.MM,pG,?_⟩;have D:=D.put (dv:=dv) {v with first:=dS,slides:=f2,armed:=dw,four:=fa,passed:=fb,seat:=Nn,exits:=zP};obtain⟨a3,ag⟩:=id D.cI.1;refine⟨_,Y,x,_,_,Y,ag,Y,q5 (w:=[10]) D aY (by decide+kernel) (by decide) (λhq ai D aY=>?_) bL⟩;exact cJ ⟨dS,f2,dw,fa,fb,Nn,zP⟩ hq ai aY ⟨Xh,He,adm,zO⟩ D.cF D.cI D.cA
theorem m6.dput{ck:I}(D:m6 a H0 S x aD b p [(ck,o)] m v H)(hd:ck∈S)(ax:aD≠ck)(gY:dy):m6 a H0 S x aD b p [(ck,gY)] m v (av H ck gY):=by
 obtain⟨dZ,cS,h⟩:=D.cE (ck,o) (by simp);obtain⟨⟨a3,ag⟩,adn,hm⟩:=D.cI;obtain⟨dv,bk⟩:=D.cA;exact⟨D.cF.put hd,⟨⟨a3,by rw[aN (ed dZ)];exact ag⟩,by rw[aN ax];exact adn,hm⟩,⟨dv,by rw[aN (ed cS)];exact bk⟩,D.xs,D.aK,λq aQ=>by
  have e:q=(ck,gY):=by simpa using aQ
  rw[e];exact⟨dZ,cS,b0⟩⟩
def Np(v:mJ)(e:Tf.Ends):mJ:={v with goal:=e.o,thrice:=e.t,limit:=e.l}
def ado(a:b5):bF:=λvs H Q E=>∃x aD b n p v ck dd len g s lb,vs=[.ref x,.ref ck]/\f9 a H x aD b n/\mK a H p v/\H ck=B (.ins a.gU dd (i7 p len g s lb))/\(∀e m H',wC (cD b n)=.ok (e,cD b m)->h5 [x,p,ck] H H'->f9 a H' x aD b m->mK a H' p (Np v e)->H' ck=B (.ins a.gU dd (i7 p len g s e.p))->Q .bS H')/\(∀k,wC (cD b n)=.error k->CL a H [x,p,ck] k E)
theorem adp(T:Txt K a6 a):dK P w K a6 base (pd P w) 5 "read_ends" ["reader","draft"] (ado a):=by
 refine T.aaf.kq W0 (λf b4 A _ s H _ Q E ah h=>?_);obtain⟨x,aD,b,n,p,v,ck,dd,len,g,st,lb,rfl,eo,bk,dQ,cJ,bL⟩:=h;have aG:dn 3 (A.deeper (fB "read_ends" (bo Me) s.heap.objs.size f b4)):=ah.mono;refine⟨_,aC (cx (i:=2) W0.bh (bg (J 1) Y)) (aC (e6 (dP (jw T) (J 0) T.cN.1 ah dW.passes (ao ee az))) (aC (dY (J 1) (bg (J 0) Y) Y) (aC (dY (J 2) (dP (qW T) (J 0) T.cN.1 aG dW.passes (ao (l' T.C3.1 Y) az)) Y) (aC (e6 (dP (jw T) (J 0) T.cN.1 ah dW.passes (ao ee az))) (aC (dY (J 2) (dP (qW T) (J 0) T.cN.1 aG dW.passes (ao (l' T.C4.1 Y) az)) Y) (aC (e6 (dP (jw T) (J 0) T.cN.1 ah dW.passes (ao ee az))) (aC (dY (J 2) (dP (Nc T) (J 0) T.cN.1 aG dW.passes (ao cb (ao (cK T.a9g Y) az))) Y) (aX (e6 (dP (jw T) (J 0) T.cN.1 ah dW.passes (ao ee az))))))))))),?_⟩;obtain⟨dv,Nk⟩:=id bk;obtain⟨a3,ag⟩:=id eo.1;have dZ:ck≠x:=jK dQ ag (by show(5:Nat)≠2;decide);have cS:ck≠p:=jK dQ Nk (by show(5:Nat)≠15;decide);have g9:aD≠ck:=λz=>by have:=eo.2.1;rw[z,dQ]at this;cases this
 have D:m6 a H [x,p,ck] x aD b p [(ck,.ins a.gU dd (i7 p len g st lb))] n v H:=⟨h5.refl _ _,eo,bk,by simp,by simp,λq aQ=>by
  have e:q=(ck,.ins a.gU dd (i7 p len g st lb)):=by simpa using aQ
  rw[e];exact⟨dZ,cS,dQ⟩⟩
 have aY:wC (cD b n)=wC (cD b n):=rfl;refine⟨_,Y,ck,_,_,_,_,Y,dQ,T.jt.1,T.zw,Y,_,Y,x,_,_,Y,ag,Y,q5 (w:=hn "goal ") D aY (by decide+kernel) (by decide+kernel) (λi1 ai D aY=>?_) bL⟩;obtain⟨a3,ag⟩:=id D.cI.1;obtain⟨_,_,dQ⟩:=D.cE _ (jL.mpr Y);refine⟨_,Y,x,_,_,_,_,Y,ag,T.cN.1,T.js,Y,_,Y,ck,_,_,_,Y,dQ,T.jt.1,T.GJ,Ax,?_⟩;have D:=D.dput (by simp) g9 (.ins a.gU dd (i7 p len g st i1));obtain⟨a3,ag⟩:=id D.cI.1;refine⟨_,Y,x,_,_,Y,ag,Y,tA D aY adh T.C3.2 (λdS hq ai _ D aY=>?_) bL⟩;obtain⟨dv,bk⟩:=id D.cA;refine⟨_,Y,p,_,_,_,Y,bk,T.dk.1,T.Cn,pG,?_⟩;have D:=D.put (dv:=dv) {v with goal:=dS};obtain⟨a3,ag⟩:=id D.cI.1;refine⟨_,Y,x,_,_,Y,ag,Y,q5 (w:=hn "\nthrice ") D aY (by decide+kernel) (by decide+kernel) (λhq ai D aY=>?_) bL⟩;obtain⟨a3,ag⟩:=id D.cI.1;refine⟨_,Y,x,_,_,Y,ag,Y,tA D aY adi T.C4.2 (λf2 hq ai _ D aY=>?_) bL⟩;obtain⟨dv,bk⟩:=id D.cA;refine⟨_,Y,p,_,_,_,Y,bk,T.dk.1,T.MN,pG,?_⟩;have D:=D.put (dv:=dv) {v with goal:=dS,thrice:=f2};obtain⟨a3,ag⟩:=id D.cI.1;refine⟨_,Y,x,_,_,Y,ag,Y,q5 (w:=hn "\nlimit ") D aY (by decide+kernel) (by decide+kernel) (λhq ai D aY=>?_) bL⟩;obtain⟨a3,ag⟩:=id D.cI.1;refine⟨_,Y,x,_,_,Y,ag,Y,adj (lo:=1) (hi:=60000) D aY (by decide) (λdw hq ai D aY=>?_) bL⟩;obtain⟨dv,bk⟩:=id D.cA;refine⟨_,Y,p,_,_,_,Y,bk,T.dk.1,T.MO,pG,?_⟩;have D:=D.put (dv:=dv) {v with goal:=dS,thrice:=f2,limit:=dw};obtain⟨a3,ag⟩:=id D.cI.1;refine⟨_,Y,x,_,_,Y,ag,Y,q5 (w:=[10]) D aY (by decide+kernel) (by decide) (λhq ai D aY=>?_) bL⟩;exact cJ ⟨dS,i1,f2,dw⟩ hq ai aY D.cF D.cI D.cA (D.cE _ (jL.mpr Y)).2.2
def vi(b:Bool):Nat:=if b=a9 then 1 else 0
theorem Hf(h:k<2):vi (k==1)=k:=by
 match k,h with
 |0,_=>rfl
 |1,_=>rfl
def tB(n:I)(r:eW):mJ:=⟨n,r.wide,r.high,dA (Tf.e' r),dA (Tf.gM r),r.first,vi r.slides,vi r.armed,vi r.four,vi r.passed,r.seat,r.exits,r.goal,r.thrice,r.limit⟩
variable{nl:I}
theorem adq{nm:aS}{w h:Nat}{g:List (List E5)}{lb:List Nat}{s:List (List kZ)}{sp:List Nat}{k:Bx}{e:Tf.Ends}(CM:r=FG nm w h g lb s sp k e)(aj:h3 r)(C:Xg k):Np (Nm {hj nl w h with ground:=dA (qZ (kK Tf.eh E6 h g lb)),qY:=dA (qZ (kK Tf.pc E7 h s sp))} k) e=tB nl r:=by have aO:=a5y aj;have aT:=a5z aj;unfold tB;rw[<-aO,<-aT];subst CM;unfold Np Nm FG hj;dsimp only;rw[Hf C.cJ,Hf C.bL,Hf C.eb,Hf C.s1];rfl
theorem Nq{d5:bu->Nat}{d:bu}{high w:Nat}{cH:List (List bu)}{fE:List Nat}(aq:cH.length=high)(hw:∀r∈cH,r.length=w)(O:high<=13)(a5:w<=13):∀m∈kK d5 d high cH fE,m.1<169:=by
 intro m hm;rw[Lo d5 d aq hw,vE]at hm;obtain⟨q,aQ,e⟩:=hm;obtain⟨i,hi,aQ⟩:=A9.mp aQ;obtain⟨y,bl,rfl⟩:=fA.mp aQ;have hi:=fR.mp hi;have bl:=fR.mp bl;split at e
 .cases e
 cases e;show 13*(high-1-i)+y<169;omega
def CN(a:b5)(H:ak)(n:Nat)(E:dN):Prop:=∀a3 H',aw H H'->H' a3=B (gm a3 [("place",.int (n:Int))])->E (.ref a.m1) (B a3) H'
theorem vj{l:I}{vs:List V}(h:hI a H x aD n)(a5:H l=B (.lst vs)):l≠x:=λz=>by obtain⟨_,h⟩:=h;rw[z,h]at a5;cases a5
structure lx (a:b5) (H0:ak) (x aD:I) (b:aS) (m:Nat) (L:List (I×List V)) (H:ak):Prop where
 aE:aw H0 H
 cI:Hg.f9 a H x aD b m
 fr:H0 x=aa
 ls:∀q∈L,H q.1=B (.lst q.2)
section
variable{w:aS}{aj:Except Nat kL}{L:List (I×List V)}
theorem aw.nD(s:aw H0 H)(h:H0 x=aa)(t:dc x H H'):aw H0 H':=λc u q=>t c u (cU q h) (s c u q)
theorem lx.go(D:lx a H0 x aD b m L H)(s:dc x H H')(r:hI a H' x aD m')(hm:m'<=b.length):lx a H0 x aD b m' L H':=⟨aw.nD D.aE D.fr s,⟨r,s _ _ (vg D.cI.1 D.cI.2.1) D.cI.2.1,hm⟩,D.fr,λq aQ=>s _ _ (vj D.cI.1 (D.ls q aQ)) (D.ls q aQ)⟩
theorem lx.same(D:lx a H0 x aD b m L H)(s:aw H H'):lx a H0 x aD b m L H':=⟨D.aE.trans s,D.cI.same s,D.fr,λq aQ=>s _ _ (D.ls q aQ)⟩
theorem CO{f:eP->Except Nat kL}(D:lx a H0 x aD b m L H)(aY:aj=(eu w (cD b m)>>=f))(e:z=cg w)(aq:w.length<=1000)(ok:∀m' au,lx a H0 x aD b m' L au->dc x H au->aj=f (cD b m')->Q .bS au)(m7:∀k,aj=.error k->CN a H0 k E):Cz a [.ref x,.str z] H Q E:=
 Ha D.cI e aq (λm' h hm au c3 ah=>ok m' au (D.go c3 ah hm) c3 (aY.trans (ni h))) λk h a3 au c3 hd=>m7 k (aY.trans (lV h)) a3 au (aw.nD D.aE D.fr c3) hd
theorem Xi{f:Nat×eP->Except Nat kL}(D:lx a H0 x aD b m L H)(aY:aj=(ua lo hi (cD b m)>>=f))(bU:hi<100000)(ok:∀(i m':Nat) au,lo<=i/\i<=hi->lx a H0 x aD b m' L au->aj=f (i,cD b m')->Q (.int (i:Int)) au)(m7:∀k,aj=.error k->CN a H0 k E):Nb a [.ref x,.int (lo:Int),.int (hi:Int)] H Q E:=
 ⟨x,aD,b,m,lo,hi,Y,D.cI,bU,λi m' h hm au c3 ah=>ok i m' au (Fv bU h) (D.go c3 ah hm) (aY.trans (ni h)),λk h a3 au c3 hd=>m7 k (aY.trans (lV h)) a3 au (aw.nD D.aE D.fr c3) hd⟩
theorem ads{f:aS×eP->Except Nat kL}(D:lx a H0 x aD b m L H)(aY:aj=(qi (cD b m)>>=f))(ok:∀(nm:aS)(m':Nat) nl au,H0 nl=aa->lx a H0 x aD b m' ((nl,cy nm)::L) au->dc x H au->aj=f (nm,cD b m')->Q (.ref nl) au)(m7:∀k,aj=.error k->CN a H0 k E):Nf a [.ref x] H Q E:=
 ⟨x,aD,b,m,Y,D.cI,λk N h l au aq c3 ah hc=>ok _ _ l au (D.aE.free aq) (let d4:=D.go c3 ah N.pl;⟨d4.aE,d4.cI,d4.fr,λq aQ=>by
  obtain e|z:=dx.mp aQ
  .rw[e];exact hc
  exact d4.ls q z⟩) c3 (aY.trans (ni h)),λh a3 au c3 hd=>m7 m (aY.trans (lV h)) a3 au (aw.nD D.aE D.fr c3) hd⟩
end
section
variable{ck l s dd:I}{len lb:Nat}{cz:List h4}
theorem fO.Xj(h:fO a H l cz)(aq:l∉S)(hm:∀m y,m5 a H m y->m∉S)(t:h5 S H H'):fO a H' l cz:=by obtain⟨cX,O,a5,aG⟩:=h;refine⟨cX,t _ _ aq O,a5,λi m y bx cw=>?_⟩;have z:=aG i m y bx cw;have rJ:=hm m y z;obtain⟨d,e⟩:=z;exact⟨d,t _ _ rJ e⟩
theorem fO.Xk(h:fO a H l cz)(r:hI a H x aD n)(cA:mK a H p v)(t:h5 [x,p] H H'):fO a H' l cz:=by
 obtain⟨_,O,_⟩:=id h;obtain⟨_,ag⟩:=id r;obtain⟨_,bk⟩:=cA;refine h.Xj ?_ (λm y hm=>?_) t
 .have:=eV O ag;have:=eV O bk;simp[*]
 have hC:=hm.ne r;obtain⟨d,e⟩:=hm;have:=jK e bk (by show(3:Nat)≠15;decide);simp[*]
theorem fO.Xl(h:fO a H l cz)(r:hI a H x aD n)(cA:mK a H p v)(hd:H ck=B (.ins a.gU dd (i7 p len g s lb)))(t:h5 [x,p,ck] H H'):fO a H' l cz:=by
 obtain⟨_,O,_⟩:=id h;obtain⟨_,ag⟩:=id r;obtain⟨_,bk⟩:=cA;refine h.Xj ?_ (λm y hm=>?_) t
 .have:=eV O ag;have:=eV O bk;have:=eV O hd;simp[*]
 have hC:=hm.ne r;obtain⟨d,e⟩:=hm;have:=jK e bk (by show(3:Nat)≠15;decide);have:=jK e hd (by show(3:Nat)≠5;decide);simp[*]
theorem fO.put(h:fO a H l cz)(ar:H p=B (.ins C dd fs))(hf:fs.length≠3):fO a (av H p o) l cz:=by obtain⟨cX,O,a5,aG⟩:=h;refine⟨cX,by rw[aN (eV O ar)];exact O,a5,λi m y bx cw=>?_⟩;obtain⟨d,e⟩:=aG i m y bx cw;exact⟨d,by rw[aN (jK e ar (λz=>hf z.symm))];exact e⟩
theorem f9.put(h:Hg.f9 a H x aD b m)(ar:H p=B (.ins C dd fs))(hf:fs.length≠2):Hg.f9 a (av H p o) x aD b m:=by obtain⟨⟨a3,ag⟩,ax,hm⟩:=h;exact⟨⟨a3,by rw[aN (jK ag ar (λz=>hf z.symm))];exact ag⟩,by rw[aN (eV ax ar)];exact ax,hm⟩
end
def CP(a:b5)(H:ak)(ck:I)(p:I×I)(len:Nat)(r:eW):Prop:=∃g s dd,H ck=B (.ins a.gU dd (i7 p.1 len g s r.goalAt))/\mK a H p.1 (tB p.2 r)/\fO a H g (o7 r)/\fO a H s (Tf.aE r)
def Nr(a:b5)(H:ak)(ck:I)(len:Nat)(r:eW):Prop:=∃p,CP a H ck p len r
def adt(a:b5):bF:=λvs H Q E=>∃aD b,vs=[.ref aD]/\H aD=B (.lst (cy b))/\(∀r ck p H',pD b=.ok r->H p.1=aa->H p.2=aa->aw H H'->CP a H' ck p b.length r->H' p.2=B (.lst (cy r.name))->Q (.ref ck) H')/\(∀k,pD b=.error k->CN a H k E)
theorem lx.put{dd:I}{L:List (I×List V)}(D:lx a H0 x aD b m L H)(b9:H0 p=aa)(ar:H p=B (.ins C dd fs))(hf:fs.length≠2):lx a H0 x aD b m L (av H p o):=
 ⟨λc u q=>by rw[aN (cU q b9)];exact D.aE c u q,D.cI.put ar hf,D.fr,λq aQ=>by rw[aN (eV (D.ls q aQ) ar)];exact D.ls q aQ⟩
theorem aw.Hh(s:aw H0 H)(h:∀c∈S,H0 c=aa)(t:h5 S H H'):aw H0 H':=λc u q=>t c u (λz=>by rw[h c z]at q;cases q) (s c u q)
theorem adu(T:Txt K a6 a):dK P w K a6 base (pd P w) 6 "read_draft" ["source"] (adt a):=by
 refine T.aab.kq w' (λf b4 A _ s H _ Q E ah h=>?_);obtain⟨aD,b,rfl,fg,cJ,bL⟩:=h;have cG:dn 4 (A.deeper (fB "read_draft" (bo zh) s.heap.objs.size f b4)):=ah.mono;have aG:dn 3 (A.deeper (fB "read_draft" (bo zh) s.heap.objs.size f b4)):=ah.mono;have O:dn 1 (A.deeper (fB "read_draft" (bo zh) s.heap.objs.size f b4)):=ah.mono;have a5:dn 2 (A.deeper (fB "read_draft" (bo zh) s.heap.objs.size f b4)):=ah.mono;refine⟨_,aC (cx (i:=1) w'.bh (pj (N7 T) a5 Y T.cN.2 bw (ao (J 0) az))) (aC (e6 (dP (jw T) (J 1) T.cN.1 cG dW.passes (ao ee az))) (aC (cx (i:=2) w'.bh (g5 (H8 T) (J 1) T.cN.1 aG dW.passes)) (aC (e6 (dP (jw T) (J 1) T.cN.1 cG dW.passes (ao ee az))) (aC (cx (i:=3) w'.bh (dP (Nc T) (J 1) T.cN.1 aG dW.passes (ao (cK T.Wg Y) (ao (cK T.Wh Y) az)))) (aC (e6 (dP (jw T) (J 1) T.cN.1 cG dW.passes (ao ee az))) (aC (cx (i:=4) w'.bh (dP (Nc T) (J 1) T.cN.1 aG dW.passes (ao (cK T.Wg Y) (ao (cK T.Wh Y) az)))) (aC (cx (i:=5) w'.bh (pj (acI T) a5 Y T.dk.2 bw (ao (J 2) (ao (J 3) (ao (J 4) az))))) (aC (cx (i:=6) w'.bh (pj (acK T) a5 Y T.jt.2 bw (ao (J 5) (ao (fc i' Y T.hU ia (ao (J 0) az)) az)))) (aC (e6 (dP (jw T) (J 1) T.cN.1 cG dW.passes (ao ee az))) (aC (dY (J 6) (ct (Xb T) ah Y dW.passes (ao (J 1) (ao (J 5) (ao (eU T.a9t Y) az)))) Y) (aC (e6 (dP (jw T) (J 1) T.cN.1 cG dW.passes (ao ee az))) (aC (dY (J 6) (ct (Xb T) ah Y dW.passes (ao (J 1) (ao (J 5) (ao (eU T.a9u Y) az)))) Y) (aC (dY (J 5) (ct (X5 T) O Y bw (ao (bg (J 6) Y) az)) Y) (aC (dY (J 5) (ct (X5 T) O Y bw (ao (bg (J 6) Y) az)) Y) (aC (e6 (ct (adl T) ah Y dW.passes (ao (J 1) (ao (J 5) az)))) (aC (e6 (ct (adp T) ah Y dW.passes (ao (J 1) (ao (J 6) az)))) (aC (e6 (g5 (N8 T) (J 1) T.cN.1 aG dW.passes)) (aX (bG (J 6)))))))))))))))))))),?_⟩;have aY:=a5T b;refine⟨_,Y,λx a3 mB Hi bV=>⟨x,a3,aD,Y,b0,Y,?_⟩⟩;rw[iT];have s1:aw H (av (av H a3 (.own x)) x (.ins a.Reader a3 (rV aD 0))):=aw.upd (aw.new Hi) (by rw[aN (ed bV)];exact mB);have D:lx a H x aD b 0 [] _:=⟨s1,⟨⟨a3,b0⟩,s1 _ _ fg,ek _⟩,mB,λq aQ=>nomatch aQ⟩;obtain⟨a3,ag⟩:=id D.cI.1;refine⟨_,Y,x,_,_,Y,ag,Y,CO (w:=hn "tafl ") D aY (by decide+kernel) (by decide+kernel) (λm ai D _ aY=>?_) bL⟩;obtain⟨a3,ag⟩:=id D.cI.1;refine⟨_,Y,x,_,_,Y,ag,Y,?_⟩;unfold gc;simp only[hN];refine ads D aY (λnm m nl ai tC D _ aY=>?_) bL;obtain⟨a3,ag⟩:=id D.cI.1;refine⟨_,Y,x,_,_,Y,ag,Y,CO (w:=[32]) D aY (by decide+kernel) (by decide+kernel) (λm ai D _ aY=>?_) bL⟩;obtain⟨a3,ag⟩:=id D.cI.1;refine⟨_,Y,x,_,_,Y,ag,Y,Xi (lo:=5) (hi:=13) D aY (by decide) (λwd m ai tv D aY=>?_) bL⟩;obtain⟨a3,ag⟩:=id D.cI.1;refine⟨_,Y,x,_,_,Y,ag,Y,CO (w:=[32]) D aY (by decide+kernel) (by decide+kernel) (λm ai D _ aY=>?_) bL⟩;obtain⟨a3,ag⟩:=id D.cI.1;refine⟨_,Y,x,_,_,Y,ag,Y,Xi (lo:=5) (hi:=13) D aY (by decide) (λaI m ai Hj D aY=>?_) bL⟩;refine⟨_,Y,_,Y,_,Y,λp ey CQ adv adw=>⟨p,ey,nl,wd,aI,Y,b0,Y,?_⟩⟩;rw[iT];have Xm:aw ai (av (av ai ey (.own p)) p (.ins a.Rules ey (hJ (hj nl wd aI)))):=aw.upd (aw.new adv) (by rw[aN (ed adw)];exact CQ);have CR:H p=aa:=D.aE.free CQ;have ar:(av (av ai ey (.own p)) p (.ins a.Rules ey (hJ (hj nl wd aI)))) p=B (.ins a.Rules ey (hJ (hj nl wd aI))):=b0;generalize av (av ai ey (.own p)) p (.ins a.Rules ey (hJ (hj nl wd aI)))=au at Xm ar ⊢;have D:=D.same Xm;refine⟨_,Y,_,Y,aD,_,Y,.inl (bp.of D.cI.2.1),λck dd Nt adx _=>⟨ck,dd,p,b.length,by rw[iu];rfl,b0,λg st _ _ _ bc aA _ _ dQ=>⟨Y,?_⟩⟩⟩;have Nu:H ck=aa:=D.aE.free Nt;have bE:aw au bc:=λc o q=>aA c o (cU q Nt) (by rw[aN (cU q Nt),aN (cU q adx)];exact q);have ar:=bE _ _ ar;have D:=D.same bE;obtain⟨a3,ag⟩:=id D.cI.1;have vk:p≠x:=jK ar ag (by show(15:Nat)≠2;decide);have CS:ck≠x:=jK dQ ag (by show(5:Nat)≠2;decide);have CT:ck≠p:=jK dQ ar (by show(5:Nat)≠15;decide);refine⟨_,Y,x,_,_,Y,ag,Y,CO (w:=hn "\nground\n") D aY (by decide+kernel) (by decide+kernel) (λm _ D c3 aY=>?_) bL⟩;have ar:=c3 _ _ vk ar;have dQ:=c3 _ _ CS dQ;refine⟨_,Y,_,Y,E5,".SX#",PN,Tf.eh,.wall,[[46],[83],[88],[35]],x,aD,b,m,p,hj nl wd aI,Y,acR,(by decide),D.cI,⟨ey,ar⟩,tv.2,Hj.2,λl c_ cH fE m' _ c3 ah hm Xn gL=>?_,λk h a3 c_ c3 hd=>bL k (aY.trans (lV h)) a3 c_ (aw.nD D.aE D.fr c3) hd⟩;have aY:=aY.trans (ni Xn);have D:=D.go c3 ah hm;have ar:=c3 _ _ vk ar;have dQ:=c3 _ _ CS dQ;refine⟨_,Y,ck,_,_,_,Y,dQ,T.jt.1,T.GI,Ax,?_⟩;rw[show gH ("ground_marks" :a8) (V.ref l) (i7 p b.length g st 0)=i7 p b.length l st 0 from Y];have D:=D.put (o:=.ins a.gU dd (i7 p b.length l st 0)) Nu dQ (by show(5:Nat)≠2;decide);have gL:=gL.put (o:=.ins a.gU dd (i7 p b.length l st 0)) dQ (by show(5:Nat)≠3;decide);have ar:(av c_ ck (.ins a.gU dd (i7 p b.length l st 0))) p=B (.ins a.Rules ey (hJ (hj nl wd aI))):=(aN (ed CT)).trans ar;have dQ:(av c_ ck (.ins a.gU dd (i7 p b.length l st 0))) ck=B (.ins a.gU dd (i7 p b.length l st 0)):=b0;generalize av c_ ck (.ins a.gU dd (i7 p b.length l st 0))=fK at D gL ar dQ ⊢;obtain⟨a3,ag⟩:=id D.cI.1;have ady:=D.cI.1;refine⟨_,Y,x,_,_,Y,ag,Y,CO (w:=hn "start\n") D aY (by decide+kernel) (by decide+kernel) (λm _ D c3 aY=>?_) bL⟩;have ar:=c3 _ _ vk ar;have dQ:=c3 _ _ CS dQ;have gL:=gL.q_ ady c3;refine⟨_,Y,_,Y,kZ,".hmK",PQ,Tf.pc,.none,[[46],[104],[109],[75]],x,aD,b,m,p,hj nl wd aI,Y,acS,(by decide),D.cI,⟨ey,ar⟩,tv.2,Hj.2,λgx pP Nv Nw m' _ c3 ah hm Xo k2=>?_,λk h a3 c_ c3 hd=>bL k (aY.trans (lV h)) a3 c_ (aw.nD D.aE D.fr c3) hd⟩;have aY:=aY.trans (ni Xo);have gL:=gL.q_ D.cI.1 c3;have D:=D.go c3 ah hm;have ar:=c3 _ _ vk ar;have dQ:=c3 _ _ CS dQ;refine⟨_,Y,ck,_,_,_,Y,dQ,T.jt.1,T.zx,Ax,?_⟩;rw[show gH ("start_marks" :a8) (V.ref gx) (i7 p b.length l st 0)=i7 p b.length l gx 0 from Y];have D:=D.put (o:=.ins a.gU dd (i7 p b.length l gx 0)) Nu dQ (by show(5:Nat)≠2;decide);have gL:=gL.put (o:=.ins a.gU dd (i7 p b.length l gx 0)) dQ (by show(5:Nat)≠3;decide);have k2:=k2.put (o:=.ins a.gU dd (i7 p b.length l gx 0)) dQ (by show(5:Nat)≠3;decide);have ar:(av pP ck (.ins a.gU dd (i7 p b.length l gx 0))) p=B (.ins a.Rules ey (hJ (hj nl wd aI))):=(aN (ed CT)).trans ar;have dQ:(av pP ck (.ins a.gU dd (i7 p b.length l gx 0))) ck=B (.ins a.gU dd (i7 p b.length l gx 0)):=b0;generalize av pP ck (.ins a.gU dd (i7 p b.length l gx 0))=n' at D gL k2 ar dQ ⊢;obtain⟨jr,_,lU,_⟩:=Bs _ _ Xn;obtain⟨gK,_,t3,_⟩:=Bs _ _ Xo;refine⟨_,Y,ck,_,_,_,_,Y,dQ,T.jt.1,T.GI,Y,l,_,Y,gL,Nq jr lU Hj.2 tv.2,λHl aE=>?_⟩;have D:=D.same aE;have ar:=aE _ _ ar;have dQ:=aE _ _ dQ;have gL:=gL.same aE;have k2:=k2.same aE;refine⟨_,Y,p,_,_,_,Y,ar,T.dk.1,T.oe,pG,?_⟩;generalize z1:dA (qZ (kK Tf.eh E6 (hj nl wd aI).high cH fE))=kS;rw[show gH ("ground" :a8) (V.str kS) (hJ (hj nl wd aI))=hJ {hj nl wd aI with ground:=kS}from Y];have D:=D.put (o:=.ins a.Rules ey (hJ {hj nl wd aI with ground:=kS})) CR ar (by show(15:Nat)≠2;decide);have gL:=gL.put (o:=.ins a.Rules ey (hJ {hj nl wd aI with ground:=kS})) ar (by show(15:Nat)≠3;decide);have k2:=k2.put (o:=.ins a.Rules ey (hJ {hj nl wd aI with ground:=kS})) ar (by show(15:Nat)≠3;decide);have dQ:(av Hl p (.ins a.Rules ey (hJ {hj nl wd aI with ground:=kS}))) ck=B (.ins a.gU dd (i7 p b.length l gx 0)):=(aN CT).trans dQ;have ar:(av Hl p (.ins a.Rules ey (hJ {hj nl wd aI with ground:=kS}))) p=B (.ins a.Rules ey (hJ {hj nl wd aI with ground:=kS})):=b0;generalize av Hl p (.ins a.Rules ey (hJ {hj nl wd aI with ground:=kS}))=aku at D gL k2 ar dQ ⊢;refine⟨_,Y,ck,_,_,_,_,Y,dQ,T.jt.1,T.zx,Y,gx,_,Y,k2,Nq gK t3 Hj.2 tv.2,λNx aE=>?_⟩;have D:=D.same aE;have ar:=aE _ _ ar;have dQ:=aE _ _ dQ;have gL:=gL.same aE;have k2:=k2.same aE;refine⟨_,Y,p,_,_,_,Y,ar,T.dk.1,T.Ck,pG,?_⟩;generalize Ny:dA (qZ (kK Tf.pc E7 (hj nl wd aI).high Nv Nw))=bt;rw[show gH ("board" :a8) (V.str bt) (hJ {hj nl wd aI with ground:=kS})=hJ {hj nl wd aI with ground:=kS,qY:=bt}from Y];have D:=D.put (o:=.ins a.Rules ey (hJ {hj nl wd aI with ground:=kS,qY:=bt})) CR ar (by show(15:Nat)≠2;decide);have gL:=gL.put (o:=.ins a.Rules ey (hJ {hj nl wd aI with ground:=kS,qY:=bt})) ar (by show(15:Nat)≠3;decide);have k2:=k2.put (o:=.ins a.Rules ey (hJ {hj nl wd aI with ground:=kS,qY:=bt})) ar (by show(15:Nat)≠3;decide);have dQ:(av Nx p (.ins a.Rules ey (hJ {hj nl wd aI with ground:=kS,qY:=bt}))) ck=B (.ins a.gU dd (i7 p b.length l gx 0)):=(aN CT).trans dQ;have ar:(av Nx p (.ins a.Rules ey (hJ {hj nl wd aI with ground:=kS,qY:=bt}))) p=B (.ins a.Rules ey (hJ {hj nl wd aI with ground:=kS,qY:=bt})):=b0;generalize av Nx p (.ins a.Rules ey (hJ {hj nl wd aI with ground:=kS,qY:=bt}))=akv at D gL k2 ar dQ ⊢;have f2:∀c∈[x,p],H c=aa:=λc a7=>by
  obtain e|a7:=dx.mp a7
  .rw[e];exact D.fr
  rw[jL.mp a7];exact CR
 have dw:∀c∈[x,p,ck],H c=aa:=λc a7=>by
  obtain e|a7:=dx.mp a7
  .rw[e];exact D.fr
  obtain e|a7:=dx.mp a7
  .rw[e];exact CR
  rw[jL.mp a7];exact Nu
 refine⟨_,Y,_,Y,x,aD,b,_,p,_,Y,D.cI,⟨ey,ar⟩,λk hq Xp aA adz cF cI cA=>?_,λk h a3 c_ cF hd=>bL k (aY.trans (lV h)) a3 c_ (aw.Hh D.aE f2 cF) hd⟩;have aY:=aY.trans (ni aA);have gL:=gL.Xk D.cI.1 ⟨ey,ar⟩ cF;have k2:=k2.Xk D.cI.1 ⟨ey,ar⟩ cF;have dQ:=cF _ _ (by simp[CS,CT]) dQ;have dg:∀q∈[(nl,cy nm)],Xp q.1=B (.lst q.2):=λq aQ=>cF _ _ (by have z:=D.ls q aQ;have dZ:=vj D.cI.1 z;have cS:=eV z ar;simp only[dx,r7,qk,yb];exact⟨dZ,cS⟩) (D.ls q aQ);have D:lx a H x aD b hq [(nl,cy nm)] Xp:=⟨aw.Hh D.aE f2 cF,cI,D.fr,dg⟩;refine⟨_,Y,_,Y,x,aD,b,hq,p,_,ck,dd,b.length,l,gx,0,Y,cI,cA,dQ,λe nM Hm aF cF Nz adA adB=>?_,λk h a3 c_ cF hd=>bL k (aY.trans (lV h)) a3 c_ (aw.Hh D.aE dw cF) hd⟩;have aY:=aY.trans (ni aF);have gL:=gL.Xl cI.1 cA dQ cF;have k2:=k2.Xl cI.1 cA dQ cF;have dg:∀q∈[(nl,cy nm)],Hm q.1=B (.lst q.2):=λq aQ=>cF _ _ (by have z:=D.ls q aQ;have dZ:=vj cI.1 z;obtain⟨_,bk⟩:=id cA;have cS:=eV z bk;have g9:=eV z dQ;simp only[dx,r7,qk,yb];exact⟨dZ,cS,g9⟩) (D.ls q aQ);have D:lx a H x aD b nM [(nl,cy nm)] Hm:=⟨aw.Hh D.aE dw cF,Nz,D.fr,dg⟩;obtain⟨a3,ag⟩:=id Nz.1;have aY:pD b=if(cD b nM).rest=[]then .ok (FG nm wd aI cH fE Nv Nw k e)else .error nM:=aY
 refine⟨_,Y,x,_,_,Y,ag,Y,x,aD,b,nM,Y,Nz,λhg=>?_,λ_ dT c_ c3 hd=>bL nM ?_ dT c_ (aw.nD D.aE D.fr c3) hd⟩
 .rw[aZ (show(cD b nM).rest=[]from Dz hg)]at aY;have adC:=Lh aY;refine⟨_,Y,cJ _ ck (p,nl) Hm aY CR tC D.aE ⟨l,gx,dd,adB,?_,gL,k2⟩ (D.ls (nl,cy nm) (by simp))⟩;have z1:dA (qZ (kK Tf.eh E6 aI cH fE))=kS:=z1;have Ny:dA (qZ (kK Tf.pc E7 aI Nv Nw))=bt:=Ny;show mK a Hm p (tB nl _);rw[<-adq Y adC adz,z1,Ny];exact adA
 rw[aY,aL];intro z;have:=f_ tR (show b.drop nM=[]from z);rw[mP]at this;simp at this;omega
theorem zQ(c d:Nat):decide (V.str ⟨#[c]⟩=V.str ⟨#[d]⟩)=(c==d):=by rw[hM,mj,h_];exact⟨λz=>by have:=f_ (λ(s:a8)=>s.cps.toList) (V.str.inj z);simpa using this,λz=>by rw[z]⟩
theorem Xq:("S" :a8)=⟨#[83]⟩:=by decide+kernel
theorem Xr:("X" :a8)=⟨#[88]⟩:=by decide+kernel
theorem adD:("#" :a8)=⟨#[35]⟩:=by decide+kernel
theorem adE:("." :a8)=⟨#[46]⟩:=by decide+kernel
theorem CU:("K" :a8)=⟨#[75]⟩:=by decide+kernel
theorem adF:("h" :a8)=⟨#[104]⟩:=by decide+kernel
theorem fO.add{af m:I}{cX:List I}{cz:List h4}{y:h4}(O:H af=B (.lst (cX.map V.ref)))(a5:cX.length=cz.length)(aG:∀(i:Nat) m x,cX[i]? =B m->cz[i]? =B x->m5 a H m x)(hm:m5 a H m y):fO a (av H af (.lst (cX.map V.ref++[.ref m]))) af (cz++[y]):=by
 have key:∀m y,m5 a H m y->m5 a (av H af (.lst (cX.map V.ref++[.ref m]))) m y:=λm y ⟨d,e⟩=>⟨d,by rw[aN (λz=>eV O e z.symm)];exact e⟩;have Xs:∀m' y,m5 a H m' y->m5 a (av H af (.lst (cX.map V.ref++[.ref m]))) m' y:=λm' y ⟨d,e⟩=>⟨d,by rw[aN (λz=>eV O e z.symm)];exact e⟩;refine⟨cX++[m],by rw[b0,fH];rfl,by simp[a5],λi m' rG bx cw=>?_⟩;by_cases hi:i<cX.length
 .rw[kV hi]at bx;rw[kV (by omega)]at cw;exact Xs m' rG (aG i m' rG bx cw)
 rw[pz (by omega)]at bx;rw[pz (by omega)]at cw;obtain⟨j,e⟩:∃j,i-cX.length=j:=⟨_,Y⟩;rw[<-a5,e]at cw;rw[e]at bx;cases j with|zero=>cases bx;cases cw;exact Xs m y hm|succ j=>simp at bx
theorem adG(s:Nat)(l:List h4)(y:h4):Tf.signed s (l++[y])=Tf.signed s l++(if(y.2.1==s)=a9 then[y]else[]):=by unfold Tf.signed;rw[A2,qd,I8]
theorem CV(s:Nat)(l:List h4):(Tf.signed s l).length<=l.length:=vC ..
def adH(a:b5):bF:=λvs H Q _=>∃l cz s z,vs=[.ref l,.str z]/\z=⟨#[s]⟩/\fO a H l cz/\cz.length<=1000/\∀af H',aw H H'->fO a H' af (Tf.signed s cz)->Q (.ref af) H'
def adI:bF:=λvs H Q _=>∃g p y z,vs=[.str y,.str z]/\y=⟨#[g]⟩/\z=⟨#[p]⟩/\Q (.c1 (yV g p)) H
theorem NA(T:Txt K a6 a):dK P w K a6 base cj 1 "with_sign" ["marks","sign"] (adH a):=by
 refine T.aah.ok Mr (λf _ A _ s H _ Q E _ h=>?_);obtain⟨l,cz,hx,z,rfl,rfl,hm,_,k⟩:=h;refine⟨_,aX (bG (sU (tt:=AP (pL Ju (ji K (dr 2) "sign") (dr 1))) Y Mr.bh (nQ (J 0)) (o3 (own:=[("mark",2)]) Y) (λ_ _ _ _ _=>g_ (i:=2) Mr.bh) (λ_ _ _ _ _=>Kc (c' dz (bg (J 2) Y) (J 1) (cq _))) (λ_ _ _ _ _=>J 2))),?_⟩;obtain⟨cX,O,a5,aG⟩:=id hm;refine⟨_,Y,l,Y,⟨_,bp.of O⟩,λaf d2=>?_⟩;have kP:aw H (av H af (.lst [])):=aw.new d2;refine ux (K:=K) (a:=l) (xs:=cX.map V.ref) (λj bc=>aw H bc/\fO a bc af (Tf.signed hx (cz.take j))) ⟨kP,fO.nil b0⟩ (λj bc _ z=>bp.of (z.1 _ _ O)) (λj x bc bX aR=>?_) λbc aR=>?_
 .obtain⟨fp,CW⟩:=aR;obtain⟨m,vl,rfl⟩:=zM bX;have c4:j<cz.length:=by rw[<-a5];exact(ec.mp vl).1
  have ag:=f7 c4;have Xt:=(aG j m _ vl ag).same fp;obtain⟨_,hd⟩:=id Xt;refine⟨Y,_,Y,m,_,_,_,_,Y,hd,T.pq.1,T.GG,Y,_,Y,Y,_,Y,?_⟩;rw[take_snoc ag,adG];obtain⟨_,bx,cw,h1⟩:=id CW;cases e:(cz[j].2.1==hx)with
  |true=>
   refine eJ (by rw[zQ];exact e) ⟨_,Y,_,bx,?_,?_,?_⟩
   .rw[cW,cw];have:=CV hx (cz.take j);have:(cz.take j).length<=cz.length:=by rw[k9];exact DH _ _
    exact gy (by omega)
   .exact λb o uM=>by rw[aN (cU uM d2)];exact fp _ _ uM
   exact fO.add bx cw h1 Xt
  |false=>refine e7 (by rw[zQ,e];decide) ⟨fp,?_⟩;rw[aL (by decide),hN];exact CW
 obtain⟨fp,CW⟩:=aR;rw[cW,a5,j8]at CW;exact k af bc fp CW
theorem adJ(T:Txt K a6 a):dK P w K a6 base cj 1 "is_misplaced" ["ground_sign","piece"] adI:=by
 refine T.aai.ok a8A (λf _ A _ s H _ Q E _ h=>?_);obtain⟨g,p,y,z,rfl,rfl,rfl,k⟩:=h;refine⟨_,aC (d3 (c' dz (J 1) (eU T.p_ Y) (cq _)) (aX (bG (oK (gG dz (J 0) (eU T.Wk Y) (cq _)) (pJ (gG dz (J 0) (eU T.Ci Y) (cq _)))))) d8) (aX (bG (gG nW (J 0) (eU T.MG Y) (cq _)))),_,Y,Y,_,Y,?_⟩;unfold yV at k;by_cases ar:p=75
 .rw[aZ ar]at k;refine eJ (by rw[ar,CU];exact eE Y) ⟨_,Y,Y,_,Y,?_⟩;have aO:decide (V.str ⟨#[g]⟩=V.str "#")=(g==35):=by rw[adD,zQ]
  have aT:decide (V.str ⟨#[g]⟩=V.str "X")=(g==88):=by rw[Xr,zQ]
  refine gj (λO=>?_) λO=>?_
  .have O:decide (V.str ⟨#[g]⟩=V.str "#")=a9:=O;rw[aO]at O;rw[O]at k;exact k
  have O:¬decide (V.str ⟨#[g]⟩=V.str "#")=a9:=O;rw[aO]at O;rw[nK O,Dw,<-aT]at k;exact⟨_,Y,Y,k⟩
 rw[aL ar]at k;refine e7 (λz=>ar ?_) ⟨_,Y,Y,?_⟩
 .rw[CU,zQ]at z;simpa using z
 have dX:(!decide (V.str ⟨#[g]⟩=V.str "."))=(g !=46):=by rw[adE,zQ];rfl
 rw[<-dX]at k;exact k
theorem adK(xs:List V):lM xs (B 1) aa=xs.drop 1:=by unfold lM;rw[show HT.es xs.length 0 (B (1:Int))=min 1 xs.length from HT.uo xs.length 0 1,show HT.es xs.length xs.length aa=xs.length from Y];cases xs with|nil=>rfl|cons x xs=>rw[xJ (by simp)];exact lB (by simp)
theorem fO.Xu{l q:I}{cz:List h4}(h:fO a H l cz)(aQ:H q=aa){cX:List I}(O:H l=B (.lst (cX.map V.ref))):fO a (av H q (.lst (lM (cX.map V.ref) (B 1) aa))) q (cz.drop 1):=by
 obtain⟨Xv,uz,a5,aG⟩:=h;rw[O]at uz;have e:Xv=cX:=by have:=dy.lst.inj (gX uz);exact((List.map_inj_right (λx y z=>V.ref.inj z)).mp this).symm
 subst e;refine⟨Xv.drop 1,by rw[b0,adK,Ib],by simp[a5],λi m y bx cw=>?_⟩;rw[A5]at bx cw;exact(aG _ m y bx cw).same (aw.new aQ)
def vm(k:Nat)(m:h4):Nat×Nat:=(m.2.2,k)
def adL(a:b5):bF:=λvs H Q _=>∃ck len r,vs=[.ref ck]/\Nr a H ck len r/\h3 r/\∀af H',aw H H'->ff H' af (Bw r)->Q (.ref af) H'
def adM(a:b5):bF:=λvs H Q _=>∃ck len r,vs=[.ref ck]/\Nr a H ck len r/\h3 r/\∀af H',aw H H'->ff H' af (t6 r)->Q (.ref af) H'
def adN(a:b5):bF:=λvs H Q _=>∃ck len r,vs=[.ref ck]/\Nr a H ck len r/\h3 r/\∀af H',aw H H'->ff H' af (wA len r)->Q (.ref af) H'
theorem Xw(g:h3 r):(o7 r).length<=169:=by refine dC (Nj Tf.eh _ r.high r.wide r.ground r.groundAt g.Sn) ?_;rw[g.gl];exact ZZ g.b_.pU g.b_.p5
theorem NB(g:h3 r):(Tf.aE r).length<=169:=by refine dC (Nj Tf.pc _ r.high r.wide r.start r.startAt g.Lg) ?_;rw[g.aV];exact ZZ g.b_.pU g.b_.p5
theorem adO(g:h3 r):∀m∈Tf.aE r,m.1<169:=Nq g.aV g.Lg g.b_.pU g.b_.p5
theorem CP.same{ck:I}{p:I×I}{len:Nat}(h:CP a H ck p len r)(s:aw H H'):CP a H' ck p len r:=by obtain⟨g,st,dd,O,⟨dv,a5⟩,aG,cG⟩:=h;exact⟨g,st,dd,s _ _ O,⟨dv,s _ _ a5⟩,aG.same s,cG.same s⟩
variable{G:L2.St}
theorem adP{t u:b'}{b1 b2:Bool}(ba:∀e5:cR,e5 (.c1 b1) H->t G H e5)(bz:b1=aJ->∀e5:cR,e5 (.c1 b2) H->u G H e5)(k:Q (.c1 (b1||b2)) H):Q6 t u G H Q:=ba _ ⟨b1,Y,by
 cases b1
 .exact gz (bz Y Q (by simpa using k))
 exact hE (by simpa using k)⟩
theorem Xx{t u:TT}{Q:Bool->ak->Prop}{b1 b2:Bool}(ba:∀e5:Bool->ak->Prop,e5 b1 H->t G H e5)(bz:b1=aJ->∀e5:Bool->ak->Prop,e5 b2 H->u G H e5)(k:Q (b1||b2) H):Jd t u G H Q:=ba _ (by
 cases b1
 .exact gz (bz Y Q (by simpa using k))
 exact hE (by simpa using k))
theorem CY{t u:TT}{Q:Bool->ak->Prop}{b1 b2:Bool}(ba:∀e5:Bool->ak->Prop,e5 b1 H->t G H e5)(bz:b1=a9->∀e5:Bool->ak->Prop,e5 b2 H->u G H e5)(k:Q (b1&&b2) H):Jc t u G H Q:=ba _ (by
 cases b1
 .exact gz (by simpa using k)
 exact hE (bz Y Q (by simpa using k)))
theorem ff.one{t af:I}{m:Nat×Nat}(d2:(av H t (.tup [.int (m.1:Int),.int (m.2:Int)])) af=aa):ff (av (av H t (.tup [.int (m.1:Int),.int (m.2:Int)])) af (.lst [.ref t])) af [m]:=by
 have GY:t≠af:=λz=>by rw[<-z,b0]at d2;cases d2
 refine⟨[t],b0,Y,λi _ _ x y=>?_⟩;cases i with|zero=>cases x;cases y;rw[aN GY,b0]|succ i=>simp at x
theorem adQ(b:Bool):decide (V.int ((vi b:Nat):Int)=V.int 0)=!b:=by cases b<;>decide
theorem zR(l:List Nat):(dA l).cps.toList=l:=by unfold dA;simp
theorem Xy(n:I)(r:eW):(tB n r).qY.cps.toList=Tf.gM r:=zR _
theorem Xz(n:I)(r:eW):(tB n r).ground.cps.toList=Tf.e' r:=zR _
def adR(a:b5):bF:=λvs H Q _=>∃p r c n,vs=[.ref p,.int ((c:Nat):Int)]/\mK a H p (tB n r)/\dh r/\Q (.c1 (r.onEdge (c%13,c/13))) H
theorem adS(T:Txt K a6 a):dK P w K a6 base cj 1 "on_edge" ["rules","cell"] (adR a):=by
 refine T.Wm.ok zj (λf _ A _ s H _ Q E _ h=>?_);obtain⟨p,r,c,n,rfl,⟨_,ar⟩,ax,k⟩:=h;refine⟨_,aC (cx (i:=2) zj.bh (da EA (J 1) (cK T.pZ Y))) (aC (cx (i:=3) zj.bh (da Ez (J 1) (cK T.pZ Y))) (aX (bG (oK (gG dz (J 2) cb (cq _)) (oK (gG dz (J 3) cb (cq _)) (oK (gG dz (J 2) (da nU (bg (J 0) Y) cb) (cq _)) (pJ (gG dz (J 3) (da nU (bg (J 0) Y) cb) (cq _))))))))),?_⟩;have eZ:=ax.wi;have iH:=ax.eZ;have aO:decide (V.int ((c:Int)%13)=V.int 0)=(c%13==0):=by rw[nV];apply hM.mpr;simp only[h_];omega
 have aT:decide (V.int ((c:Int)/13)=V.int 0)=(c/13==0):=by rw[nV];apply hM.mpr;simp only[h_];omega
 have dX:decide (V.int ((c:Int)%13)=V.int ((r.wide:Int)-1))=(c%13+1==r.wide):=by rw[nV];apply hM.mpr;simp only[h_];omega
 have hF:decide (V.int ((c:Int)/13)=V.int ((r.high:Int)-1))=(c/13+1==r.high):=by rw[nV];apply hM.mpr;simp only[h_];omega
 have k:Q (.c1 ((c%13==0)||(c/13==0)||(c%13+1==r.wide)||(c/13+1==r.high))) H:=k;rw[<-aO,<-aT,<-dX,<-hF]at k;refine⟨_,rfl,_,_,rfl,rfl,(by show(0:Int)<13;decide),_,rfl,_,_,rfl,rfl,⟨(by show(0:Int)<13;decide),(by show(13:Int)<1073741824;decide)⟩,_,rfl,rfl,_,rfl,gj (λO=>?_) λO=>?_⟩
 .rw[show decide (V.int ((c:Int)%13)=V.int 0)=a9 from O]at k;exact k
 rw[show decide (V.int ((c:Int)%13)=V.int 0)=aJ from nK O]at k;refine⟨_,Y,Y,_,Y,gj (λa5=>?_) λa5=>?_⟩
 .rw[show decide (V.int ((c:Int)/13)=V.int 0)=a9 from a5]at k;exact k
 rw[show decide (V.int ((c:Int)/13)=V.int 0)=aJ from nK a5]at k;refine⟨_,Y,_,Y,p,_,_,_,_,Y,ar,T.dk.1,T.zu,Y,_,_,Y,Y,Y,_,Y,gj (λaG=>?_) λaG=>?_⟩
 .rw[show decide (V.int ((c:Int)%13)=V.int ((r.wide:Int)-1))=a9 from aG]at k;exact k
 rw[show decide (V.int ((c:Int)%13)=V.int ((r.wide:Int)-1))=aJ from nK aG]at k;refine⟨_,Y,_,Y,p,_,_,_,_,Y,ar,T.dk.1,T.x2,Y,_,_,Y,Y,Y,?_⟩;exact k
theorem adT(T:Txt K a6 a):dK P w K a6 base cj 1 "missing_faults" ["draft"] (adN a):=by
 refine T.aak.ok Mt (λf _ A _ s H _ Q E _ h=>?_);obtain⟨ck,len,r,rfl,⟨p,g,_,_,dQ,⟨_,bk⟩,_,_⟩,_,k⟩:=h;refine⟨_,aC (cx (i:=1) Mt.bh (bg (J 0) Y)) (aC (cx (i:=2) Mt.bh (oK (gG dz (bg (J 1) Y) cb (cq _)) (pJ (gG rx (bg (J 1) Y) cb (cq _))))) (aC (d3 (jc.pt (Eo (c' F4 (eU T.p_ Y) (bg (J 1) Y) Y) (Eo (c' F4 (eU T.Cj Y) (bg (J 1) Y) Y) (Je (jc.pt (nO (je (J 2)) (pI (c' F4 (eU T.Gw Y) (bg (J 1) Y) Y)))))))) (aX (bG (fv (ao (sF (ao (bg (J 0) Y) (ao cb az))) az)))) d8) (aX (bG (fv az))))),_,Y,ck,_,_,_,_,Y,dQ,T.jt.1,T.zw,Y,?_⟩;dsimp only[mr,nP,oP];refine adP (b1:=!r.passed) (b2:=decide (((r.seat:Nat):Int)>0)) (λe5 q=>⟨_,Y,p.1,_,_,_,_,Y,bk,T.dk.1,T.Gx,Y,Y,?_⟩) (λ_ e5 q=>⟨_,Y,p.1,_,_,_,_,Y,bk,T.dk.1,T.Gy,Y,_,_,Y,Y,q⟩) ?_
 .show e5 (.c1 (decide (V.int ((vi r.passed:Nat):Int)=V.int 0))) H;rw[adQ];exact q
 refine Xx (b1:=!decide (75∈Tf.gM r)) (b2:=(!decide (104∈Tf.gM r)||((!r.passed||decide (((r.seat:Nat):Int)>0))&&!decide (83∈Tf.e' r)))) (λe5 q=>⟨_,Y,p.1,_,_,_,_,Y,bk,T.dk.1,T.Ck,Y,75,_,f_ V.str CU,Y,_,Y,?_⟩) (λ_ e5 q=>Xx (b1:=!decide (104∈Tf.gM r)) (b2:=((!r.passed||decide (((r.seat:Nat):Int)>0))&&!decide (83∈Tf.e' r))) (λe5 q=>⟨_,Y,p.1,_,_,_,_,Y,bk,T.dk.1,T.Ck,Y,104,_,f_ V.str adF,Y,_,Y,?_⟩) (λ_ e5 q=>CY (b1:=(!r.passed||decide (((r.seat:Nat):Int)>0))) (b2:=!decide (83∈Tf.e' r)) (λe5 q=>⟨_,Y,_,Y,q⟩) (λ_ e5 q=>⟨_,Y,p.1,_,_,_,_,Y,bk,T.dk.1,T.oe,Y,83,_,f_ V.str Xq,Y,_,Y,?_⟩) q) q) ?_
 .rw[Xy];exact q
 .rw[Xy];exact q
 .rw[Xz];exact q
 have e:(!decide (75∈Tf.gM r)||(!decide (104∈Tf.gM r)||((!r.passed||decide (((r.seat:Nat):Int)>0))&&!decide (83∈Tf.e' r))))=a9↔(75∉Tf.gM r∨104∉Tf.gM r∨((r.passed=aJ∨r.seat>0)/\83∉Tf.e' r)):=by simp
 refine gj (λh=>?_) λh=>?_
 .have k:∀af H',aw H H'->ff H' af [(len,6)]->Q (.ref af) H':=by unfold wA at k;rw[aZ (e.mp h)]at k;exact k
  refine⟨_,Y,ck,_,_,_,_,Y,dQ,T.jt.1,T.Wr,Y,nL,λt ba=>⟨g7,λaf d2=>k af _ (aw.upd (aw.new ba) d2) (ff.one (m:=(len,6)) d2)⟩⟩
 have k:∀af H',aw H H'->ff H' af []->Q (.ref af) H':=by unfold wA at k;rw[aL λz=>h (e.mpr z)]at k;exact k
 exact⟨ek _,λaf d2=>k af _ (aw.new d2) (ff.nil b0)⟩
theorem ff.two{l b q:I}{ns:List (Nat×Nat)}{zs:List V}(h:ff H l cz)(h':ff H b ns)(ex:H l=B (.lst xs))(N2:H b=B (.lst zs))(aQ:H q=aa):ff (av H q (.lst (xs++zs))) q (cz++ns):=by
 obtain⟨ts,et,eM,hH⟩:=h;obtain⟨us,b1,b2,lS⟩:=h';rw[ex]at et;cases et;rw[N2]at b1;cases b1;refine⟨ts++us,by rw[b0,fH],by simp[eM,b2],λi t m x y=>?_⟩;have key:H t=B (.tup [.int (m.1:Int),.int (m.2:Int)]):=by
  by_cases hi:i<ts.length
  .rw[kV hi]at x;rw[kV (by omega)]at y;exact hH i t m x y
  rw[pz (by omega)]at x;rw[pz (by omega)]at y;rw[<-eM]at y;exact lS _ t m x y
 rw[aN (cU key aQ)];exact key
theorem adU(T:Txt K a6 a):dK P w K a6 base cj 2 "goal_faults" ["draft"] (adM a):=by
 refine T.aaj.ok Ms (λf _ A _ s H _ Q E ah h=>?_);obtain⟨ck,_,r,rfl,d2,aj,k⟩:=h;refine⟨_,aC (cx (i:=1) Ms.bh (bg (J 0) Y)) (aC (cx (i:=2) Ms.bh (ct (NA T) ah Y bw (ao (bg (J 0) Y) (ao (eU T.p_ Y) az)))) (aC (d3 (jc.pt (nO (c' dz (bg (J 1) Y) (cK T.a96 Y) (cq _)) (pI (c' F4 (eU T.Ci Y) (bg (J 1) Y) Y)))) (aX (bG (fv (ao (sF (ao (bg (J 0) Y) (ao cb az))) az)))) d8) (aC (d3 (jc.pt (nO (c' dz (bg (J 1) Y) (cK T.Wb Y) (cq _)) (nO (c' rx (fc i' Y T.hU ia (ao (J 2) az)) cb (cq _)) (pI (je (ct (adS T) ah Y bw (ao (J 1) (ao (bg (dV hD (J 2) cb (λ_ _=>rfl)) Y) az)))))))) (aX (bG (fv (ao (sF (ao (bg (J 0) Y) (ao cb az))) az)))) d8) (aX (bG (fv az)))))),?_⟩;obtain⟨p,g,st,_,dQ,⟨dv,bk⟩,_,ax⟩:=id d2;refine⟨_,Y,ck,_,_,_,_,Y,dQ,T.jt.1,T.zw,Y,_,Y,ck,_,_,_,_,Y,dQ,T.jt.1,T.zx,Y,st,_,75,_,Y,CU,ax,dC (NB aj) (by decide),λaf ai aE gL=>?_⟩;have dQ:=aE _ _ dQ;have bk:=aE _ _ bk;have tell:∀au t ly,au t=aa->(av au t (.tup [.int ((r.goalAt:Nat):Int),.int 5])) ly=aa->aw H au->t6 r=[(r.goalAt,5)]->Q (.ref ly) (av (av au t (.tup [.int ((r.goalAt:Nat):Int),.int 5])) ly (.lst [.ref t])):=λau t ly O a5 eI e=>k ly _ (aw.upd (aw.upd eI O) a5) (by rw[e];exact ff.one (m:=(r.goalAt,5)) a5);have aO:decide (V.int ((r.goal:Nat):Int)=V.int 1)=decide (r.goal=1):=by rw[nV,hM,h_,mj];omega
 have e0:decide (V.int ((r.goal:Nat):Int)=V.int 0)=decide (r.goal=0):=by rw[nV,hM,h_,mj];omega
 dsimp only[mr,nP,oP];refine CY (b1:=decide (r.goal=1)) (b2:=!decide (88∈Tf.e' r)) (λe5 q=>⟨_,Y,p.1,_,_,_,_,Y,bk,T.dk.1,T.Cn,Y,Y,_,Y,?_⟩) (λ_ e5 q=>⟨_,Y,p.1,_,_,_,_,Y,bk,T.dk.1,T.oe,Y,88,_,f_ V.str Xr,Y,_,Y,?_⟩) ?_
 .show e5 (decide (V.int ((r.goal:Nat):Int)=V.int 1)) ai;rw[aO];exact q
 .rw[Xz];exact q
 have eG:(decide (r.goal=1)&&!decide (88∈Tf.e' r))=a9↔(r.goal=1/\88∉Tf.e' r):=by simp
 refine gj (λO=>?_) λO=>?_
 .refine⟨_,Y,ck,_,_,_,_,Y,dQ,T.jt.1,T.GJ,Y,nL,λt ba=>⟨g7,λly rY=>tell ai t ly ba rY aE ?_⟩⟩;unfold t6;rw[aZ (eG.mp O)]
 have jr:t6 r=if r.goal=0/\∃m,(Tf.signed 75 (Tf.aE r))[0]? =B m/\rH r m.1=a9 then[(r.goalAt,5)]else[]:=by unfold t6;rw[aL λz=>O (eG.mpr z)]
 obtain⟨cX,hq,_,NC⟩:=id gL;let ll:Bool:=match(Tf.signed 75 (Tf.aE r))[0]? with
  |some m=>rH r m.1
  |none=>aJ
 dsimp only[AF,nP,Jf];refine CY (b1:=decide (r.goal=0)) (b2:=decide (((cX.length:Nat):Int)>0)&&ll) (λe5 q=>⟨_,Y,p.1,_,_,_,_,Y,bk,T.dk.1,T.Cn,Y,Y,_,Y,?_⟩)
  (λ_ e5 q=>CY (b1:=decide (((cX.length:Nat):Int)>0)) (b2:=ll) (λe5 q=>⟨_,Y,af,_,Y,.inl (bp.of hq),_,_,Y,Y,_,Y,?_⟩) (λa0 e5 q=>?_) q) ?_
 .show e5 (decide (V.int ((r.goal:Nat):Int)=V.int 0)) ai;rw[e0];exact q
 .rw[cW];exact q
 .have a0:=e3 a0;have aq:0<cX.length:=by omega
  have hc:0<(Tf.signed 75 (Tf.aE r)).length:=by omega
  have ag:=f7 hc;obtain⟨_,hd⟩:=NC 0 _ _ (f7 aq) ag;have adV:ll=rH r (Tf.signed 75 (Tf.aE r))[0].1:=by show(match(Tf.signed 75 (Tf.aE r))[0]? with|some m=>rH r m.1|none=>aJ)=_;rw[ag]
  rw[adV]at q;refine⟨_,Y,_,Y,af,_,_,.ref cX[0],Y,Y,bp.of hq,?_,cX[0],_,_,_,_,Y,hd,T.pq.1,T.GF,Y,p.1,r,_,p.2,Y,⟨dv,bk⟩,aj.b_,_,Y,q⟩;refine gr (j:=0) ?_;rw[fP,f7 aq];rfl
 have gg:(decide (r.goal=0)&&(decide (((cX.length:Nat):Int)>0)&&ll))=a9↔(r.goal=0/\∃m,(Tf.signed 75 (Tf.aE r))[0]? =B m/\rH r m.1=a9):=by
  cases e:(Tf.signed 75 (Tf.aE r))[0]? with
  |none=>simp[ll,e]
  |some m=>
   have:=(ec.mp e).1;have:0<cX.length:=by omega
   simp[ll,e,this]
 refine gj (λa5=>?_) λa5=>?_
 .refine⟨_,Y,ck,_,_,_,_,Y,dQ,T.jt.1,T.GJ,Y,nL,λt ba=>⟨g7,λly rY=>tell ai t ly ba rY aE ?_⟩⟩;rw[jr,aZ (gg.mp a5)]
 rw[aL λz=>a5 (gg.mpr z)]at jr;exact⟨ek _,λly rY=>k ly _ (aw.upd aE rY) (by rw[jr];exact ff.nil b0)⟩
theorem XA{l:List h4}{j:Nat}(h:l.length<=n):((l.take j).map (vm k)).length<=n:=by rw[cW,k9];exact dC (DH _ _) h
theorem adW(f:bu->Bool)(l:List bu)(y:bu):(l++[y]).filter f=l.filter f++(if f y=a9 then[y]else[]):=by rw[A2,qd,I8]
theorem adX(T:Txt K a6 a):dK P w K a6 base cj 2 "mark_faults" ["draft"] (adL a):=by
 refine T.aag.ok uZ (λf _ A _ s H _ Q E ah h=>?_);obtain⟨ck,_,r,rfl,adY,aj,k⟩:=h;refine⟨_,aC (cx (i:=1) uZ.bh (ct (NA T) ah Y bw (ao (bg (J 0) Y) (ao (eU T.Gw Y) az)))) (aC (cx (i:=2) uZ.bh (ct (NA T) ah Y bw (ao (bg (J 0) Y) (ao (eU T.p_ Y) az)))) (aC (EZ (i:=3) (bY:=JI (eL (ji K (dr 4) "place") (eL (iB (.int 2)) gc))) Y uZ.bh Y Y (E_ Y Y Y Y) (nQ (sL uq (J 1) (n7 cb) JT)) (o3 (own:=[("mark",4)]) Y) (λ_ _ _ _ _=>g_ (i:=4) uZ.bh) (λ_ _ _ _ _=>qu) (λ_ _ _ _ _=>sF (ao (bg (J 4) Y) (ao cb az)))) (aC (nR oz Y (nQ (bg (J 0) Y)) (g_ (i:=4) uZ.bh) (aX (d3 (je (ct (adJ T) ah Y bw (ao (dV n8 (bg (bg (J 0) Y) Y) (bg (J 4) Y) (λ_ _=>rfl)) (ao (bg (J 4) Y) az)))) (aX (e6 (pM oy tV vI sO (J 3) (ao (sF (ao (bg (J 4) Y) (ao cb az))) az)))) d8))) (aX (bG (da nZ (J 3) (sU (bY:=JI (eL (ji K (dr 4) "place") (eL (iB (.int 4)) gc))) Y uZ.bh (nQ (sL uq (J 2) (n7 cb) JT)) (o3 (own:=[("mark",4)]) Y) (λ_ _ _ _ _=>g_ (i:=4) uZ.bh) (λ_ _ _ _ _=>qu) (λ_ _ _ _ _=>sF (ao (bg (J 4) Y) (ao cb az)))))))))),?_⟩;obtain⟨p,g,st,_,dQ,⟨_,bk⟩,aI,ax⟩:=id adY;have gl:=Xw aj;have aV:=NB aj;refine⟨_,Y,ck,_,_,_,_,Y,dQ,T.jt.1,T.GI,Y,g,_,83,_,Y,Xq,aI,dC gl (by decide),λxl _ p' Hn=>?_⟩;refine⟨_,Y,ck,_,_,_,_,Y,p' _ _ dQ,T.jt.1,T.zx,Y,st,_,75,_,Y,CU,ax.same p',dC aV (by decide),λly au eI k2=>?_⟩;have Hn:=Hn.same eI;have Ho:=p'.trans eI;obtain⟨cX,bx,_,_⟩:=id Hn;refine⟨_,Y,_,Y,xl,_,Y,bp.of bx,λq aQ=>?_⟩;have XB:=Hn.Xu aQ bx;have ND:aw au (av au q (.lst (lM (cX.map V.ref) (B 1) aa))):=aw.new aQ;generalize av au q (.lst (lM (cX.map V.ref) (B 1) aa))=bc at XB ND ⊢;obtain⟨adZ,cv,dR,sD⟩:=id XB;refine⟨q,Y,⟨_,bp.of cv⟩,λaf d2=>?_⟩;have iJ:((Tf.signed 83 (o7 r)).drop 1).length<=169:=by rw[mP];have:=CV 83 (o7 r);omega
 have gx:((Tf.signed 75 (Tf.aE r)).drop 1).length<=169:=by rw[mP];have:=CV 75 (Tf.aE r);omega
 have kP:aw bc (av bc af (.lst [])):=aw.new d2;refine ux (K:=K) (a:=q) (xs:=adZ.map V.ref) (λj cT=>aw bc cT/\ff cT af ((((Tf.signed 83 (o7 r)).drop 1).take j).map (vm 2))) ⟨kP,ff.nil b0⟩ (λj cT _ z=>bp.of (z.1 _ _ cv)) (λj x cT bX aR=>?_) λcT aR=>?_
 .obtain⟨CZ,C_⟩:=aR;obtain⟨m,vl,rfl⟩:=zM bX;have c4:j<((Tf.signed 83 (o7 r)).drop 1).length:=by rw[<-dR];exact(ec.mp vl).1
  have ag:=f7 c4;obtain⟨a3,hd⟩:=(sD j m _ vl ag).same CZ;obtain⟨ys,rL,wQ⟩:=C_.list;refine⟨Y,_,Y,m,_,_,_,_,Y,hd,T.pq.1,T.GH,Y,nL,λlp kN=>?_⟩;obtain⟨hC,g0⟩:=C_.snoc (m:=vm 2 ((Tf.signed 83 (o7 r)).drop 1)[j]) rL kN;refine⟨ys,hC,?_,λb o z=>?_,?_⟩
  .rw[wQ];exact gy (dC (XA iJ) (by decide))
  .rw[aN (cU z d2),aN (cU (CZ _ _ z) kN)];exact CZ _ _ z
  rw[take_snoc ag,fH];exact g0
 obtain⟨CZ,C_⟩:=aR;rw[cW,dR,j8]at C_;have rY:au af=aa:=ND.free d2;obtain⟨c5,s1,s2,bE⟩:=id (ax.same Ho);have XC:=Ho _ _ dQ;have ae0:=Ho _ _ bk;have NF:aw au cT:=ND.trans CZ;refine⟨_,Y,ck,_,_,_,_,Y,NF _ _ XC,T.jt.1,T.zx,Y,st,Y,⟨_,bp.of (NF _ _ s1)⟩,yn (xs:=c5.map V.ref) (λi aM H'=>∃v,aM=[B (.ref ck),B (.ref xl),B (.ref ly),B (.ref af),v]/\aw au H'/\ff H' af (((Tf.signed 83 (o7 r)).drop 1).map (vm 2)++(((Tf.aE r).take i).filter (qF r)).map (vm 3))) ⟨aa,Y,NF,(by simpa using C_)⟩ (λi aM H' _ bK=>?_) (λi x aM H' hi bK=>?_) λaM H' bK=>?_⟩
 .obtain⟨v,rfl,aE,_⟩:=bK;exact bp.of (aE _ _ s1)
 .obtain⟨v,rfl,aE,l8⟩:=bK;obtain⟨m,CH,rfl⟩:=zM hi;have c4:i<(Tf.aE r).length:=by rw[<-s2];exact(ec.mp CH).1
  have ag:=f7 c4;obtain⟨a3,hd⟩:=(bE i m _ CH ag).same aE;have a7:=adO aj _ (mQ ag);have G1:(Tf.e' r)[(Tf.aE r)[i].1]? =B ((Tf.e' r).getD (Tf.aE r)[i].1 0):=by rw[tQ,f7 (by rw[Lc];exact a7)];rfl
  refine⟨_,Y,ck,_,_,_,_,Y,aE _ _ XC,T.jt.1,T.zw,Y,p.1,_,_,_,_,Y,aE _ _ ae0,T.dk.1,T.oe,Y,_,Y,m,_,_,_,_,Y,hd,T.pq.1,T.GF,Y,_,_,_,Y,Y,zA _ (Lc r),BN G1,_,Y,m,_,_,_,_,Y,hd,T.pq.1,T.GG,Y,_,_,_,_,Y,Y,Y,_,Y,?_⟩;rw[take_snoc ag,adW];obtain⟨xs,gJ,gw⟩:=l8.list;cases e:qF r (Tf.aE r)[i]with
  |true=>
   refine eJ e ⟨_,Y,.inl ⟨Y,_,bp.of gJ⟩,_,Y,m,_,_,_,_,Y,hd,T.pq.1,T.GH,Y,nL,λlp kN=>?_⟩;obtain⟨hC,g0⟩:=l8.snoc (m:=vm 3 (Tf.aE r)[i]) gJ kN;refine⟨af,_,_,Y,Y,hC,?_,_,Y,λb o z=>?_,?_⟩
   .rw[gw,df,cW,cW];have O:=vC (qF r) ((Tf.aE r).take i);have a5:((Tf.aE r).take i).length<=(Tf.aE r).length:=by rw[k9];exact DH _ _
    exact gy (by omega)
   .rw[aN (cU z rY),aN (cU (aE _ _ z) kN)];exact aE _ _ z
   rw[aZ Y,fH,<-lA];exact g0
  |false=>refine e7 (by rw[show yV ((Tf.e' r).getD (Tf.aE r)[i].1 0) (Tf.aE r)[i].2.1=aJ from e];decide) ⟨_,Y,aE,?_⟩;rw[aL (by decide),hN];exact l8
 obtain⟨v,rfl,aE,l8⟩:=bK;rw[cW,s2,j8]at l8;have C':=k2.same aE;obtain⟨ic,gK,_,_⟩:=id C';refine⟨_,Y,_,Y,_,Y,ly,_,Y,bp.of gK,λyo XD=>?_⟩;have C':=C'.Xu XD gK;have NG:aw H' (av H' yo (.lst (lM (ic.map V.ref) (B 1) aa))):=aw.new XD;generalize av H' yo (.lst (lM (ic.map V.ref) (B 1) aa))=c_ at C' NG ⊢;obtain⟨h8,H5,jU,RF⟩:=id C';refine⟨yo,Y,⟨_,bp.of H5⟩,λvn D0=>?_⟩;have ae1:aw c_ (av c_ vn (.lst [])):=aw.new D0;refine ux (K:=K) (a:=yo) (xs:=h8.map V.ref) (λj fK=>aw c_ fK/\ff fK vn ((((Tf.signed 75 (Tf.aE r)).drop 1).take j).map (vm 4))) ⟨ae1,ff.nil b0⟩ (λj fK _ z=>bp.of (z.1 _ _ H5)) (λj x fK bX aR=>?_) λfK aR=>?_
 .obtain⟨zS,zT⟩:=aR;obtain⟨m,vl,rfl⟩:=zM bX;have c4:j<((Tf.signed 75 (Tf.aE r)).drop 1).length:=by rw[<-jU];exact(ec.mp vl).1
  have ag:=f7 c4;obtain⟨a3,hd⟩:=(RF j m _ vl ag).same zS;obtain⟨ys,rL,wQ⟩:=zT.list;refine⟨Y,_,Y,m,_,_,_,_,Y,hd,T.pq.1,T.GH,Y,nL,λlp kN=>?_⟩;obtain⟨hC,g0⟩:=zT.snoc (m:=vm 4 ((Tf.signed 75 (Tf.aE r)).drop 1)[j]) rL kN;refine⟨ys,hC,?_,λb o z=>?_,?_⟩
  .rw[wQ];exact gy (dC (XA gx) (by decide))
  .rw[aN (cU z D0),aN (cU (zS _ _ z) kN)];exact zS _ _ z
  rw[take_snoc ag,fH];exact g0
 obtain⟨zS,zT⟩:=aR;rw[cW,jU,j8]at zT;have XE:=(l8.same NG).same zS;obtain⟨xs,gJ,gw⟩:=XE.list;obtain⟨zs,lG,oI⟩:=zT.list;refine⟨af,vn,xs,zs,Y,Y,gJ,lG,?_,λae2 Hp=>k ae2 _ (aw.upd (((Ho.trans aE).trans NG).trans zS) Hp) (ff.two XE zT gJ lG Hp)⟩;rw[gw,oI,df,cW,cW,cW];have O:=vC (qF r) (Tf.aE r);exact hl (gy (by omega))
def Hq(P:bQ)(w:bI)(K:bj)(a6:a8->Option ae)(base:br)(k:Nat)(C:I)(cV aK:List a8)(sp:bF):Prop:=∃f fd,iM K C f cV/\Gf P w K a6 base k f fd aK sp/\Binds K fd aK []
theorem uX.XF(L:uX K C cm cV st)(S:bZ N aK (bo st))(a0:∀(f:I)(b4:ae)(A:d9)(outer:List eB)(s:ay)(H:ak)(vs:List V)(Q:cR)(E:dN),sp vs H Q E->∃t,ie (wY P w K a6 base N cm (bo st) f b4 A outer s H E) (lP st) t/\t {c6:=λ_ H'=>Q .bS H',ic:=Q} (start N vs) H)(d:ti sp "__init__" cm st aK:=by exact{}):Hq P w K a6 base (k+1) C cV aK sp:=
 let⟨f,fd,hm,F⟩:=L;⟨f,fd,hm,a7L F S d.len λb4 A outer s H vs Q E h=>a0 f b4 A outer s H vs Q E h,F.binds d.bd⟩
theorem NH{x:a8}{p:Pos}{t:gE}(af:Hq X.prog X.w X.K X.a6 X.base k C cV aK sp)(ah:j' (k+1) X.A)(aI:hA X x)(hm:X.a6 x=B (.ref C))(bf:hz X (e::b7) t)(gd:kF x:=by decide)(aF:nY X e b7:=by rfl)(eF:l5 X pos b7:=by rfl):bT X (.Call (.Name x p) (e::b7) [] pos) (wI C sp E t):=by obtain⟨f,_,e8,F,a0⟩:=af;exact a7N e8 F ah aI hm a0 bf gd aF eF
def Hr(C:I)(f g:a8):bF:=λvs H Q _=>∃x u v,vs=[.ref x,u,v]/\H x=B (dj x C aa 0)/\∀a3,H a3=aa->a3≠x->Q .bS (av (av (av H a3 (gm a3 [(f,u)])) x (dj x C (B a3) 0)) a3 (gm a3 [(f,u),(g,v)]))
theorem Hs{a:I}{f g:a8}{u v:V}(bf:H a=aa)(fF:(av H a (dj a C aa 0)) a3=aa)(bV:a3≠a):aw H (av (av (av (av (av H a (dj a C aa 0)) a3 (gm a3 [(f,u)])) a (dj a C (B a3) 0)) a3 (gm a3 [(f,u),(g,v)])) a (dj a C (B a3) m))/\(av (av (av (av (av H a (dj a C aa 0)) a3 (gm a3 [(f,u)])) a (dj a C (B a3) 0)) a3 (gm a3 [(f,u),(g,v)])) a (dj a C (B a3) m)) a3=B (gm a3 [(f,u),(g,v)]):=by
 have vf:H a3=aa:=by rw[aN bV]at fF;exact fF
 refine⟨λc o q=>?_,by rw[aN bV,b0]⟩;have O:c≠a:=cU q bf;have a5:c≠a3:=cU q vf;rw[aN O,aN a5,aN O,aN a5,aN O];exact q
theorem ae3{gB:I}{f g:a8}{u v:V}{pe:dN}(e8:iM K C gB cV)(h:∀a3 H',aw H H'->H' a3=B (gm a3 [(f,u),(g,v)])->E (.ref C) (B a3) H'):∀a,H a=aa->Hr C f g [.ref a,u,v] (av H a (dj a C aa 0)) (λw au=>w=.bS/\∃hB j3 a3 xe s_,V.ref a=.ref hB/\au hB=B (dj hB j3 (B a3) 0)/\iM K j3 xe s_/\E (.ref j3) (B a3) (av au hB (dj hB j3 (B a3) 1))) pe:=λa bf=>⟨a,u,v,Y,b0,λa3 fF bV=>⟨Y,a,C,a3,gB,cV,Y,by rw[aN (ed bV),b0],e8,h a3 _ (Hs bf fF bV).1 (Hs bf fF bV).2⟩⟩
theorem ae4{gB e0 mF fX:I}{f g:a8}{u v:V}{pe:dN}(e8:iM K C gB cV)(b9:H e0=B (dj e0 mF (B fX) 1))(h:∀a3 H',aw H H'->H' a3=B (gm a3 [(f,u),(g,v)])->E (.ref C) (B a3) H'):∀a,H a=aa->Hr C f g [.ref a,u,v] (av H a (dj a C aa 0)) (λw au=>w=.bS/\∃hB j3 a3 xe s_ mF fX,V.ref a=.ref hB/\au hB=B (dj hB j3 (B a3) 0)/\iM K j3 xe s_/\au e0=B (dj e0 mF (B fX) 1)/\e0≠hB/\E (.ref j3) (B a3) (av au hB (dj hB j3 (B a3) 2))) pe:=λa bf=>⟨a,u,v,Y,b0,λa3 fF bV=>⟨Y,a,C,a3,gB,cV,mF,fX,Y,by rw[aN (ed bV),b0],e8,by
  have vf:H a3=aa:=by rw[aN bV]at fF;exact fF
  have O:e0≠a:=cU b9 bf;have a5:e0≠a3:=cU b9 vf;rw[aN a5,aN O,aN a5,aN O];exact b9,cU b9 bf,h a3 _ (Hs bf fF bV).1 (Hs bf fF bV).2⟩⟩
theorem ae5{n:I}(h:Tf.Right r):hJ (tB n r)=GL n r:=by
 have e:∀b:Bool,((vi b:Nat):Int)=b2 b:=λb=>by cases b<;>rfl
 unfold hJ tB GL;dsimp only;rw[a5A h,e,e,e,e]
def q'(a:b5)(H:ak)(p n:I)(r:eW):Prop:=(∃a3,H p=B (.ins a.Rules a3 (GL n r)))/\H n=B (.lst (cy r.name))
theorem q'.at{n:I}(h:q' a H p n r):fN a H p r:=let⟨⟨a3,q⟩,_⟩:=h;⟨(a3,n),q⟩
theorem q'.same{n:I}(h:q' a H p n r)(s:aw H H'):q' a H' p n r:=let⟨⟨a3,q⟩,z⟩:=h;⟨⟨a3,s _ _ q⟩,s _ _ z⟩
def ae6(a:b5):bF:=λvs H Q E=>∃aD b,vs=[.ref aD]/\H aD=B (.lst (cy b))/\(∀r p n H',mi b=.ok r->H p=aa->H n=aa->aw H H'->q' a H' p n r->Q (.ref p) H')/\(∀ps pl,mi b=.error (ps,pl)->∀a3 H',aw H H'->H' a3=B (gm a3 [("kind",.int ((ps:Nat):Int)),("place",.int ((pl:Nat):Int))])->E (.ref a.u') (B a3) H')
theorem XG(T:Txt K a6 a):Hq P w K a6 base 1 a.u' ["kind","place"] ["self","kind","place"] (Hr a.u' "kind" "place"):=by have L:=T.MT;obtain⟨_,_,e8,_⟩:=id L;refine L.XF a8R (λf _ A _ s H _ Q E h=>?_);obtain⟨x,u,v,rfl,ag,k⟩:=h;refine⟨_,aC (BI (J 0) (J 1) Y) (aX (BI (J 0) (J 2) Y)),_,Y,_,Y,x,_,_,_,Y,e8,by simp,.inl ⟨ag,λa3 fF bV=>?_⟩⟩;refine⟨_,Y,_,Y,x,_,_,_,Y,e8,by simp,.inr ⟨a3,_,b0,(by rw[aN bV,b0]),bV,(by show 1<1000;decide),?_⟩⟩;exact k a3 fF bV
theorem ae7(T:Txt K a6 a):dK P w K a6 base (mC 2 P w) 7 "read_rules" ["source"] (ae6 a):=by
 refine T.aaa.kq BZ (λf b4 A _ s H _ Q E ah h=>?_);obtain⟨aD,b,rfl,fg,cJ,bL⟩:=h;obtain⟨_,_,xm,_⟩:=id T.qO;obtain⟨_,_,zU,_⟩:=id T.MT;have a5:j' 2 (A.deeper (fB "read_rules" (bo Mc) s.heap.objs.size f b4)):=dn.BP ah.mono;refine⟨_,aC (Ga (i:=2) (t:=1) (u:=2) (E1:=λcls iN H'=>∃a3,∃k:Nat,cls=.ref a.m1/\iN=B a3/\pD b=.error k/\aw H H'/\H' a3=B (gm a3 [("place",.int (k:Int))])) (E2:=E) (th:=λe=>LS K e (wI a.u' (Hr a.u' "kind" "place") E (eL (iB (.int 1)) (eL (wK K (dr 2) "place") gc))) E) Y Y BZ.bh Y Y Y T.tm xm (λcZ bN c=>aX (cx (i:=1) BZ.bh (ct (adu T) ah Y c.passes (ao (J 0) az)))) dW (λe cZ bN c=>aX (TO (e0:=e) (NH (XG T) ⟨a5.ey,a5.un⟩ Y T.MS (ao cb (ao (z3 (J 2) Y) az))) Y c))) (aC (cx (i:=3) BZ.bh (da nZ (da nZ (ct (adX T) ah.mono Y bw (ao (J 1) az)) (ct (adU T) ah.mono Y bw (ao (J 1) az))) (ct (adT T) ah.mono Y bw (ao (J 1) az)))) (aC (d3 (c' rx (fc i' Y T.hU ia (ao (J 3) az)) cb (cq _)) (aC (cx (i:=4) BZ.bh (fc (a7I Y (F6 ah)) Y T.ab7 boot_min (ao (J 3) az))) (aX (wJ (NH (E:=E) (XG T) a5 Y T.MS (ao (dV lN (J 4) cb (λ_ _=>rfl)) (ao (dV lN (J 4) cb (λ_ _=>rfl)) az))) Y dW))) d8) (aX (bG (bg (J 1) Y))))),⟨_,Y,aD,b,Y,fg,λr ck p ai aI NI t8 aE d2 aea=>?_,λk aA a3 ai aE hd=>⟨a3,k,Y,Y,aA,aE,hd⟩⟩,λcls iN ai ⟨a3,k,aO,aT,aA,aE,hd⟩=>⟨aO,λe dT m aU aF _=>?_⟩⟩
 .have aj:=Lh aI;refine⟨_,Y,ck,b.length,r,Y,⟨p,d2⟩,aj,λxl _ s2 p2=>⟨_,Y,ck,b.length,r,Y,⟨p,d2.same s2⟩,aj,λly bc bE eY=>?_⟩⟩;have p2:=p2.same bE;obtain⟨NJ,gJ,_⟩:=p2.list;obtain⟨NK,gw,_⟩:=eY.list;have b1:(Bw r).length<=600:=by unfold Bw;rw[df,df,cW,cW,cW,mP,mP];have:=CV 83 (o7 r);have:=CV 75 (Tf.aE r);have:=Xw aj;have:=NB aj;have:=vC (qF r) (Tf.aE r);omega
  have b2:(t6 r).length<=1:=by
   unfold t6;split
   .simp
   split<;>simp
  have lS:(wA b.length r).length<=1:=by unfold wA;split<;>simp
  refine⟨xl,ly,NJ,NK,Y,Y,gJ,gw,hl (gy (by omega)),λNL tD=>?_⟩;have D1:=ff.two p2 eY gJ gw tD;have s4:aw bc (av bc NL (.lst (NJ++NK))):=aw.new tD;generalize av bc NL (.lst (NJ++NK))=cT at D1 s4 ⊢;have XJ:=((d2.same s2).same bE).same s4;refine⟨_,Y,ck,b.length,r,Y,⟨p,XJ⟩,aj,λaeb c_ fV XK=>?_⟩;have D1:=D1.same fV;obtain⟨NM,nu,aec⟩:=D1.list;obtain⟨NN,mx,_⟩:=XK.list;rw[df]at aec;refine⟨NL,aeb,NM,NN,Y,Y,nu,mx,hl (gy (by omega)),λvn D0=>?_⟩;have NP:=ff.two D1 XK nu mx D0;have eR:aw c_ (av c_ vn (.lst (NM++NN))):=aw.new D0;generalize av c_ vn (.lst (NM++NN))=fK at NP eR ⊢;rw[a5K aj]at NP;have Hp:=(XJ.same fV).same eR;have XM:aw H fK:=((((aE.trans s2).trans bE).trans s4).trans fV).trans eR;obtain⟨ts,gK,nh,t3⟩:=id NP;rw[cW]at nh;refine⟨_,Y,vn,_,Y,.inl (bp.of gK),_,_,Y,Y,_,Y,gj (λh=>?_) λh=>?_⟩
  .have h:=e3 h;rw[cW]at h;have j2:0<ts.length:=by omega
   refine⟨_,Y,vn,ts,(ri b.length r).map λf=>(((f.2:Nat):Int),((f.1:Nat):Int)),Y,bp.of gK,(by rw[cW];exact nh),λi t p ba ar=>?_,j2,λi t p ba ar aed=>?_⟩
   .rw[fP]at ar;cases e:(ri b.length r)[i]? with|none=>rw[e]at ar;cases ar|some f=>rw[e]at ar;cases ar;exact dq.of (t3 i t (f.2,f.1) ba (by rw[fP,e];rfl))
   rw[fP]at ar;cases e:(ri b.length r)[i]? with
   |none=>rw[e]at ar;cases ar
   |some f=>
    rw[e]at ar;cases ar;have Fo:=t3 i t (f.2,f.1) ba (by rw[fP,e];rfl);have bX:mi b=.error (f.1,f.2):=a5e aI (mQ e) λy bl=>by
     have z:=aed (((y.2:Nat):Int),((y.1:Nat):Int)) (fA.mpr ⟨y,bl,Y⟩);have mq:¬(((y.2:Nat):Int)<((f.2:Nat):Int)∨(((y.2:Nat):Int)=((f.2:Nat):Int)/\((y.1:Nat):Int)<((f.1:Nat):Int))):=λq=>by rw[(wX _ _).mpr q]at z;cases z
     unfold kn;omega
    refine⟨_,Y,t,_,_,_,Y,Y,dq.of Fo,gr (j:=1) Y,_,Y,t,_,_,_,Y,Y,dq.of Fo,gr (j:=0) Y,nL,ae3 zU λa3 fm NQ hd=>bL f.1 f.2 bX a3 fm (XM.trans NQ) hd⟩
  have aR:ri b.length r=[]:=by have:¬ts.length>0:=λz=>h (eE (by rw[cW];omega));exact List.length_eq_zero_iff.mp (by omega)
  obtain⟨g,_,_,dQ,⟨dv,bk⟩,_⟩:=Hp;refine⟨_,Y,ck,_,_,_,_,Y,dQ,T.jt.1,T.zw,Y,cJ r p.1 p.2 fK (a5f aI aR) NI t8 XM ⟨⟨dv,?_⟩,(((((aw.refl _).trans s2).trans bE).trans s4).trans (fV.trans eR)) _ _ aea⟩⟩;rw[<-ae5 (Tf.right_of aj aR)];exact bk
 have oq:m=1:=by omega
 subst oq;have ll:dT=a3:=by rw[aT]at aU;exact(gX aU).symm
 subst ll;refine⟨_,Y,e,_,_,_,dT,_,_,_,Y,xm,by simp,aF,hd,zI aF hd,Y,nL,ae4 zU aF λm3 fm NQ aee=>bL 1 k (a5g aA) m3 fm (aE.trans NQ) aee⟩
theorem gO(u v:aS):cg u++cg v=cg (u++v):=by unfold cg dA;show(⟨_++_⟩:a8)=_;rw[fH];simp
theorem aef{x:Nat}(h:x<13):hb ("abcdefghijklm" :a8).cps.toList ((x:Nat):Int)=B (97+x):=
 (by decide+kernel:∀x:Fin 13,hb ("abcdefghijklm" :a8).cps.toList ((x.val:Nat):Int)=B (97+x.val)) ⟨x,h⟩
theorem XN{y:Nat}(h:y<60):((toString ((y:Nat):Int):String):a8)=cg (u9 y):=
 (by decide+kernel:∀y:Fin 60,((toString ((y.val:Nat):Int):String):a8)=cg (u9 y.val)) ⟨y,h⟩
theorem XO{y:Nat}(h:y<60):(u9 y).length<=2:=
 (by decide+kernel:∀y:Fin 60,(u9 y.val).length<=2) ⟨y,h⟩
theorem aeg{x:Nat}(h:x<13):(⟨#[97+x]⟩:a8)=cg [mY (97+x)]:=
 (by decide+kernel:∀x:Fin 13,(⟨#[97+x.val]⟩:a8)=cg [mY (97+x.val)]) ⟨x,h⟩
theorem vo(h:c<169):(eD c).length<=3:=by have:=XO (y:=c/13+1) (by omega);unfold eD mh;rw[fQ];omega
theorem NR{m:Nat×Nat}(O:m.1<169)(a5:m.2<169):(j0 m).length<=7:=by have:=vo O;have:=vo a5;unfold j0;rw[df,fQ];omega
theorem D2:("-" :a8)=cg [45]:=by decide+kernel
def aeh:bF:=λvs H Q _=>∃c:Nat,vs=[.int (c:Int)]/\c<169/\Q (.str (cg (eD c))) H
def aei:bF:=λvs H Q _=>∃x y:Nat,vs=[.int (x:Int),.int (y:Int)]/\x<169/\y<169/\Q (.str (cg (j0 (x,y)))) H
theorem Ht(T:Txt K a6 a):dK P w K a6 base cj 1 "cell_name" ["cell"] aeh:=by
 refine T.a9U.ok a8v (λf _ A _ s H _ Q E _ h=>?_);obtain⟨c,rfl,_,k⟩:=h;refine⟨_,aX (bG (da oT (dV n8 (eU T.a9r Y) (da EA (J 0) (cK T.pZ Y)) (λ_ _=>rfl)) (EJ Jz Y T.MU a05 (ao (da nT (da Ez (J 0) (cK T.pZ Y)) cb) az)))),?_⟩;have ag:c%13<13:=P6 _ (by decide);have aO:(c:Int)%13=((c%13:Nat):Int):=by omega
 have aT:(c:Int)/13+1=((c/13+1:Nat):Int):=by omega
 have bl:c/13+1<60:=by omega
 refine⟨_,Y,_,_,Y,Y,(by show(0:Int)<13;decide),_,_,97+c%13,Y,Y,(by decide+kernel),?_,_,Y,_,_,Y,Y,⟨(by show(0:Int)<13;decide),(by show(13:Int)<1073741824;decide)⟩,_,_,Y,Y,_,Y,?_,?_⟩
 .show hb _ ((c:Int)%13)=_;rw[aO];exact aef ag
 .show((c:Int)/13+1).natAbs.log2<1920;rw[aT];exact lC (P4 _) (by show c/13+1<1920;omega)
 show∃i j,V.str _=.str i/\V.str (toString ((c:Int)/13+1))=.str j/\_/\_;rw[aT,XN bl,aeg ag];refine⟨_,_,Y,Y,?_,?_⟩
 .rw[fq,fq];have:=XO bl;exact hl (gy (by rw[gu];omega))
 rw[gO];exact k
theorem XP(T:Txt K a6 a):dK P w K a6 base cj 2 "line_head" ["x","y"] aei:=by
 refine T.a9V.ok a8w (λf _ A _ s H _ Q E ah h=>?_);obtain⟨x,y,rfl,ag,bl,k⟩:=h;refine⟨_,aX (bG (da oT (da oT (ct (Ht T) ah Y bw (ao (J 0) az)) ee) (ct (Ht T) ah Y bw (ao (J 1) az)))),?_⟩;have O:=vo ag;have a5:=vo bl;refine⟨_,Y,x,Y,ag,_,_,Y,Y,?_,_,Y,y,Y,bl,_,_,Y,Y,?_,?_⟩
 .rw[D2,fq,fq];exact hl (gy (by rw[gu];omega))
 .rw[D2,gO,fq,fq];exact hl (gy (by rw[df,gu];omega))
 rw[D2,gO,gO,lA];exact k
theorem aej(l:List aS):DQ "," (l.map cg)=cg (jX l):=by
 refine TL.KL ?_;rw[TL.join_eq,TL.F3];have tE:∀b:aS,TL.dU (cg b)=b.map ya:=λb=>by unfold cg;show(dA _).cps.toList=_;rw[zR]
 have e:∀l:List aS,TL.yF (TL.dU ",") ((l.map cg).map TL.dU)=(jX l).map ya:=by
  intro l;induction l with
  |nil=>rfl
  |cons x l ih=>cases l with|nil=>exact tE x|cons y l=>show TL.dU (cg x)++(TL.dU "," ++_)=_;rw[tE,show TL.dU "," =[44]from by decide+kernel];show _=(x++(44::jX (y::l))).map ya;rw[fH,i9,<-ih];rfl
 rw[e,tE]
theorem aek:("x" :a8)=cg [120]:=by decide+kernel
theorem XQ:("#" :a8)=cg [35]:=by decide+kernel
theorem XR(h:n<=3):((toString ((n:Nat):Int):String):a8)=cg [mY (48+n)]:=
 (by decide+kernel:∀n:Fin 4,((toString ((n.val:Nat):Int):String):a8)=cg [mY (48+n.val)]) ⟨n,by omega⟩
def Hu(l:List Nat):List V:=(l.map eD).map λb=>V.str (cg b)
def ael:bF:=λvs H Q _=>∃lp,∃x y o:Nat,∃ts:List Nat,vs=[.ref lp]/\H lp=B (.lst (dB (x::y::o::ts)))/\x<169/\y<169/\o<=5/\(∀c∈ts,c<169)/\ts.length<=4/\∀H',aw H H'->Q (.str (cg (By x y o ts))) H'
def aem(a:b5):bF:=λvs H Q _=>∃p r q cY x y,vs=[.ref p,.ref cY,.int ((x:Nat):Int),.int ((y:Nat):Int)]/\fN a H p r/\ju a H cY q/\h3 r/\ea r q/\p6 r q (x,y)/\∀H',aw H H'->Q (.str (cg (r.moveLine q (x,y)))) H'
theorem aen(x y o:Nat)(ts:List Nat):lM (dB (x::y::o::ts)) (B 3) aa=dB ts:=by unfold lM;rw[show(3:Int)=((3:Nat):Int)from Y,HT.uo,HT.a2s,jv];show((dB (x::y::o::ts)).drop (min 3 (ts.length+1+1+1))).take ((ts.length+1+1+1)-min 3 (ts.length+1+1+1))=_;rw[xJ (by omega)];show(dB ts).take _=_;rw[lB];rw[jv];omega
theorem aeo(l:List Nat)(h:∀c∈l,c<169):(((l.map eD).map cg).map (·.length)).sum<=l.length*3:=by induction l with|nil=>simp|cons c l ih=>have O:=vo (h c (by simp));have a5:=ih λx ag=>h x (ez _ ag);simp only[i9,Ie,fQ,fq];rw[Ig];omega
theorem XS(T:Txt K a6 a):dK P w K a6 base cj 3 "move_line" ["told"] ael:=by
 refine T.a9W.ok uY (λf _ A _ s H _ Q E ah h=>?_);obtain⟨lp,x,y,o,ts,rfl,kN,ag,bl,_,kC,_,k⟩:=h;refine⟨_,aC (cx (i:=1) uY.bh (ct (XP T) ah Y bw (ao (dV hD (J 0) cb (λ_ _=>rfl)) (ao (dV hD (J 0) cb (λ_ _=>rfl)) az)))) (aC (cx (i:=2) uY.bh (sL uq (J 0) (n7 (cK T.a9b Y)) JT)) (aC (cx (i:=3) uY.bh (dV hD (J 0) cb (λ_ _=>rfl))) (aC (d3 (c' rx (fc i' Y T.hU ia (ao (J 2) az)) cb (cq _)) (aX (v' (i:=1) uY.bh Y (sg Y) (da oT ee (Bk ee (sU Y uY.bh (nQ (J 2)) (o3 (own:=[("cell",4)]) Y) (λ_ _ _ _ _=>g_ (i:=4) uY.bh) (λ_ _ _ _ _=>qu) (λ_ _ _ _ _=>ct (Ht T) ah.mono Y bw (ao (J 4) az))))) Jy)) d8) (aC (d3 (Jx oS rv (cK T.rR Y) (J 3) (cK T.MD Y)) (aX (v' (i:=1) uY.bh Y (sg Y) (da oT ee (EJ Jz Y T.MU a05 (ao (J 3) az))) Jy)) d8) (aX (bG (J 1))))))),?_⟩;have aq:=NR (m:=(x,y)) ag bl;refine⟨_,Y,lp,_,_,_,Y,Y,bp.of kN,gr (j:=0) Y,_,Y,lp,_,_,_,Y,Y,bp.of kN,gr (j:=1) Y,x,y,Y,ag,bl,_,Y,_,Y,lp,_,Y,bp.of kN,λl Hv=>?_⟩;rw[aen];have s1:aw H (av H l (.lst (dB ts))):=aw.new Hv;have gn:(av H l (.lst (dB ts))) l=B (.lst (dB ts)):=b0;generalize av H l (.lst (dB ts))=ai at s1 gn ⊢;refine⟨_,Y,lp,_,_,_,Y,Y,bp.of (s1 _ _ kN),gr (j:=2) Y,_,Y,l,_,Y,.inl (bp.of gn),_,_,Y,Y,_,Y,?_⟩;have Hw:=FK x y o ts;by_cases ba:ts=[]
 .rw[aZ ba,DE]at Hw;refine e7 (by rw[jv,ba];decide) ?_;have bz:(j0 (x,y)).length<=1000:=by omega
  have eq:=Hw;have m8:=s1;refine⟨_,Y,_,_,Y,Y,_,Y,?_⟩;by_cases D3:0<o
  .refine eJ (eE (by omega)) ⟨_,_,Y,Y,_,Y,?_⟩;by_cases xn:o<=3
   .refine eJ (eE (by omega)) ⟨_,Y,_,Y,_,Y,?_,?_⟩
    .show((o:Nat):Int).natAbs.log2<1920;exact lC (P4 _) (by show o<1920;omega)
    rw[XR xn,XQ];refine⟨_,_,Y,Y,?_,?_⟩
    .rw[fq,fq];exact hl (gy (by simp))
    rw[gO];refine⟨_,_,Y,Y,?_,?_⟩
    .rw[fq,fq];exact dC (ai8 bz (cO 2)) (by decide)
    rw[gO];refine⟨_,Y,?_⟩;have c7:=k _ m8;rw[eq,show qG o=[35,mY (48+o)]from aZ ⟨D3,xn⟩]at c7;exact c7
   refine e7 (λz=>xn (by have:=e3 z;omega)) ⟨_,Y,?_⟩;have c7:=k _ m8;rw[eq,show qG o=[]from aL (by omega),hN]at c7;exact c7
  refine e7 (λz=>D3 (by have:=e3 z;omega)) ⟨_,Y,gz ⟨_,Y,?_⟩⟩;have c7:=k _ m8;rw[eq,show qG o=[]from aL (by omega),hN]at c7;exact c7
 rw[aL ba,<-lA]at Hw;have j2:0<ts.length:=ZK.mpr ba;refine eJ (eE (by rw[jv];omega)) ?_;refine⟨_,Y,⟨_,Y⟩,_,Y,l,Y,⟨_,bp.of gn⟩,λaf d2=>?_⟩;have kP:aw ai (av ai af (.lst [])):=aw.new d2;refine ux (K:=K) (a:=l) (xs:=dB ts) (λj bc=>aw ai bc/\bc af=B (.lst (Hu (ts.take j)))) ⟨kP,b0⟩ (λj bc _ z=>bp.of (z.1 _ _ gn)) (λj v bc bX aR=>?_) λbc aR=>?_
 .obtain⟨fp,tD⟩:=aR;obtain⟨c,D4,rfl⟩:=Ct bX;refine⟨Y,_,Y,c,Y,kC c (mQ D4),_,tD,?_,λb o z=>?_,?_⟩
  .unfold Hu;rw[cW,cW,k9];exact gy (by omega)
  .rw[aN (cU z d2)];exact fp _ _ z
  rw[b0,take_snoc D4];unfold Hu;rw[fH,fH];rfl
 obtain⟨fp,tD⟩:=aR;rw[jv,j8]at tD;have XT:(jX (ts.map eD)).length<=16:=by
  have z:=Lx (n:=3) (ts.map eD) λb a0=>by obtain⟨c,a7,rfl⟩:=fA.mp a0;exact vo (kC c a7)
  rw[cW]at z;omega
 refine⟨",",af,(ts.map eD).map cg,Y,Y,.inl (bp.of (tD.trans ?_)),?_,?_⟩
 .unfold Hu;rw[ix,ix,ix];rfl
 .have z:=aeo _ kC;rw[cW,cW,show("," :a8).length=1 from by decide+kernel];omega
 rw[aej,aek];refine⟨_,_,Y,Y,?_,?_⟩
 .rw[fq,fq,gu];exact hl (gy (by omega))
 rw[gO];refine⟨_,_,Y,Y,?_,?_⟩
 .rw[fq,fq,df,gu];exact hl (gy (by omega))
 rw[gO];have bz:(j0 (x,y)++([120]++jX (ts.map eD))).length<=1000:=by rw[df,df,gu];omega
 have eq:=Hw;have m8:=s1.trans fp;refine⟨_,Y,_,_,Y,Y,_,Y,?_⟩;by_cases D3:0<o
 .refine eJ (eE (by omega)) ⟨_,_,Y,Y,_,Y,?_⟩;by_cases xn:o<=3
  .refine eJ (eE (by omega)) ⟨_,Y,_,Y,_,Y,?_,?_⟩
   .show((o:Nat):Int).natAbs.log2<1920;exact lC (P4 _) (by show o<1920;omega)
   rw[XR xn,XQ];refine⟨_,_,Y,Y,?_,?_⟩
   .rw[fq,fq];exact hl (gy (by simp))
   rw[gO];refine⟨_,_,Y,Y,?_,?_⟩
   .rw[fq,fq];exact dC (ai8 bz (cO 2)) (by decide)
   rw[gO];refine⟨_,Y,?_⟩;have c7:=k _ m8;rw[eq,show qG o=[35,mY (48+o)]from aZ ⟨D3,xn⟩]at c7;exact c7
  refine e7 (λz=>xn (by have:=e3 z;omega)) ⟨_,Y,?_⟩;have c7:=k _ m8;rw[eq,show qG o=[]from aL (by omega),hN]at c7;exact c7
 refine e7 (λz=>D3 (by have:=e3 z;omega)) ⟨_,Y,gz ⟨_,Y,?_⟩⟩;have c7:=k _ m8;rw[eq,show qG o=[]from aL (by omega),hN]at c7;exact c7
theorem aep(T:Txt K a6 a):dK P w K a6 base cj 7 "whole_line" ["rules","position","x","y"] (aem a):=by
 refine T.a9X.ok VY (λf _ A _ s H _ Q E ah h=>?_);obtain⟨p,r,q,cY,x,y,rfl,d1,bK,aj,hw,dg,k⟩:=h;refine⟨_,aC (cx (i:=4) VY.bh (ct (WO T) ah Y bw (ao (J 0) (ao (J 1) (ao (J 2) (ao (J 3) az)))))) (aX (bG (ct (XS T) ah.mono Y bw (ao (da nZ (fv (ao (J 2) (ao (J 3) (ao (ct (WJ T) ah Y bw (ao (J 0) (ao (bg (J 4) Y) az))) az)))) (bg (J 4) Y)) az)))),?_⟩;have aeq:=(Fn hw aj.b_ dg).1;have ol:=FH r (r.comes q (x,y));have dU:=BA hw aj.b_ dg;refine⟨_,Y,_,Y,_,Y,_,Y,p,r,q,cY,x,y,Y,d1,bK,aj,hw,dg,λo _ eY l _ _ _ s1 aU nv gn=>?_⟩;refine⟨_,Y,_,Y,_,Y,_,Y,o,_,_,_,_,Y,aU,T.x3.1,T.MP,Y,p,r,_,eY,Y,d1.same s1,nv,aj,aeq,λau s2=>⟨IZ,λng CG=>?_⟩⟩;have bE:=aw.upd (o:=.lst [.int (x:Int),.int (y:Int),.int ((r.over (r.comes q (x,y)):Nat):Int)]) (aw.refl au) CG;refine⟨_,Y,o,_,_,_,_,Y,bE _ _ (s2 _ _ aU),T.x3.1,T.MQ,Y,ng,l,_,_,Y,Y,b0,bE _ _ (s2 _ _ gn),?_,λgK Hx=>?_⟩
 .rw[jv];exact hl (gy (by show 3+_<=1000;omega))
 refine⟨gK,x,y,r.over (r.comes q (x,y)),r.takes q (x,y),Y,b0,aj.b_.lt dg.eG,aj.b_.lt dg.gg,(by omega),FI hw aj.b_ dg,dU,λc_ fV=>?_⟩;have c7:=k c_ (((s1.trans s2).trans (aw.upd bE Hx)).trans fV);rw[SO]at c7;exact c7
theorem NS{m:Nat×Nat}(s:dh r)(hw:ea r q)(dg:p6 r q m):(r.moveLine q m).length<=30:=by
 rw[Lw];have O:=NR (m:=m) (s.lt dg.eG) (s.lt dg.gg);have dU:=BA hw s dg;have z:=Lx (n:=3) ((r.takes q m).map eD) λb a0=>by obtain⟨c,a7,rfl⟩:=fA.mp a0;exact vo (FI hw s dg c a7)
 rw[cW]at z;rw[df,df];have a5:(if r.takes q m=[]then[]else 120::jX ((r.takes q m).map eD)).length<=17:=by
  split
  .simp
  rw[fQ];omega
 have aG:(if r.over (r.comes q m)=0 then[]else[35,mY (48+r.over (r.comes q m))]).length<=2:=by
  split
  .simp
  simp
 omega
def aer(a:b5):bF:=λvs H Q _=>∃p r q cY x y aD b,vs=[.ref p,.ref cY,.int ((x:Nat):Int),.int ((y:Nat):Int),.ref aD]/\fN a H p r/\ju a H cY q/\h3 r/\ea r q/\p6 r q (x,y)/\H aD=B (.lst (cy b))/\∀l H',H l=aa->aw H H'->H' l=B (.lst (cy (jG r q b (x,y))))->Q (.ref l) H'
def NT(a:b5):bF:=λvs H Q E=>∃p r q cY aD b,vs=[.ref p,.ref cY,.ref aD]/\fN a H p r/\ju a H cY q/\h3 r/\ea r q/\r.ended q=0/\H aD=B (.lst (cy b))/\(∀m t H',r.readMove q b=.ok m->aw H H'->H' t=B (.tup [.int ((m.1:Nat):Int),.int ((m.2:Nat):Int)])->Q (.ref t) H')/\(∀k:Nat,r.readMove q b=.error k->∀a3 H',aw H H'->H' a3=B (gm a3 [("place",.int (k:Int))])->E (.ref a.u_) (B a3) H')
def XU:bF:=λvs H Q _=>∃aD b,∃c:Nat,vs=[.ref aD,.int (c:Int)]/\H aD=B (.lst (cy b))/\c<169/\∀H',aw H H'->Q (.c1 (jY b c)) H'
def tF(r:eW)(q:gp)(b:aS):List (Nat×Nat):=if((r.moves q).filter λm=>jY b m.1)=[]then r.moves q else(r.moves q).filter λm=>jY b m.1
theorem aes{m:Nat×Nat}(h:m∈tF r q b):m∈r.moves q:=by
 unfold tF at h;split at h
 .exact h
 exact(j7.mp h).1
theorem aet(a7:∀m∈r.moves q,m.1<169):uG r q b (tF r q b)=r.readMove q b:=by
 unfold tF;by_cases h:((r.moves q).filter λm=>jY b m.1)=[]
 .rw[aZ h];rfl
 rw[aL h,a66 a7 h];rfl
def aeu(a:b5):bF:=λvs H Q _=>∃p r q cY aD b,vs=[.ref p,.ref cY,.ref aD]/\fN a H p r/\ju a H cY q/\dh r/\ea r q/\r.ended q=0/\H aD=B (.lst (cy b))/\∀l H',aw H H'->ff H' l (tF r q b)->Q (.ref l) H'
theorem aev(T:Txt K a6 a):dK P w K a6 base cj 8 "line_to_compare" ["rules","position","x","y","source"] (aer a):=by
 refine T.a9Y.ok VZ (λf _ A _ s H _ Q E ah h=>?_);obtain⟨p,r,q,cY,x,y,aD,b,rfl,d1,bK,aj,hw,dg,ax,k⟩:=h;refine⟨_,aC (cx (i:=5) VZ.bh (ct (rT T) ah.mono Y bw (ao (ct (XP T) ah.mono Y bw (ao (J 2) (ao (J 3) az))) az))) (aC (d3 (c' oS (ct (Cv T) ah.mono Y bw (ao (J 4) (ao cb (ao (J 5) az)))) (fc i' Y T.hU ia (ao (J 5) az)) (cq _)) (aX (bG (J 5))) d8) (aX (bG (ct (rT T) ah.mono Y bw (ao (ct (aep T) ah Y bw (ao (J 0) (ao (J 1) (ao (J 2) (ao (J 3) az))))) az))))),?_⟩;have ag:x<169:=aj.b_.lt dg.eG;have bl:y<169:=aj.b_.lt dg.gg;have aq:=NR (m:=(x,y)) ag bl;refine⟨_,Y,_,Y,x,y,Y,ag,bl,_,Y,(by omega),λl _ Hy s1 gn=>?_⟩;refine⟨_,Y,_,Y,aD,b,0,l,_,Y,s1 _ _ ax,gn,λau s2=>⟨_,Y,l,_,Y,.inl (bp.of (s2 _ _ gn)),_,_,Y,Y,_,Y,?_⟩⟩;have px:=s1.trans s2;rw[iu,DA];by_cases h:cc b (j0 (x,y))<(j0 (x,y)).length
 .refine eJ (eE (by omega)) ⟨_,Y,?_⟩;refine k l au Hy px ?_;unfold jG;rw[aZ h];exact s2 _ _ gn
 refine e7 (λz=>h (by have:=e3 z;omega)) ⟨_,Y,_,Y,_,Y,_,Y,p,r,q,cY,x,y,Y,d1.same px,bK.same px,aj,hw,dg,λ_ bE=>?_⟩;have bD:=NS aj.b_ hw dg;refine⟨_,Y,(by omega),λNO cT aew s4 rZ=>k NO cT ((px.trans bE).free aew) ((px.trans bE).trans s4) ?_⟩;unfold jG;rw[aL h];exact rZ
theorem aex(T:Txt K a6 a):dK P w K a6 base cj 2 "begins_with_cell" ["source","cell"] XU:=by
 refine T.a9Z.ok V_ (λf _ A _ s H _ Q E ah h=>?_);obtain⟨aD,b,c,rfl,ax,a7,k⟩:=h;refine⟨_,aC (cx (i:=2) V_.bh (ct (rT T) ah Y bw (ao (da oT (ct (Ht T) ah Y bw (ao (J 1) az)) ee) az))) (aX (bG (gG dz (ct (Cv T) ah Y bw (ao (J 0) (ao cb (ao (J 2) az)))) (fc i' Y T.hU ia (ao (J 2) az)) (cq _)))),?_⟩;have O:=vo a7;refine⟨_,Y,c,Y,a7,_,_,Y,Y,?_,?_⟩
 .rw[D2,fq,fq];exact hl (gy (by rw[gu];omega))
 rw[D2,gO];refine⟨_,Y,(by rw[df,gu];omega),λl _ _ s1 gn=>?_⟩;refine⟨_,Y,_,Y,aD,b,0,l,_,Y,s1 _ _ ax,gn,λau s2=>⟨_,Y,l,_,Y,.inl (bp.of (s2 _ _ gn)),Y,?_⟩⟩;rw[iu,DA];have c7:=k au (s1.trans s2);have e:decide (V.int ((cc b (eD c++[45]):Nat):Int)=V.int (((eD c++[45]).length:Nat):Int))=jY b c:=by rw[hM,mj];unfold jY;rw[pa];exact⟨λz=>by have z:=V.int.inj z;omega,λz=>by rw[z]⟩
 rw[<-e]at c7;exact c7
theorem aey(T:Txt K a6 a):dK P w K a6 base cj 7 "moves_to_compare" ["rules","position","source"] (aeu a):=by
 refine T.aa0.ok Gr (λf b4 A _ s H _ Q E ah h=>?_);obtain⟨p,r,q,cY,aD,b,rfl,d1,bK,b_,hw,f3,ax,k⟩:=h;have eZ:dn 5 (A.deeper (fB "moves_to_compare" (bo Gn) s.heap.objs.size f b4)):=ah.mono;have a5:dn 2 (A.deeper (fB "moves_to_compare" (bo Gn) s.heap.objs.size f b4)):=ah.mono;refine⟨_,aC (EZ (i:=3) (tt:=Em (mw XU [] pQ (eL (dr 2) (eL (dr 4) gc)))) Y Gr.bh Y Y (E_ Y Y Y Y) (nQ (ct (N1 T) a5 Y bw (ao (J 1) az))) (o3 (own:=[("cell",4)]) Y) (λ_ _ _ _ _=>g_ (i:=4) Gr.bh) (λ_ _ _ _ _=>Kc (je (ct (aex T) a5 Y bw (ao (J 2) (ao (J 4) az))))) (λ_ _ _ _ _=>J 4)) (aC (cx (i:=5) Gr.bh (ct (Wz T) eZ Y bw (ao (J 0) (ao (J 1) (ao (J 3) az))))) (aC (d3 (c' rx (fc i' Y T.hU ia (ao (J 5) az)) cb (cq _)) (aX (bG (J 5))) d8) (aX (bG (ct (abD T) ah Y bw (ao (J 0) (ao (J 1) az))))))),?_⟩;have oq:=L6 hw b_ f3;have kp:(((oj q).filter (jY b)).flatMap λc=>(hT r q c).map λt=>(c,t))=(r.moves q).filter λm=>jY b m.1:=by rw[SX,oq];unfold oj;rw[GW]
 refine⟨_,Y,q,cY,Y,bK,λol _ ai s1 XW=>⟨ol,Y,⟨_,bp.of XW⟩,λaf d2=>?_⟩⟩;have kP:aw ai (av ai af (.lst [])):=aw.new d2;refine ux (K:=K) (a:=ol) (xs:=dB (oj q)) (λj bc=>aw ai bc/\bc af=B (.lst (dB (((oj q).take j).filter (jY b))))) ⟨kP,b0⟩ (λj bc _ z=>bp.of (z.1 _ _ XW)) (λj v bc bX aR=>?_) λbc aR=>?_
 .obtain⟨aE,gN⟩:=aR;obtain⟨c,D4,rfl⟩:=Ct bX;have fp:=s1.trans aE;refine⟨Y,_,Y,_,Y,aD,b,c,Y,fp _ _ ax,GV (mQ D4),λcT s4=>⟨_,Y,?_⟩⟩;have st:((oj q).take (j+1)).filter (jY b)=((oj q).take j).filter (jY b)++(if jY b c=a9 then[c]else[]):=by rw[take_snoc D4,A2,qd,I8]
  cases aU:jY b c with
  |false=>refine gz ⟨aE.trans s4,?_⟩;rw[st,aU,s4 _ _ gN];simp
  |true=>
   refine hE ⟨_,Y,_,s4 _ _ gN,?_,λb o z=>?_,?_⟩
   .rw[jv];have akx:=N0 q;exact lC (dC (vC ..) (by rw[k9];omega:_<=169)) (by decide)
   .rw[aN (cU z d2)];exact s4 _ _ (aE _ _ z)
   rw[b0,st,aU,GR];rfl
 obtain⟨aE,gN⟩:=aR;rw[jv,j8]at gN;have fp:=s1.trans aE;refine⟨_,Y,_,Y,_,Y,p,r,q,cY,af,(oj q).filter (jY b),Y,d1.same fp,bK.same fp,b_,hw,gN,λc a7=>GV (j7.mp a7).1,dC (vC ..) (N0 q),λl _ cT s4 l8=>?_⟩;rw[kp]at l8;obtain⟨xs,gJ,gw⟩:=l8.list;refine⟨_,Y,l,_,Y,.inl (bp.of gJ),_,_,Y,Y,_,Y,?_⟩;rw[gw];by_cases b9:((r.moves q).filter λm=>jY b m.1)=[]
 .refine e7 (by rw[b9];decide) ⟨_,Y,_,Y,p,r,q,cY,Y,d1.same (fp.trans s4),bK.same (fp.trans s4),b_,hw,λaez _ c_ fV aeA=>k aez c_ ((fp.trans s4).trans fV) ?_⟩;unfold tF;rw[aZ b9,oq];exact aeA
 refine eJ (eE (by have:=ZK.mpr b9;omega)) ⟨_,Y,k l cT (fp.trans s4) ?_⟩;unfold tF;rw[aL b9];exact l8
theorem XX(T:Txt K a6 a):dK P w K a6 base (pd P w) 9 "said_move" ["rules","position","source"] (NT a):=by
 refine T.aa1.kq zl (λf _ A _ s H _ Q E ah h=>?_);obtain⟨p,r,q,cY,aD,b,rfl,d1,bK,aj,hw,f3,ax,cJ,bL⟩:=h;refine⟨_,aC (cx (i:=3) zl.bh cb) (aC (nR Ai Y (nQ (ct (aey T) ah.mono Y bw (ao (J 0) (ao (J 1) (ao (J 2) az))))) (g_ (i:=4) zl.bh) (aC (cx (i:=5) zl.bh (ct (aev T) ah Y bw (ao (J 0) (ao (J 1) (ao (dV lN (J 4) cb (λ_ _=>rfl)) (ao (dV lN (J 4) cb (λ_ _=>rfl)) (ao (J 2) az))))))) (aC (cx (i:=6) zl.bh (ct (Cv T) ah.mono Y bw (ao (J 2) (ao cb (ao (J 5) az))))) (aC (d3 (jc.pt (nO (c' dz (J 6) (fc i' Y T.hU ia (ao (J 5) az)) (cq _)) (pI (c' dz (J 6) (fc i' Y T.hU ia (ao (J 2) az)) (cq _))))) (aX (bG (J 4))) d8) (aX (cx (i:=3) zl.bh (fc (Qp Y) Y T.MV a04 (ao (J 3) (ao (J 6) az))))))))) (aX (wJ (ze (aci T) ah.mono Y T.MR bw (ao (J 3) az)) Y dW))),?_⟩;obtain⟨_,_,e8,_⟩:=T.Gz;have CM:=aet (r:=r) (q:=q) (b:=b) λm hm=>aj.b_.lt (p7 hw aj.b_ hm).eG;refine⟨_,Y,_,Y,_,Y,p,r,q,cY,aD,b,Y,d1,bK,aj.b_,hw,f3,ax,λl ai s1 vc=>?_⟩;have XY:∀m∈tF r q b,m∈r.moves q:=λm hm=>aes hm;generalize tF r q b=L at CM vc XY;obtain⟨ts,gK,nh,t3⟩:=id vc;refine⟨l,Y,⟨_,bp.of gK⟩,yn (xs:=ts.map V.ref) (λi aM H'=>∃g6 fy hV,aM=[B (.ref p),B (.ref cY),B (.ref aD),B (.int ((i5 ((L.take i).map λm=>cc b (r.moveLine q m)):Nat):Int)),g6,fy,hV]/\aw ai H'/\∀(j:Nat) n,j<i->L[j]? =B n->r.moveLine q n≠b) ⟨aa,aa,aa,Y,aw.refl ai,λj n h=>absurd h (aih _)⟩ (λi aM H' _ oX=>?_) (λi v aM H' hi oX=>?_) λaM H' oX=>?_⟩
 .obtain⟨g6,fy,hV,rfl,aE,_⟩:=oX;exact bp.of (aE _ _ gK)
 .obtain⟨g6,fy,hV,rfl,aE,ip⟩:=oX;obtain⟨t,vp,rfl⟩:=zM hi;have c4:i<L.length:=by rw[<-nh];exact(ec.mp vp).1
  have hm:=f7 c4;generalize aky:L[i]=m at hm;have ba:=aE _ _ (t3 i t m vp hm);have dg:=p7 hw aj.b_ (XY m (mQ hm));have qT:=s1.trans aE;refine⟨_,Y,_,Y,_,Y,t,_,_,_,Y,Y,dq.of ba,gr (j:=0) Y,_,Y,t,_,_,_,Y,Y,dq.of ba,gr (j:=1) Y,_,Y,p,r,q,cY,m.1,m.2,aD,b,Y,d1.same qT,bK.same qT,aj,hw,dg,qT _ _ ax,λNU au _ s2 H3=>?_⟩;have zF:=qT.trans s2;refine⟨_,Y,_,Y,aD,b,0,NU,_,Y,zF _ _ ax,H3,λbc bE=>?_⟩;have H2:=zF.trans bE;rw[DA];dsimp only[mr,nP,oP];refine CY (b1:=decide (cc b (jG r q b m)=(jG r q b m).length)) (b2:=decide (cc b (jG r q b m)=b.length)) (λe5 z=>⟨_,Y,_,Y,NU,_,Y,.inl (bp.of (bE _ _ H3)),Y,_,Y,?_⟩) (λ_ e5 z=>⟨_,Y,_,Y,aD,_,Y,.inl (bp.of (H2 _ _ ax)),Y,_,Y,?_⟩) ?_
  .rw[iu,nV];have e:(((cc b (jG r q b m):Nat):Int)==(((jG r q b m).length:Nat):Int))=decide (cc b (jG r q b m)=(jG r q b m).length):=by rw[hM,h_,mj];omega
   rw[e];exact z
  .rw[iu,nV];have e:(((cc b (jG r q b m):Nat):Int)==((b.length:Nat):Int))=decide (cc b (jG r q b m)=b.length):=by rw[hM,h_,mj];omega
   rw[e];exact z
  have XZ:=a5M (r:=r) (p:=q) (b:=b) m;refine gj (λh=>?_) λh=>?_
  .have h':r.moveLine q m=b:=XZ.mp (by simpa using h);exact⟨_,Y,cJ m t bc (CM ▸ a64 hm ip h') H2 (bE _ _ (s2 _ _ ba))⟩
  have h':r.moveLine q m≠b:=λz=>h (by simpa using XZ.mpr z);refine⟨_,Y,_,Y,_,_,Y,B (.ref t),B (.ref NU),B (.int ((cc b (jG r q b m):Nat):Int)),?_,(aE.trans s2).trans bE,λj n bX aH=>?_⟩
  .rw[take_snoc hm,fH,i9,vD,a5N,<-a5L (r:=r) (p:=q) (b:=b) m];have e:(if((cc b (jG r q b m):Nat):Int)>((i5 ((L.take i).map λm=>cc b (r.moveLine q m)):Nat):Int)then((cc b (jG r q b m):Nat):Int)else((i5 ((L.take i).map λm=>cc b (r.moveLine q m)):Nat):Int))=((max (i5 ((L.take i).map λm=>cc b (r.moveLine q m))) (cc b (jG r q b m)):Nat):Int):=by split<;>omega
   rw[e];rfl
  by_cases xj:j<i
  .exact ip j n xj aH
  have:j=i:=by omega
  subst this;rw[hm]at aH;cases aH;exact h'
 obtain⟨g6,fy,hV,rfl,aE,ip⟩:=oX;rw[cW,nh,j8]at*;have lr:=a65 (r:=r) (p:=q) (b:=b) (L:=L) λm hm=>by obtain⟨j,bX⟩:=A6 hm;exact ip j m (ec.mp bX).1 bX
 exact⟨_,Y,g7,zJ e8 λa3 au s2 hd=>bL _ (CM ▸ lr) a3 au ((s1.trans aE).trans s2) hd⟩
theorem X_(s:aS)(l:List aS):DQ (cg s) (l.map cg)=cg (nj s l):=by
 refine TL.KL ?_;rw[TL.join_eq,TL.F3];have tE:∀b:aS,TL.dU (cg b)=b.map ya:=λb=>by unfold cg;show(dA _).cps.toList=_;rw[zR]
 have e:∀l:List aS,TL.yF (TL.dU (cg s)) ((l.map cg).map TL.dU)=(nj s l).map ya:=by
  intro l;induction l with
  |nil=>rfl
  |cons x l ih=>cases l with|nil=>exact tE x|cons y l=>show TL.dU (cg x)++(TL.dU (cg s)++_)=_;rw[tE,tE];show _=(x++(s++nj s (y::l))).map ya;rw[fH,fH,<-ih,tE];rfl
 rw[e,tE]
theorem aeB(p:kZ):e2 p=cg [PO p]:=by cases p<;>decide+kernel
def aeC:bF:=λvs H Q _=>∃n:Nat,vs=[.int (n:Int)]/\n<60/\Q (.str (cg (wD n))) H
def aeD:bF:=λvs H Q _=>∃aK:List kZ,vs=[.str (dA (aK.map Tf.pc))]/\aK.length<=13/\Q (.str (cg (oC 0 aK))) H
def aeE(a:b5):bF:=λvs H Q _=>∃p r q cY,vs=[.ref p,.ref cY]/\fN a H p r/\ju a H cY q/\dh r/\ea r q/\∀H',aw H H'->Q (.str (cg (r.line q))) H'
theorem aeF(l:List Nat)(n m:Nat)(h:n+m<=l.length):Bm (dA l) (B (n:Int)) (B ((n:Int)+(m:Int)))=dA ((l.drop n).take m):=by unfold Bm;rw[show(n:Int)+(m:Int)=((n+m:Nat):Int) by omega,HT.uo,HT.uo,zz,xJ h,xJ (show n<=l.length by omega),ZU,zR];rfl
theorem X'(T:Txt K a6 a):dK P w K a6 base cj 1 "run_line" ["length"] aeC:=by
 refine T.a9R.ok a8u (λf _ A _ s H _ Q E _ h=>?_);obtain⟨n,rfl,aH,k⟩:=h;refine⟨_,aX (bG (Q8 (c' rx (J 0) cb (cq _)) (EJ Jz Y T.MU a05 (ao (J 0) az)) ee)),_,Y,_,_,Y,Y,_,Y,?_⟩;unfold wD at k;by_cases h:n=0
 .rw[aZ h]at k;refine e7 (by rw[h];decide) ?_;rw[show cg []=("" :a8)from by decide+kernel]at k;exact k
 rw[aL h]at k;refine eJ (eE (by omega)) ⟨_,Y,_,Y,?_,?_⟩
 .show((n:Nat):Int).natAbs.log2<1920;exact lC (P4 _) (by show n<1920;omega)
 rw[XN aH];exact k
theorem aeG(T:Txt K a6 a):dK P w K a6 base cj 2 "row_line" ["signs"] aeD:=by
 refine T.a9S.ok wZ (λf _ A _ s H _ Q E ah h=>?_);obtain⟨aK,rfl,_,k⟩:=h;refine⟨_,aC (cx (i:=1) wZ.bh ee) (aC (cx (i:=2) wZ.bh cb) (aC (nR oz Y (Ri (J 0)) (g_ (i:=3) wZ.bh) (aX (d3 (c' dz (J 3) (eU T.zt Y) (cq _)) (aX (v' (i:=2) wZ.bh Y (sg Y) cb EB)) (aC (v' (i:=1) wZ.bh Y (sg Y) (da oT (ct (X' T) ah Y bw (ao (J 2) az)) (J 3)) Jy) (aX (cx (i:=2) wZ.bh cb)))))) (aX (bG (da oT (J 1) (ct (X' T) ah Y bw (ao (J 2) az))))))),_,Y,_,Y,a7C (x:=dA (aK.map Tf.pc)) (λi aM H'=>∃v,∃u:aS,∃n:Nat,aM=[B (.str (dA (aK.map Tf.pc))),B (.str (cg u)),B (.int (n:Int)),v]/\H'=H/\oC 0 aK=u++oC n (aK.drop i)/\u.length<=3*i/\n<=i) ⟨aa,[],0,?_,Y,Y,ek _,ek _⟩ (λi c aM H' hi bK=>?_) λaM H' bK=>?_⟩
 .rw[show cg []=("" :a8)from by decide+kernel];rfl
 .obtain⟨v,u,n,rfl,rfl,aF,bz,aH⟩:=bK;have hi:(aK.map Tf.pc).toArray[i]? =B c:=hi;simp only[ZJ,fP]at hi;cases e:aK[i]? with
  |none=>rw[e]at hi;cases hi
  |some p=>
   rw[e]at hi;cases hi;have c4:=(ec.mp e).1;have hd:aK.drop i=p::aK.drop (i+1):=by rw[I4 c4];have:=(ec.mp e).2;rw[this]
   rw[hd]at aF;refine⟨_,Y,Y,_,Y,?_⟩;show if decide (V.str ⟨#[Tf.pc p]⟩=V.str (e2 .none))=a9 then _ else _
   rw[oh,k1];by_cases ar:p=.none
   .subst ar;rw[S_]at aF;refine eJ Y ⟨_,Y,_,_,Y,Y,B (.str (e2 .none)),u,n+1,?_,Y,aF,by omega,by omega⟩;rw[show(((n+1:Nat)):Int)=(n:Int)+1 by omega];rfl
   rw[S' n _ ar]at aF;have j1:=FN (n:=n) (by omega);refine e7 (by simpa using ar) ⟨_,Y,_,Y,n,Y,(by omega),_,Y,?_⟩;rw[aeB];refine⟨_,_,Y,Y,?_,?_⟩
   .rw[fq,fq];exact hl (gy (by rw[gu];omega))
   rw[gO];refine⟨_,_,Y,Y,?_,?_⟩
   .rw[fq,fq,df];exact hl (gy (by rw[gu];omega))
   rw[gO];refine⟨B (.str (cg [PO p])),u++(wD n++[PO p]),0,Y,Y,?_,?_,ek _⟩
   .rw[aF];simp
   rw[df,df,gu];omega
 obtain⟨v,u,n,rfl,rfl,aF,bz,aH⟩:=bK;have aR:(dA (aK.map Tf.pc)).cps.size=aK.length:=by show(aK.map Tf.pc).toArray.size=_;simp
 rw[aR]at aF bz aH;rw[Dz (cO _),SY]at aF;have j1:=FN (n:=n) (by omega);refine⟨_,Y,_,Y,n,Y,(by omega),_,_,Y,Y,?_,?_⟩
 .rw[fq,fq];exact hl (gy (by omega))
 rw[gO,<-aF];exact k
theorem aeH(T:Txt K a6 a):dK P w K a6 base cj 3 "position_line" ["rules","position"] (aeE a):=by
 refine T.a9T.ok Mm (λf _ A _ s H _ Q E ah h=>?_);obtain⟨p,r,q,cY,rfl,⟨_,d1⟩,⟨_,bK⟩,b_,hw,k⟩:=h;refine⟨_,aC (cx (i:=2) Mm.bh (fv az)) (aC (nR oz Y (a3z Y T.zy (ao (da nU (bg (J 0) Y) cb) (ao (AN AO cb) (ao (AN AO cb) az)))) (g_ (i:=3) Mm.bh) (aX (e6 (pM oy tV vI sO (J 2) (ao (ct (aeG T) ah Y bw (ao (sL a3Q (bg (J 1) Y) (n7 (da w5 (cK T.pZ Y) (J 3))) (n7 (da nT (da w5 (cK T.pZ Y) (J 3)) (bg (J 0) Y)))) az)) az))))) (aX (bG (da oT (da oT (Bk ee (J 2)) ee) (dV n8 (eU T.a9s Y) (bg (J 1) Y) (λ_ _=>rfl)))))),?_⟩;have eZ:=b_.eZ;have pU:=b_.pU;have p5:=b_.p5;refine⟨ek _,λl aq=>?_⟩;have s1:aw H (av H l (.lst [])):=aw.new aq;let f:Nat->aS:=λi=>oC 0 (r.rowOf q (r.high-1-i))
 have aeI:Be ((r.high:Int)-1) (-1) (-1) r.high:=by have z:=Be.neg (i:=(r.high:Int)-1) (j:= -1) (by omega) (by omega) (by decide) (by decide);rw[show((r.high:Int)-1- -1).toNat=r.high by omega]at z;exact z
 refine⟨_,Y,p,_,_,_,_,Y,s1 _ _ d1,T.dk.1,T.x2,Y,_,_,Y,Y,_,Y,_,Y,_,_,_,_,Y,aeI,?_⟩;refine a3C (n:=r.high) (λi aM H'=>∃v,aM=[B (.ref p),B (.ref cY),B (.ref l),v]/\aw H H'/\H' l=B (.lst (((eA i).map f).map λb=>V.str (cg b)))) ⟨aa,Y,s1,b0⟩ (λi aM H' _ oX=>?_) λaM H' oX=>?_
 .obtain⟨v,rfl,aE,iW⟩:=oX;have oZ:(r.high:Int)-1+(i:Int)* -1=((r.high-1-i:Nat):Int):=by omega
  rw[oZ];have aeJ:(13:Int)*((r.high-1-i:Nat):Int)=((13*(r.high-1-i):Nat):Int):=by omega
  refine⟨_,Y,.inl ⟨Y,_,bp.of iW⟩,_,Y,cY,_,_,_,_,Y,aE _ _ bK,T.jJ.1,T.qN,Y,_,Y,_,_,Y,Y,.inl ⟨by decide,by decide⟩,_,Y,_,Y,_,_,Y,Y,.inl ⟨by decide,by decide⟩,_,Y,p,_,_,_,_,Y,aE _ _ d1,T.dk.1,T.zu,Y,_,_,Y,Y,_,Y,_,Y,zA _ (km q),?_⟩;rw[aeJ,aeF _ _ _ (by rw[km];omega),a6a r b_ q (by omega)];refine⟨r.rowOf q (r.high-1-i),Y,(by unfold IT;simp;omega),l,_,_,Y,Y,iW,?_,_,Y,λb o z=>?_,?_⟩
  .rw[cW,cW,Ia];exact gy (by omega)
  .rw[aN (cU z aq)];exact aE _ _ z
  rw[b0,xG,fH,fH];rfl
 obtain⟨v,rfl,aE,iW⟩:=oX;have Y0:∀i,(f i).length<=41:=λi=>by
  have:=FO (r.rowOf q (r.high-1-i)) 0 (by unfold IT;simp;omega);have e:(r.rowOf q (r.high-1-i)).length=r.wide:=by unfold IT;simp
  show(oC 0 (r.rowOf q (r.high-1-i))).length<=41;omega
 have aeK:∀n,((((eA n).map f).map cg).map (·.length)).sum<=n*41:=λn=>by induction n with|zero=>simp|succ n ih=>rw[xG,fH,fH,fH,List.sum_append];have:=Y0 n;simp only[i9,vD,Ie,List.sum_nil,fq];omega
 have XT:∀n,(nj [47] ((eA n).map f)).length<=n*42:=λn=>by
  rw[T2];induction n with
  |zero=>simp
  |succ n ih=>
   rw[xG,A3,df];have:=Y0 n;have O:(if n=0 then([]:aS)else[47]).length<=1:=by split<;>simp
   simp only[mO,OZ,hN,df];omega
 have akz:=XT r.high;refine⟨⟨_,Y⟩,_,Y,"/",l,((eA r.high).map f).map cg,Y,Y,.inl (bp.of (iW.trans ?_)),?_,?_⟩
 .rw[ix,ix,ix];rfl
 .have:=aeK r.high;rw[cW,cW,Ia,show("/" :a8).length=1 from by decide+kernel];omega
 rw[show("/" :a8)=cg [47]from by decide+kernel,X_,show(" " :a8)=cg [32]from by decide+kernel];refine⟨_,_,Y,Y,?_,?_⟩
 .rw[fq,fq,gu];exact hl (gy (by omega))
 rw[gO];have p8:=hw.gM;have j_:hb ("hk" :a8).cps.toList ((q.side:Nat):Int)=B (if q.side=0 then 104 else 107):=by
  have:q.side=0∨q.side=1:=by omega
  rcases this with e|e<;>rw[e]<;>decide+kernel
 refine⟨_,Y,cY,_,_,_,_,Y,aE _ _ bK,T.jJ.1,T.tl,Y,_,_,_,Y,Y,(by decide+kernel),j_,?_⟩;have b7:(⟨#[if q.side=0 then 104 else 107]⟩:a8)=cg [if q.side=0 then 104 else 107]:=by split<;>decide+kernel
 rw[b7];refine⟨_,_,Y,Y,?_,?_⟩
 .rw[fq,fq,df,gu,gu];exact hl (gy (by omega))
 rw[gO];have c7:=k H' aE;rw[a68]at c7;rw[lA];exact c7
def m9:Option vS->V
 |none=>.bS
 |some .hunters=>.int 0
 |some .king=>.int 1
 |some .drawn=>.int 2
structure Fr (S:List I) (H H':ak):Prop where
 cF:h5 S H H'
 hK:∀c,H' c=aa->H c=aa
section
variable{T:List I}
theorem Fr.of(s:aw H ai):Fr S H ai:=⟨λc u _ q=>s c u q,λ_ z=>s.free z⟩
theorem Fr.trans(s:Fr S H ai)(t:Fr S ai au):Fr S H au:=⟨λc u n q=>t.cF c u n (s.cF c u n q),λc z=>s.hK c (t.hK c z)⟩
theorem Fr.more(s:Fr S H ai)(h:∀c∈S,c∈T):Fr T H ai:=⟨λc u n q=>s.cF c u (λz=>n (h c z)) q,s.hK⟩
theorem Fr.put(s:Fr S H ai)(ar:p∈S):Fr S H (av ai p o):=⟨s.cF.put ar,λc z=>by
 by_cases e:c=p
 .subst e;rw[b0]at z;cases z
 rw[aN e]at z;exact s.hK c z⟩
theorem Fr.new(s:Fr S H ai)(ar:ai p=aa):Fr S H (av ai p o):=s.trans (Fr.of (aw.new ar))
theorem Fr.same(s:Fr S H ai)(h:∀c∈S,H c=aa):aw H ai:=λc u q=>s.cF c u (λz=>by rw[h c z]at q;cases q) q
end
def Y1(p:I)(n o:Nat):List (a8×V):=[("position",.ref p),("seen",.int (n:Int)),("over",.int (o:Int))]
def tG(a:b5)(H:ak)(s p:I)(q:gp)(n o:Nat):Prop:=(∃a3,H s=B (.ins a.oc a3 (Y1 p n o)))/\ju a H p q
def r_(aB aV bA bD a_:I)(e:V):List (a8×V):=[("rules",.ref aB),("stages",.ref aV),("moves",.ref bA),("lines",.ref bD),("times",.ref a_),("ended_by",e)]
def gk(q:gp):List Key:=[y2 (dA (Tf.bd q)),y1 (q.side:Int)]
def cnt(k:List Key)(fw:List gp):Nat:=(fw.filter λq=>decide (gk q=k)).length
def Tm(aW:List (List Key×V))(fw:List gp):Prop:=∀k,(jT aW k).getD (.int 0)=.int ((cnt k fw:Nat):Int)
theorem NV(k:List Key)(fw:List gp)(q:gp):cnt k (fw++[q])=cnt k fw+(if gk q=k then 1 else 0):=by
 unfold cnt;rw[A2,df,qd,I8];by_cases h:gk q=k
 .rw[aZ (eE h),aZ h];rfl
 rw[aL (by simpa using h),aL h];rfl
variable{aW:List (List Key×V)}
theorem Tm.add{fw:List gp}(T:Tm aW fw)(q:gp):Tm (il aW (gk q) (.int ((cnt (gk q) fw:Nat)+1:Int))) (fw++[q]):=λk=>by
 rw[Ra,NV];by_cases h:k=gk q
 .rw[aZ h,aZ h.symm,h];show V.int _=V.int _;rfl
 rw[aL h,aL (λz=>h z.symm),T k];rfl
theorem Tm.sub{fw:List gp}(T:Tm aW (fw++[q])):Tm (il aW (gk q) (.int ((cnt (gk q) (fw++[q]):Nat)-1:Int))) fw:=λk=>by
 rw[Ra];have c:=NV k fw q;by_cases h:k=gk q
 .rw[aZ h,aZ h.symm]at*;rw[<-h,c];show V.int _=V.int _;congr 1;omega
 rw[aL h,T k,c,aL (λz=>h z.symm)];rfl
theorem aeL(q p:gp):decide (gk q=gk p)=(Tf.bd q==Tf.bd p&&q.side==p.side):=by
 rw[hM,mj,i8,h_,h_];unfold gk;constructor
 .intro h;injection h with O a5;injection a5 with a5 _;injection O with O;injection a5 with a5;refine⟨?_,by omega⟩;have:=f_ (λs:a8=>s.cps.toList) O;simpa[zR]using this
 rintro⟨O,a5⟩;rw[O,a5]
variable{l:List (Nat×Nat)}
theorem Y2(R:Tf.Right r)(ig:ea r r.begins)(fD:Tf.Row r l):cnt (gk (r.after l)) (r.row l)=r.seen l:=by rw[a5Q R.g.b_ ig fD];unfold cnt;congr 2;funext q;exact aeL q _
structure iQ (a:b5) (H:ak) (g aB nl aV bA bD a_:I) (c5:List (I×I)) (a3:I) (e:V) (r:eW) (l:List (Nat×Nat)) (k:Nat) (aW:List (List Key×V)):Prop where
 obj:H g=B (.ins a.Game a3 (r_ aB aV bA bD a_ e))
 kr:q' a H aB nl r
 iv:H aV=B (.lst (c5.map λs=>V.ref s.1))
 ks:c5.length=k
 r':∀(i:Nat) s,c5[i]? =B s->tG a H s.1 s.2 (r.after (l.take i)) (r.seen (l.take i)) (r.overBy (l.take i))
 j4:H a_=B (.g8 aW)
 zV:Tm aW ((r.row l).take k)
 vq:nl≠aV
variable{aB bA bD a_:I}{c5:List (I×I)}
section
variable{aV:I}{e:V}
theorem tG.keep{s:I}{o:Nat}(h:tG a H s p q n o)(k:∀c u,(c=s∨c=p)->H c=B u->H' c=B u):tG a H' s p q n o:=by obtain⟨⟨d,O⟩,⟨h2,a5⟩⟩:=h;exact⟨⟨d,k _ _ (.inl Y) O⟩,⟨h2,k _ _ (.inr Y) a5⟩⟩
theorem iQ.keep(aj:iQ a H g aB nl aV bA bD a_ c5 a3 e r l k aW)(dH:∀c u,(c=g∨c=aB∨c=nl∨c=aV∨c=a_∨∃s∈c5,c=s.1∨c=s.2)->H c=B u->H' c=B u):iQ a H' g aB nl aV bA bD a_ c5 a3 e r l k aW:=by obtain⟨⟨ck,ah⟩,aH⟩:=aj.kr;exact⟨dH _ _ (.inl Y) aj.obj,⟨⟨ck,dH _ _ (.inr (.inl Y)) ah⟩,dH _ _ (.inr (.inr (.inl Y))) aH⟩,dH _ _ (.inr (.inr (.inr (.inl Y)))) aj.iv,aj.ks,λi s h=>(aj.r' i s h).keep λc u a7 q=>dH c u (.inr (.inr (.inr (.inr (.inr ⟨s,mQ h,a7⟩))))) q,dH _ _ (.inr (.inr (.inr (.inr (.inl Y))))) aj.j4,aj.zV,aj.vq⟩
theorem iQ.same(aj:iQ a H g aB nl aV bA bD a_ c5 a3 e r l k aW)(s:aw H H'):iQ a H' g aB nl aV bA bD a_ c5 a3 e r l k aW:=aj.keep λc u _ q=>s c u q
theorem iQ.kind(aj:iQ a H g aB nl aV bA bD a_ c5 a3 e r l k aW){s:I×I}(h:s∈c5):(∃d fs,H s.1=B (.ins a.oc d fs)/\fs.length=3)/\∃d fs,H s.2=B (.ins a.Position d fs)/\fs.length=2:=by obtain⟨i,hi⟩:=A6 h;obtain⟨⟨d,O⟩,⟨h2,a5⟩⟩:=aj.r' i s hi;exact⟨⟨d,_,O,Y⟩,⟨h2,_,a5,Y⟩⟩
theorem iQ.other(aj:iQ a H g aB nl aV bA bD a_ c5 a3 e r l k aW){c:I}{vs:List V}(a7:H c=B (.lst vs))(dZ:c≠aV)(cS:c≠nl):iQ a (av H c o) g aB nl aV bA bD a_ c5 a3 e r l k aW:=by
 obtain⟨⟨_,ah⟩,_⟩:=id aj.kr;refine aj.keep λb u a0 q=>?_;rw[aN]
 .exact q
 obtain rfl|rfl|rfl|rfl|rfl|⟨s,ax,a0⟩:=a0
 .exact λz=>eV a7 aj.obj z.symm
 .exact λz=>eV a7 ah z.symm
 .exact ed cS
 .exact ed dZ
 .exact λz=>by have:=aj.j4;rw[z,a7]at this;cases this
 obtain⟨⟨d,_,O,_⟩,⟨_,_,a5,_⟩⟩:=aj.kind ax;obtain rfl|rfl:=a0
 .exact λz=>eV a7 O z.symm
 exact λz=>eV a7 a5 z.symm
theorem iQ.next(aj:iQ a H g aB nl aV bA bD a_ c5 a3 e r l (l.length+1) aW)(m:Nat×Nat):iQ a H g aB nl aV bA bD a_ c5 a3 e r (l++[m]) (l++[m]).length aW:=by
 have gT:(l++[m]).length=l.length+1:=by simp
 refine⟨aj.obj,aj.kr,aj.iv,by rw[gT];exact aj.ks,λi s h=>?_,aj.j4,?_,aj.vq⟩
 .have hi:=(ec.mp h).1;rw[aj.ks]at hi;rw[xH (by omega)];exact aj.r' i s h
 have t:=aj.zV;rw[lB (by rw[rE];exact cO _)]at t;rw[gT,Fs,xH (by rw[rE];exact cO _),lB (by rw[rE];exact cO _)];exact t
theorem iQ.last(aj:iQ a H g aB nl aV bA bD a_ c5 a3 e r l (l.length+1) aW):∃s,hb (c5.map λs=>V.ref s.1) (-1)=B (.ref s.1)/\tG a H s.1 s.2 (r.after l) (r.seen l) (r.overBy l)/\c5[l.length]? =B s:=by
 have h:l.length<c5.length:=by rw[aj.ks];exact Ad _
 have z:=aj.r' l.length _ (f7 h);rw[j8]at z;refine⟨c5[l.length],?_,z,f7 h⟩;have e:=take_snoc (f7 h);rw[lB (by rw[aj.ks];exact cO _)]at e;conv=>lhs;rw[e,fH]
 exact QK _ _
end
def aeM(C:I)(f g h:a8):bF:=λvs H Q _=>∃x a3 u v w,vs=[.ref x,u,v,w]/\H x=B (.ins C a3 [])/\Q .bS (av H x (.ins C a3 [(f,u),(g,v),(h,w)]))
def aeN(a:b5):bF:=λvs H Q _=>∃g aB aV bA bD a_ a3 e xs v,vs=[.ref g]/\H g=B (.ins a.Game a3 (r_ aB aV bA bD a_ e))/\H aV=B (.lst xs)/\hb xs (-1)=B v/\Q v H
def NW(a:b5):bF:=λvs H Q _=>∃g aB nl aV bA bD a_ c5 a3 e r l aW,vs=[.ref g]/\iQ a H g aB nl aV bA bD a_ c5 a3 e r l (l.length+1) aW/\∀p,ju a H p (r.after l)->Q (.ref p) H
def Y4(e:Option vS)(o:Int):Int:=match e with
 |none=>o
 |some .drawn=>7
 |some _=>6
def aeO(a:b5):bF:=λvs H Q _=>∃s p q,∃n o:Nat,∃e,vs=[.ref s,m9 e]/\tG a H s p q n o/\Q (.int (Y4 e (o:Int))) H
def aeP(a:b5):bF:=λvs H Q _=>∃g aB aV bA bD a_ a3 e xs p r l,vs=[.ref g,.ref p,.int ((r.seen l:Nat):Int)]/\H g=B (.ins a.Game a3 (r_ aB aV bA bD a_ e))/\fN a H aB r/\H aV=B (.lst xs)/\xs.length=l.length/\ju a H p (r.after l)/\Tf.Right r/\ea r (r.after l)/\∀H',aw H H'->Q (.int ((r.overBy l:Nat):Int)) H'
def aeQ(a:b5):bF:=λvs H Q _=>∃g aB nl aV bA bD a_ c5 a3 e r l aW,∃x y:Nat,vs=[.ref g,.int (x:Int),.int (y:Int)]/\iQ a H g aB nl aV bA bD a_ c5 a3 e r l (l.length+1) aW/\Tf.Right r/\ea r (r.after l)/\r.ended (r.after l)=0/\∀H',aw H H'->Q (.c1 ((r.moves (r.after l)).contains (x,y))) H'
theorem nE(h:Tf.Right r):ea r r.begins:=by obtain⟨k,o⟩:=h.king;exact(Ft h.g.b_ o (by have:=h.g.f2;omega)).1
theorem aeR(y:Nat)(l:List Nat):A_ (.int (y:Int)) (dB l)=decide (y∈l):=by
 unfold dB;induction l with
 |nil=>rfl
 |cons x l ih=>
  show(rz (.int (x:Int)) (.int (y:Int))||A_ (.int (y:Int)) (l.map λ(c:Nat)=>V.int (c:Int)))=_;rw[ih,show rz (.int (x:Int)) (.int (y:Int))=((x:Int)==(y:Int))from Y,hM,sb,h_,mj,mj,dx];constructor
  .rintro(h|h)
   .exact .inl (by omega)
   exact .inr h
  rintro(h|h)
  .exact .inl (by omega)
  exact .inr h
theorem Y5(e:Option vS):decide (m9 e=.bS)=e.isNone:=by cases e with|none=>rfl|some y=>cases y<;>rfl
theorem aeS(T:Txt K a6 a):ph P w K a6 base cj 1 a.oc ["self","position","seen","over"] (aeM a.oc "position" "seen" "over"):=by refine T.aay.ok a8K (λf _ A _ s H _ Q E _ h=>?_);obtain⟨x,_,u,v,w,rfl,ag,k⟩:=h;refine⟨_,aC (dY (J 0) (J 1) Y) (aC (dY (J 0) (J 2) Y) (aX (dY (J 0) (J 3) Y))),_,Y,_,Y,x,_,_,_,Y,ag,T.ny.1,T.zv,by decide,_,Y,_,Y,x,_,_,_,Y,b0,T.ny.1,T.GA,ql,_,Y,_,Y,x,_,_,_,Y,b0,T.ny.1,T.GB,so,?_⟩;rw[iT,iT];exact k
theorem xo(T:Txt K a6 a):fY P w K a6 base cj 1 a.Game "last_stage" ["self"] (aeN a):=by refine T.aaA.ok a8M (λf _ A _ s H _ Q E _ h=>?_);obtain⟨g,_,aV,_,_,_,_,e,_,v,rfl,aI,ax,bk,k⟩:=h;exact⟨_,aX (bG (dV hD (bg (J 0) Y) (AN AO cb) (λ_ _=>rfl))),_,Y,g,_,_,_,_,Y,aI,T.dm.1,T.x4,Y,_,Y,aV,_,_,_,Y,Y,bp.of ax,bk,k⟩
theorem Hz(T:Txt K a6 a):fY P w K a6 base cj 2 a.Game "last_position" ["self"] (NW a):=by refine T.aaB.ok a8N (λf _ A _ s H _ Q E ah h=>?_);obtain⟨g,aB,_,aV,bA,bD,a_,_,a3,e,r,l,_,rfl,aj,k⟩:=h;refine⟨_,aX (bG (bg (g5 (xo T) (J 0) T.dm.1 ah bw) Y)),?_⟩;obtain⟨s,O,⟨⟨_,a5⟩,aG⟩,_⟩:=aj.last;exact⟨_,Y,g,_,_,Y,aj.obj,Y,g,aB,aV,bA,bD,a_,a3,e,_,_,Y,aj.obj,aj.iv,O,s.1,_,_,_,_,Y,a5,T.ny.1,T.zv,Y,k s.2 aG⟩
theorem NX(T:Txt K a6 a):dK P w K a6 base cj 1 "how_over_if" ["stage","ended_by"] (aeO a):=by
 refine T.aa2.ok a8x (λf _ A _ s H _ Q E _ h=>?_);obtain⟨s,p,q,n,o,e,rfl,⟨⟨_,ax⟩,_⟩,k⟩:=h;refine⟨_,aC (d3 (Jb (Q5 (J 1))) (aX (bG (bg (J 0) Y))) d8) (aC (d3 (c' dz (J 1) (cK T.ME Y) (cq _)) (aX (bG (cK T.a9d Y))) d8) (aX (bG (cK T.Wf Y)))),_,Y,_,Y,?_⟩;rw[Y5];cases e with
 |none=>exact hE ⟨_,Y,s,_,_,_,_,Y,ax,T.ny.1,T.GB,Y,k⟩
 |some y=>refine gz ⟨_,Y,?_⟩;cases y with|hunters=>exact⟨rfl,_,rfl,d6 k⟩|king=>exact⟨rfl,_,rfl,d6 k⟩|drawn=>exact⟨rfl,_,rfl,i6 k⟩
theorem aeT(T:Txt K a6 a):fY P w K a6 base cj 7 a.Game "over_there" ["self","position","seen"] (aeP a):=by
 refine T.aaG.ok W7 (λf _ A _ s H _ Q E ah h=>?_);obtain⟨g,aB,aV,_,_,_,_,e,_,p,r,l,rfl,aI,d1,xp,G0,ar,R,hw,k⟩:=h;refine⟨_,aC (cx (i:=3) W7.bh (ct (WJ T) ah Y bw (ao (bg (J 0) Y) (ao (J 1) az)))) (aC (d3 (c' nW (J 3) (cK T.rR Y) (cq _)) (aX (bG (J 3))) d8) (aC (d3 (c' EC (J 2) (cK T.a9e Y) (cq _)) (aX (bG (cK T.We Y))) d8) (aC (d3 (c' EC (fc i' Y T.hU ia (ao (bg (J 0) Y) az)) (bg (bg (J 0) Y) Y) (cq _)) (aX (bG (cK T.a9c Y))) d8) (aX (bG (cK T.rR Y)))))),?_⟩;obtain⟨_,kR⟩:=id d1;refine⟨_,Y,g,_,_,_,_,Y,aI,T.dm.1,T.pn,Y,_,Y,aB,r,r.after l,p,Y,d1,ar,R.g,hw,λai s1=>⟨_,Y,Y,_,Y,?_⟩⟩;have c7:=k ai s1;unfold E8 at c7;dsimp only at c7;by_cases b9:r.over (r.after l)=0
 .rw[aL (λz=>z b9)]at c7;refine e7 (by rw[b9];decide) ⟨_,Y,_,_,Y,Y,_,Y,?_⟩;by_cases aG:3<=r.seen l
  .rw[aZ aG]at c7;exact eJ (eE (by show(3:Int)<=((r.seen l:Nat):Int);omega)) c7
  rw[aL aG]at c7;refine e7 (λz=>aG (by have z:=e3 z;have z:(3:Int)<=((r.seen l:Nat):Int):=z;omega)) ⟨_,Y,g,_,_,_,_,Y,s1 _ _ aI,T.dm.1,T.x4,Y,aV,_,Y,.inl (bp.of (s1 _ _ xp)),_,Y,g,_,_,_,_,Y,s1 _ _ aI,T.dm.1,T.pn,Y,aB,_,_,_,_,Y,s1 _ _ kR,T.dk.1,T.MO,Y,_,_,Y,Y,_,Y,?_⟩;rw[G0];by_cases aq:r.limit<=l.length
  .rw[aZ aq]at c7;exact eJ (eE (by show((r.limit:Nat):Int)<=((l.length:Nat):Int);omega)) c7
  rw[aL aq]at c7;exact e7 (λz=>aq (by have z:=e3 z;have z:((r.limit:Nat):Int)<=((l.length:Nat):Int):=z;omega)) c7
 rw[aZ b9]at c7;refine eJ ?_ ⟨_,Y,c7⟩;show(!decide (V.int ((r.over (r.after l):Nat):Int)=V.int 0))=a9;rw[gP (λz=>b9 (by have z:=V.int.inj z;omega))];rfl
theorem aeU(T:Txt K a6 a):fY P w K a6 base cj 5 a.Game "has_move" ["self","x","y"] (aeQ a):=by
 refine T.aaE.ok W6 (λf _ A _ s H _ Q E ah h=>?_);obtain⟨g,aB,nl,aV,bA,bD,a_,c5,a3,e,r,l,aW,x,y,rfl,aj,R,hw,f3,k⟩:=h;refine⟨_,aC (cx (i:=3) W6.bh (g5 (Hz T) (J 0) T.dm.1 ah.mono bw)) (aX (bG (Ep (gG oS (J 1) (fc ER Y T.hU ia (ao (bg (J 3) Y) az)) (cq _)) (pJ (gG a2F (J 2) (ct (MZ T) ah Y bw (ao (bg (J 0) Y) (ao (J 3) (ao (J 1) az)))) Y))))),_,Y,g,_,_,Y,aj.obj,Y,g,aB,nl,aV,bA,bD,a_,c5,a3,e,r,l,aW,Y,aj,λp ar=>?_⟩;obtain⟨_,qR⟩:=id ar;refine⟨_,Y,_,Y,p,_,_,_,_,Y,qR,T.jJ.1,T.qN,Y,_,Y,zA _ (km _),_,_,Y,Y,_,Y,?_⟩;have eS:(dA (Tf.bd (r.after l))).length=169:=by rw[zz,km]
 rw[eS];have uL:=a4t hw R.g.b_ f3 (m:=(x,y));by_cases ag:x<169
 .refine eJ (eE (by show(x:Int)<((169:Nat):Int);omega)) ⟨_,Y,_,Y,g,_,_,_,_,Y,aj.obj,T.dm.1,T.pn,Y,_,Y,_,Y,aB,r,r.after l,p,x,Y,aj.kr.at,ar,R.g.b_,hw,ag,λt _ au s2 uV=>?_⟩;refine⟨t,_,Y,.inl (bp.of uV),Y,?_,?_⟩
  .unfold dB;rw[Zy];exact xC.mpr λ_ _=>rfl
  have c7:=k au s2;have aT:A_ (.int (y:Int)) (dB (hT r (r.after l) x))=(r.moves (r.after l)).contains (x,y):=by rw[aeR,hM,mj,xD,uL];exact⟨λz=>⟨ag,z⟩,λz=>z.2⟩
  rw[<-aT]at c7;exact c7
 refine e7 (λz=>ag (by have z:=e3 z;have z:(x:Int)<((169:Nat):Int):=z;omega)) ?_;have c7:=k H (aw.refl H);have aT:(r.moves (r.after l)).contains (x,y)=aJ:=by cases z:(r.moves (r.after l)).contains (x,y)with|false=>rfl|true=>exact absurd (uL.mp (xD.mp z)).1 ag
 rw[aT]at c7;exact c7
def aeV(a:b5):bF:=λvs H Q _=>∃g aB nl aV bA bD a_ c5 a3 e r l aW p,vs=[.ref g,.ref p]/\iQ a H g aB nl aV bA bD a_ c5 a3 e r l l.length aW/\ju a H p (r.after l)/\Tf.Right r/\Tf.Row r l/\l.length<=900/\aW.length<=5000/\∀H' s j5,Fr [aV,a_] H H'->H s=aa->j5.length<=aW.length+1->iQ a H' g aB nl aV bA bD a_ (c5++[(s,p)]) a3 e r l (l.length+1) j5->Q .bS H'
section
variable{aV:I}{e:V}
theorem iQ.xq(aj:iQ a H g aB nl aV bA bD a_ c5 a3 e r l k aW){c:I}(u:dy)(h:H c=B u)(n:∀gf,u≠ .g8 gf):(av H a_ o) c=B u:=by
 rw[aN]
 .exact h
 exact λz=>by have:=aj.j4;rw[<-z,h]at this;exact n _ (gX this)
end
theorem Y6(T:Txt K a6 a):fY P w K a6 base cj 8 a.Game "reach" ["self","position"] (aeV a):=by
 refine T.aaF.ok Mv (λf _ A _ s H _ Q E ah h=>?_);obtain⟨g,aB,nl,aV,bA,bD,a_,c5,a3,e,r,l,aW,p,rfl,aj,ar,R,fD,_,NZ,k⟩:=h;refine⟨_,aC (cx (i:=2) Mv.bh (sF (ao (bg (J 1) Y) (ao (bg (J 1) Y) az)))) (aC (cx (i:=3) Mv.bh (da nT (a3v (F6 ah) (bg (J 0) Y) (J 2) cb ⟨Y,Y,Y,Y⟩) cb)) (aC (Rf (F6 ah) (bg (J 0) Y) (J 2) (J 3) Y) (aX (e6 (pM oy tV vI sO (bg (J 0) Y) (ao (pj (aeS T) ah.mono Y T.ny.2 bw (ao (J 1) (ao (J 3) (ao (dP (aeT T) (J 0) T.dm.1 ah bw (ao (J 1) (ao (J 3) az))) az)))) az)))))),?_⟩;have b_:=R.g.b_;have ig:=nE R;have hw:=fD.wf b_ ig;have Y7:(r.row l).take l.length++[r.after l]=r.row l:=by have aO:=Le (r:=r) (l:=l) (cO _);rw[j8]at aO;rw[<-take_snoc aO,lB (by rw[rE];exact cO _)]
 obtain⟨ey,qR⟩:=id ar;refine⟨_,Y,p,_,_,_,_,Y,qR,T.jJ.1,T.qN,Y,_,Y,p,_,_,_,_,Y,qR,T.jJ.1,T.tl,Y,nL,λtk tH=>?_⟩;have s1:aw H (av H tk (.tup [.str (dA (Tf.bd (r.after l))),.int ((r.after l).side:Int)])):=aw.new tH;have D5:(av H tk (.tup [.str (dA (Tf.bd (r.after l))),.int ((r.after l).side:Int)])) tk=B (.tup ((gk (r.after l)).map fI)):=b0;generalize av H tk (.tup [.str (dA (Tf.bd (r.after l))),.int ((r.after l).side:Int)])=ai at s1 D5 ⊢;have dJ:=aj.same s1;have eG:cnt (gk (r.after l)) ((r.row l).take l.length)+1=r.seen l:=by
  rw[<-Y2 R ig fD];conv=>rhs;rw[<-Y7]
  rw[NV,aZ Y]
 refine⟨_,Y,g,_,_,_,_,Y,dJ.obj,T.dm.1,T.GD,Y,a_,Y,.inr ⟨aW,.inl dJ.j4⟩,_,Y,_,Bc.t (k:=gk (r.after l)) dJ.j4 D5,?_⟩;rw[dJ.zV (gk (r.after l))];refine⟨_,_,Y,Y,?_⟩;dsimp only;rw[show((cnt (gk (r.after l)) ((r.row l).take l.length):Nat):Int)+1=((r.seen l:Nat):Int) by omega];refine⟨_,Y,_,Y,g,_,_,_,_,Y,dJ.obj,T.dm.1,T.GD,Y,_,Y,a_,_,Y,yC.t (k:=gk (r.after l)) dJ.j4 D5 (lC NZ (by decide)),?_⟩;have Y8:Tm (il aW (gk (r.after l)) (.int ((r.seen l:Nat):Int))) (r.row l):=by have z:=dJ.zV.add (r.after l);rw[Y7,show((cnt (gk (r.after l)) ((r.row l).take l.length):Nat):Int)+1=((r.seen l:Nat):Int) by omega]at z;exact z
 have Y9:=F0 aW (gk (r.after l)) (.int ((r.seen l:Nat):Int));have f2:Fr [aV,a_] H (av ai a_ (.g8 (il aW (gk (r.after l)) (.int ((r.seen l:Nat):Int))))):=(Fr.of s1).put (by simp);have l7:(av ai a_ (.g8 (il aW (gk (r.after l)) (.int ((r.seen l:Nat):Int))))) g=_:=dJ.xq _ dJ.obj (λ_ z=>by cases z);have mv:(av ai a_ (.g8 (il aW (gk (r.after l)) (.int ((r.seen l:Nat):Int))))) aV=_:=dJ.xq _ dJ.iv (λ_ z=>by cases z);have nv:ju a (av ai a_ (.g8 (il aW (gk (r.after l)) (.int ((r.seen l:Nat):Int))))) p (r.after l):=⟨ey,dJ.xq _ (s1 _ _ qR) (λ_ z=>by cases z)⟩;have iP:q' a (av ai a_ (.g8 (il aW (gk (r.after l)) (.int ((r.seen l:Nat):Int))))) aB nl r:=by obtain⟨⟨ck,ah⟩,aH⟩:=dJ.kr;exact⟨⟨ck,dJ.xq _ ah (λ_ z=>by cases z)⟩,dJ.xq _ aH (λ_ z=>by cases z)⟩
 have N_:∀(i:Nat) s,c5[i]? =B s->tG a (av ai a_ (.g8 (il aW (gk (r.after l)) (.int ((r.seen l:Nat):Int))))) s.1 s.2 (r.after (l.take i)) (r.seen (l.take i)) (r.overBy (l.take i)):=λi s h=>by obtain⟨⟨d,O⟩,⟨h2,a5⟩⟩:=dJ.r' i s h;exact⟨⟨d,dJ.xq _ O (λ_ z=>by cases z)⟩,⟨h2,dJ.xq _ a5 (λ_ z=>by cases z)⟩⟩
 have uV:(av ai a_ (.g8 (il aW (gk (r.after l)) (.int ((r.seen l:Nat):Int))))) a_=_:=b0;generalize il aW (gk (r.after l)) (.int ((r.seen l:Nat):Int))=j5 at Y8 Y9 f2 l7 mv nv iP N_ uV ⊢;generalize av ai a_ (.g8 j5)=au at f2 l7 mv nv iP N_ uV ⊢;refine⟨_,Y,g,_,_,_,_,Y,l7,T.dm.1,T.x4,Y,.inl ⟨Y,_,bp.of mv⟩,_,Y,_,Y,_,Y,g,_,_,Y,l7,Y,_,Y,_,Y,g,aB,aV,bA,bD,a_,a3,e,_,p,r,l,Y,l7,iP.at,mv,by rw[cW];exact aj.ks,nv,R,hw,λbc bE=>?_⟩;refine λs c9 ax KP bV=>⟨s,c9,_,_,_,Y,b0,Y,?_⟩;rw[iT];have s4:aw au (av (av bc c9 (.own s)) s (.ins a.oc c9 [("position",.ref p),("seen",.int ((r.seen l:Nat):Int)),("over",.int ((r.overBy l:Nat):Int))])):=bE.trans (aw.upd (aw.new KP) (by rw[aN (ed bV)];exact ax));have yB:(av (av bc c9 (.own s)) s (.ins a.oc c9 [("position",.ref p),("seen",.int ((r.seen l:Nat):Int)),("over",.int ((r.overBy l:Nat):Int))])) s=B (.ins a.oc c9 (Y1 p (r.seen l) (r.overBy l))):=b0;generalize av (av bc c9 (.own s)) s (.ins a.oc c9 [("position",.ref p),("seen",.int ((r.seen l:Nat):Int)),("over",.int ((r.overBy l:Nat):Int))])=cT at s4 yB ⊢;refine⟨aV,_,_,Y,Y,s4 _ _ mv,?_,?_⟩
 .rw[cW,aj.ks];exact gy (by omega)
 refine k _ s j5 ((f2.trans (Fr.of s4)).put (by simp)) (f2.hK s (bE.free ax)) Y9 ?_;have D6:=s4 _ _ mv;have zW:∀{b C d:I}{fs:List (a8×V)}{o:dy},cT b=B (.ins C d fs)->(av cT aV o) b=B (.ins C d fs):=fun{b C d fs o} z=>by rw[aN (λq=>eV D6 z q.symm)];exact z
 obtain⟨⟨ck,ah⟩,aH⟩:=iP.same s4;refine⟨zW (s4 _ _ l7),⟨⟨ck,zW ah⟩,by rw[aN aj.vq];exact aH⟩,by rw[b0,fH];rfl,by simp[aj.ks],λi b3 h=>?_,?_,?_,aj.vq⟩
 .by_cases hi:i<c5.length
  .rw[kV hi]at h;obtain⟨⟨d,O⟩,⟨h2,a5⟩⟩:=N_ i b3 h;exact⟨⟨d,zW (s4 _ _ O)⟩,⟨h2,zW (s4 _ _ a5)⟩⟩
  have hg:i<c5.length+1:=by have:=(ec.mp h).1;simpa using this
  have kO:i=c5.length:=by omega
  subst kO;rw[pz (cO _),Z']at h;cases h;rw[lB (by rw[aj.ks];exact cO _)];obtain⟨h2,a5⟩:=nv;exact⟨⟨c9,zW yB⟩,⟨h2,zW (s4 _ _ a5)⟩⟩
 .rw[aN (λz=>by have:=s4 _ _ uV;rw[z,D6]at this;cases this)];exact s4 _ _ uV
 rw[lB (by rw[rE];exact cO _)];exact Y8
def mL(l:List aS):List V:=l.map λb=>V.str (cg b)
structure k3 (a:b5) (H:ak) (g aB nl aV bA bD a_:I) (c5:List (I×I)) (ts:List I) (a3:I) (aW:List (List Key×V)) (x:jM):Prop where
 cf:iQ a H g aB nl aV bA bD a_ c5 a3 (m9 x.game.ending) x.rules x.game.moves (x.game.moves.length+1) aW
 j6:H bA=B (.lst (ts.map V.ref))
 ku:ts.length=x.game.moves.length
 vr:∀(i:Nat) t,ts[i]? =B t->H t=B (.lst (dB (qj x.rules x.game.moves i)))/\t≠aV/\t≠bA/\t≠bD
 k4:H bD=B (.lst (mL (iq x.rules x.game.moves)))
 q7:bA≠aV
 q8:bD≠aV
 s6:bD≠bA
 tI:nl≠bA
 tJ:nl≠bD
def xr(g aB nl aV bA bD a_:I)(c5:List (I×I))(ts:List I):List I:=g::aB::nl::aV::bA::bD::a_::(c5.map a01++(c5.map Prod.snd++ts))
def fZ(a:b5)(H:ak)(g aB nl:I)(F:List I)(n:Nat)(x:jM):Prop:=∃aV bA bD a_ c5 ts a3 aW,k3 a H g aB nl aV bA bD a_ c5 ts a3 aW x/\aW.length<=n/\∀c∈xr g aB nl aV bA bD a_ c5 ts,c∈F
variable{F:List I}
section
variable{aV:I}{ts:List I}{x:jM}
theorem iw{c:I}:c∈xr g aB nl aV bA bD a_ c5 ts↔c=g∨c=aB∨c=nl∨c=aV∨c=bA∨c=bD∨c=a_∨(∃s∈c5,c=s.1∨c=s.2)∨c∈ts:=by
 unfold xr;simp only[dx,kv,fA];constructor
 .rintro(h|h|h|h|h|h|h|⟨s,O,a5⟩|⟨s,O,a5⟩|h)
  .exact .inl h
  .exact .inr (.inl h)
  .exact .inr (.inr (.inl h))
  .exact .inr (.inr (.inr (.inl h)))
  .exact .inr (.inr (.inr (.inr (.inl h))))
  .exact .inr (.inr (.inr (.inr (.inr (.inl h)))))
  .exact .inr (.inr (.inr (.inr (.inr (.inr (.inl h))))))
  .exact .inr (.inr (.inr (.inr (.inr (.inr (.inr (.inl ⟨s,O,.inl a5.symm⟩)))))))
  .exact .inr (.inr (.inr (.inr (.inr (.inr (.inr (.inl ⟨s,O,.inr a5.symm⟩)))))))
  exact .inr (.inr (.inr (.inr (.inr (.inr (.inr (.inr h)))))))
 rintro(h|h|h|h|h|h|h|⟨s,O,a5|a5⟩|h)
 .exact .inl h
 .exact .inr (.inl h)
 .exact .inr (.inr (.inl h))
 .exact .inr (.inr (.inr (.inl h)))
 .exact .inr (.inr (.inr (.inr (.inl h))))
 .exact .inr (.inr (.inr (.inr (.inr (.inl h)))))
 .exact .inr (.inr (.inr (.inr (.inr (.inr (.inl h))))))
 .exact .inr (.inr (.inr (.inr (.inr (.inr (.inr (.inl ⟨s,O,a5.symm⟩)))))))
 .exact .inr (.inr (.inr (.inr (.inr (.inr (.inr (.inr (.inl ⟨s,O,a5.symm⟩))))))))
 exact .inr (.inr (.inr (.inr (.inr (.inr (.inr (.inr (.inr h))))))))
theorem k3.keep(aj:k3 a H g aB nl aV bA bD a_ c5 ts a3 aW x)(k:∀c∈xr g aB nl aV bA bD a_ c5 ts,∀o,H c=B o->H' c=B o):k3 a H' g aB nl aV bA bD a_ c5 ts a3 aW x:=by
 refine⟨aj.cf.keep λc u a7 q=>k c (iw.mpr ?_) u q,k _ (iw.mpr (.inr (.inr (.inr (.inr (.inl Y)))))) _ aj.j6,aj.ku,λi t h=>⟨k t (iw.mpr (.inr (.inr (.inr (.inr (.inr (.inr (.inr (.inr (mQ h)))))))))) _ (aj.vr i t h).1,(aj.vr i t h).2⟩,k _ (iw.mpr (.inr (.inr (.inr (.inr (.inr (.inl Y))))))) _ aj.k4,aj.q7,aj.q8,aj.s6,aj.tI,aj.tJ⟩;obtain h|h|h|h|h|h:=a7
 .exact .inl h
 .exact .inr (.inl h)
 .exact .inr (.inr (.inl h))
 .exact .inr (.inr (.inr (.inl h)))
 .exact .inr (.inr (.inr (.inr (.inr (.inr (.inl h))))))
 exact .inr (.inr (.inr (.inr (.inr (.inr (.inr (.inl h)))))))
theorem fZ.same(h:fZ a H g aB nl F n x)(s:aw H H'):fZ a H' g aB nl F n x:=let⟨aV,bA,bD,a_,c5,ts,a3,aW,aj,b,f⟩:=h;⟨aV,bA,bD,a_,c5,ts,a3,aW,aj.keep λc _ o q=>s c o q,b,f⟩
theorem fZ.frame(h:fZ a H g aB nl F n x)(s:h5 S H H')(d:∀c∈F,c∉S):fZ a H' g aB nl F n x:=let⟨aV,bA,bD,a_,c5,ts,a3,aW,aj,b,f⟩:=h;⟨aV,bA,bD,a_,c5,ts,a3,aW,aj.keep λc a7 o q=>s c o (d c (f c a7)) q,b,f⟩
theorem fZ.less(h:fZ a H g aB nl F n x)(l:n<=m):fZ a H g aB nl F m x:=let⟨aV,bA,bD,a_,c5,ts,a3,aW,aj,b,f⟩:=h;⟨aV,bA,bD,a_,c5,ts,a3,aW,aj,dC b l,f⟩
theorem fZ.obj(h:fZ a H g aB nl F n x):∃a3 aV bA bD a_,H g=B (.ins a.Game a3 (r_ aB aV bA bD a_ (m9 x.game.ending))):=by obtain⟨aV,bA,bD,a_,_,_,a3,_,aj,_⟩:=h;exact⟨a3,aV,bA,bD,a_,aj.cf.obj⟩
structure ma (aB nl:I) (F:List I) (H H':ak):Prop where
 fr:Fr F H H'
 xt:∀u,H aB=B u->H' aB=B u
 xu:∀u,H nl=B u->H' nl=B u
theorem ma.of(s:aw H H'):ma aB nl F H H':=⟨Fr.of s,λu q=>s _ _ q,λu q=>s _ _ q⟩
theorem ma.trans(s:ma aB nl F H ai)(t:ma aB nl F ai H'):ma aB nl F H H':=⟨s.fr.trans t.fr,λu q=>t.xt u (s.xt u q),λu q=>t.xu u (s.xu u q)⟩
theorem ma.mk'{M:List I}(s:Fr M H H')(h:∀c∈M,c∈F)(dZ:aB∉M)(cS:nl∉M):ma aB nl F H H':=⟨s.more h,λu q=>s.cF _ _ dZ q,λu q=>s.cF _ _ cS q⟩
theorem k3.fD(aj:k3 a H g aB nl aV bA bD a_ c5 ts a3 aW x):aB∉[g,aV,bA,bD,a_]/\nl∉[g,aV,bA,bD,a_]:=by obtain⟨⟨_,ah⟩,aH⟩:=aj.cf.kr;simp only[dx,r7,qk,yb];exact⟨⟨jK ah aj.cf.obj (by show(15:Nat)≠6;decide),λz=>eV aj.cf.iv ah z.symm,λz=>eV aj.j6 ah z.symm,λz=>eV aj.k4 ah z.symm,λz=>(by have:=aj.cf.j4;rw[<-z,ah]at this;cases this)⟩,eV aH aj.cf.obj,aj.cf.vq,aj.tI,aj.tJ,λz=>(by have:=aj.cf.j4;rw[<-z,aH]at this;cases this)⟩
theorem k3.own(aj:k3 a H g aB nl aV bA bD a_ c5 ts a3 aW x)(fe:∀c∈xr g aB nl aV bA bD a_ c5 ts,c∈F):∀c∈[g,aV,bA,bD,a_],c∈F:=λc a7=>fe c (iw.mpr (by
 simp only[dx,r7,qk]at a7;obtain h|h|h|h|h:=a7
 .exact .inl h
 .exact .inr (.inr (.inr (.inl h)))
 .exact .inr (.inr (.inr (.inr (.inl h))))
 .exact .inr (.inr (.inr (.inr (.inr (.inl h)))))
 exact .inr (.inr (.inr (.inr (.inr (.inr (.inl h))))))))
theorem k3.HA(aj:k3 a H g aB nl aV bA bD a_ c5 ts a3 aW x)(fe:∀c∈xr g aB nl aV bA bD a_ c5 ts,c∈F)(s:Fr [g,aV,bA,bD,a_] H H'):ma aB nl F H H':=ma.mk' s (aj.own fe) aj.fD.1 aj.fD.2
theorem k3.push{m:Nat×Nat}{s t:I}{j5:List (List Key×V)}{e:V}{o1 o2:dy}(aj:k3 a H0 g aB nl aV bA bD a_ c5 ts a3 aW ⟨r,⟨l,aa⟩⟩)(fr:∀c u,c≠aV->c≠a_->H0 c=B u->H c=B u)(q9:iQ a H g aB nl aV bA bD a_ (c5++[(s,p)]) a3 .bS r (l++[m]) ((l++[m]).length+1) j5)(ba:H t=B (.lst (dB (qj r (l++[m]) l.length))))(ng:H0 t=aa)(O:H' bA=B (.lst ((ts++[t]).map V.ref)))(a5:H' bD=B (.lst (mL (iq r (l++[m])))))(k:∀c u,c≠bA->c≠bD->H c=B u->H' c=B u):k3 a H' g aB nl aV bA bD a_ (c5++[(s,p)]) (ts++[t]) a3 j5 ⟨r,⟨l++[m],aa⟩⟩:=by
 have qL:∀{c u},H0 c=B u->t≠c:=fun{c u} q z=>by rw[z,q]at ng;cases ng
 have bh:∀{c:I}{xs:List V},H0 c=B (.lst xs)->c≠a_:=fun{c xs} q z=>by have:=aj.cf.j4;rw[<-z,q]at this;cases this
 have mb:=fr _ _ aj.q7 (bh aj.j6) aj.j6;have k6:=fr _ _ aj.q8 (bh aj.k4) aj.k4;refine⟨q9.keep λc u a7 q=>k c u ?_ ?_ q,O,by simp[aj.ku],λi y h=>?_,a5,aj.q7,aj.q8,aj.s6,aj.tI,aj.tJ⟩
 .obtain⟨⟨ck,ah⟩,aH⟩:=q9.kr;obtain rfl|rfl|rfl|rfl|rfl|⟨z,aR,a7⟩:=a7
  .exact λz=>eV mb q9.obj z.symm
  .exact λz=>eV mb ah z.symm
  .exact aj.tI
  .exact ed aj.q7
  .exact λz=>by have:=q9.j4;rw[z,mb]at this;cases this
  obtain⟨⟨d,fs,bx,_⟩,⟨h2,Y3,cw,_⟩⟩:=q9.kind aR;obtain rfl|rfl:=a7
  .exact λz=>eV mb bx z.symm
  exact λz=>eV mb cw z.symm
 .obtain⟨⟨ck,ah⟩,aH⟩:=q9.kr;obtain rfl|rfl|rfl|rfl|rfl|⟨z,aR,a7⟩:=a7
  .exact λz=>eV k6 q9.obj z.symm
  .exact λz=>eV k6 ah z.symm
  .exact aj.tJ
  .exact ed aj.q8
  .exact λz=>by have:=q9.j4;rw[z,k6]at this;cases this
  obtain⟨⟨d,fs,bx,_⟩,⟨h2,Y3,cw,_⟩⟩:=q9.kind aR;obtain rfl|rfl:=a7
  .exact λz=>eV k6 bx z.symm
  exact λz=>eV k6 cw z.symm
 by_cases hi:i<ts.length
 .rw[kV hi]at h;obtain⟨z,dZ,cS,g9⟩:=aj.vr i y h;refine⟨?_,dZ,cS,g9⟩;rw[k _ _ cS g9 (fr _ _ dZ (bh z) z)];show _=B (dy.lst (dB (qj r (l++[m]) i)));rw[Si _ _ (by have:=aj.ku;simp at this;omega)]
 have hg:i<ts.length+1:=by have:=(ec.mp h).1;simpa using this
 have kO:i=ts.length:=by omega
 subst kO;rw[pz (cO _),Z']at h;cases h;refine⟨?_,qL aj.cf.iv,qL aj.j6,qL aj.k4⟩;rw[k _ _ (qL aj.j6) (qL aj.k4) ba,aj.ku]
end
def aeW(a:b5):bF:=λvs H Q _=>∃g aB nl F n x,∃u v:Nat,vs=[.ref g,.int (u:Int),.int (v:Int)]/\fZ a H g aB nl F n x/\Tf.Inv x/\x.game.ending=aa/\(u,v)∈x.rules.moves (x.rules.after x.game.moves)/\x.game.moves.length<900/\n<=5000/\∀H' hL,ma aB nl F H H'->(∀c∈hL,c∈F∨H c=aa)->fZ a H' g aB nl hL (n+1) ⟨x.rules,⟨x.game.moves++[(u,v)],aa⟩⟩->Q .bS H'
theorem Ya(T:Txt K a6 a):fY P w K a6 base cj 9 a.Game "make" ["self","x","y"] (aeW a):=by
 refine T.aaH.ok Mw (λf _ A _ s H _ Q E ah h=>?_);obtain⟨g,aB,nl,F,n,⟨r,l,iL⟩,u,v,rfl,⟨aV,bA,bD,a_,c5,ts,a3,aW,aj,_,fe⟩,c8,aH,hm,NY,_,k⟩:=h;refine⟨_,aC (cx (i:=3) Mw.bh (ct (WO T) ah.mono Y bw (ao (bg (J 0) Y) (ao (g5 (Hz T) (J 0) T.dm.1 ah.mono bw) (ao (J 1) (ao (J 2) az)))))) (aC (e6 (dP (Y6 T) (J 0) T.dm.1 ah bw (ao (bg (J 3) Y) az))) (aC (cx (i:=4) Mw.bh (da nZ (fv (ao (J 1) (ao (J 2) (ao (bg (g5 (xo T) (J 0) T.dm.1 ah.mono bw) Y) az)))) (bg (J 3) Y))) (aC (e6 (pM oy tV vI sO (bg (J 0) Y) (ao (J 4) az))) (aX (e6 (pM oy tV vI sO (bg (J 0) Y) (ao (ct (XS T) ah.mono Y bw (ao (J 4) az)) az))))))),?_⟩;have aH:iL=aa:=aH;subst aH;have c8:Tf.Inv ⟨r,⟨l,aa⟩⟩:=c8;have hm:(u,v)∈r.moves (r.after l):=hm;have NY:l.length<900:=NY;have b_:=c8.ef.g.b_;have hw:ea r (r.after l):=c8.fD.wf b_ (nE c8.ef);have dg:=p7 hw b_ hm;have aeX:Tf.Row r (l++[(u,v)]):=Tf.Row.snoc c8.fD hm;have dU:=BA hw b_ dg;have kC:=FI hw b_ dg;have gT:(l++[(u,v)]).length=l.length+1:=by simp
 have ol:=Bz r (l++[(u,v)]);have go:=aj.cf.obj;refine⟨_,Y,g,_,_,_,_,Y,go,T.dm.1,T.pn,Y,_,Y,g,_,_,Y,go,Y,g,aB,nl,aV,bA,bD,a_,c5,a3,_,_,_,aW,Y,aj.cf,λp ar=>⟨_,Y,_,Y,?_⟩⟩;refine⟨aB,_,_,p,u,v,Y,aj.cf.kr.at,ar,c8.ef.g,hw,dg,λo od eY lt ai aeY aeZ s1 aU nv c4=>?_⟩;have dJ:=aj.cf.same s1;have nv:ju a ai eY (r.after (l++[(u,v)])):=by rw[Br];exact nv
 refine⟨_,Y,g,_,_,Y,dJ.obj,Y,_,Y,o,_,_,_,_,Y,aU,T.x3.1,T.MP,Y,g,aB,nl,aV,bA,bD,a_,c5,a3,_,r,l++[(u,v)],aW,eY,Y,dJ.next (u,v),nv,c8.ef,aeX,(by omega),(by omega),λau st j5 f2 ft _ ht=>?_⟩;have HB:∀{c:I}{xs:List V},ai c=B (.lst xs)->c≠a_:=fun{c xs} q z=>by have:=dJ.j4;rw[<-z,q]at this;cases this
 have l7:au o=B (.ins a.Outcome od [("position",.ref eY),("taken",.ref lt)]):=f2.cF _ _ (by simp only[dx,r7,qk,yb];exact⟨λz=>eV dJ.iv aU z.symm,λz=>by have:=dJ.j4;rw[<-z,aU]at this;cases this⟩) aU;have wU:au lt=B (.lst (dB (r.takes (r.after l) (u,v)))):=f2.cF _ _ (by simp only[dx,r7,qk,yb];exact⟨λz=>(by have:=aj.cf.iv;rw[<-z,aeZ]at this;cases this),HB c4⟩) c4;obtain⟨hx,aO,⟨⟨_,tK⟩,_⟩,_⟩:=ht.last;refine⟨_,Y,_,Y,_,Y,g,_,_,Y,ht.obj,Y,g,aB,aV,bA,bD,a_,a3,_,_,_,Y,ht.obj,ht.iv,aO,hx.1,_,_,_,_,Y,tK,T.ny.1,T.GB,Y,IZ,λng CG=>?_⟩;have bE:aw au (av au ng (.lst [.int (u:Int),.int (v:Int),.int ((r.overBy (l++[(u,v)]):Nat):Int)])):=aw.new CG;refine⟨_,Y,o,_,_,_,_,Y,bE _ _ l7,T.x3.1,T.MQ,Y,ng,lt,_,_,Y,Y,b0,bE _ _ wU,?_,λgK Hx=>?_⟩
 .rw[jv];exact hl (gy (by show 3+_<=1000;omega))
 have s4:=aw.upd (o:=.lst ([.int (u:Int),.int (v:Int),.int ((r.overBy (l++[(u,v)]):Nat):Int)]++dB (r.takes (r.after l) (u,v)))) bE Hx;have zX:(av (av au ng (.lst [.int (u:Int),.int (v:Int),.int ((r.overBy (l++[(u,v)]):Nat):Int)])) gK (.lst ([.int (u:Int),.int (v:Int),.int ((r.overBy (l++[(u,v)]):Nat):Int)]++dB (r.takes (r.after l) (u,v))))) gK=B (.lst (dB (u::v::r.overBy (l++[(u,v)])::r.takes (r.after l) (u,v)))):=b0;have af0:au gK=aa:=bE.free Hx;generalize av (av au ng (.lst [.int (u:Int),.int (v:Int),.int ((r.overBy (l++[(u,v)]):Nat):Int)])) gK (.lst ([.int (u:Int),.int (v:Int),.int ((r.overBy (l++[(u,v)]):Nat):Int)]++dB (r.takes (r.after l) (u,v))))=cT at s4 zX ⊢;have fa:Fr [aV,a_] H cT:=((Fr.of s1).trans f2).trans (Fr.of s4);have fr:∀c u,c≠aV->c≠a_->H c=B u->cT c=B u:=λc u dZ cS q=>fa.cF c u (by simp[dZ,cS]) q;have Yb:∀{c:I}{xs:List V},H c=B (.lst xs)->c≠a_:=fun{c xs} q z=>by have:=aj.cf.j4;rw[<-z,q]at this;cases this
 have HC:=ht.same s4;have mb:=fr _ _ aj.q7 (Yb aj.j6) aj.j6;have k6:=fr _ _ aj.q8 (Yb aj.k4) aj.k4;have zY:H gK=aa:=((Fr.of s1:Fr [aV,a_] H ai).trans f2).hK _ af0;have af1:gK≠bA:=λz=>by rw[z,aj.j6]at zY;cases zY
 have akB:gK≠bD:=λz=>by rw[z,aj.k4]at zY;cases zY
 refine⟨_,Y,g,_,_,_,_,Y,HC.obj,T.dm.1,T.tp,Y,.inl ⟨Y,_,bp.of mb⟩,_,Y,bA,_,_,Y,Y,mb,?_,?_⟩
 .rw[cW,aj.ku];exact gy (by show l.length<=1000;omega)
 have af2:(av cT bA (.lst (ts.map V.ref++[.ref gK]))) g=_:=(aN (λz=>eV mb HC.obj z.symm)).trans HC.obj;have rZ:(av cT bA (.lst (ts.map V.ref++[.ref gK]))) bD=_:=(aN aj.s6).trans k6;refine⟨_,Y,g,_,_,_,_,Y,af2,T.dm.1,T.GC,Y,.inl ⟨Y,_,bp.of rZ⟩,_,Y,gK,u,v,r.overBy (l++[(u,v)]),r.takes (r.after l) (u,v),Y,(aN af1).trans zX,b_.lt dg.eG,b_.lt dg.gg,ol,kC,dU,λ_ eR=>?_⟩;have af3:By u v (r.overBy (l++[(u,v)])) (r.takes (r.after l) (u,v))=r.moveLine (r.after l) (u,v):=a61 r l (u,v);rw[af3];refine⟨bD,_,_,Y,Y,eR _ _ rZ,?_,?_⟩
 .unfold mL;rw[cW,FP];exact gy (by show l.length<=1000;omega)
 have Yc:bA∈F:=fe bA (iw.mpr (.inr (.inr (.inr (.inr (.inl Y))))));have dE:bD∈F:=fe bD (iw.mpr (.inr (.inr (.inr (.inr (.inr (.inl Y)))))));have fs:aV∈F:=fe aV (iw.mpr (.inr (.inr (.inr (.inl Y)))));have Yd:a_∈F:=fe a_ (iw.mpr (.inr (.inr (.inr (.inr (.inr (.inr (.inl Y))))))));have fb:Fr [g,aV,bA,bD,a_] H (av cT bA (.lst (ts.map V.ref++[.ref gK]))):=(fa.more λc a7=>by
  simp only[dx,r7,qk]at a7 ⊢;obtain e|e:=a7
  .exact .inr (.inl e)
  exact .inr (.inr (.inr (.inr e)))).put (by simp)
 refine k _ (st::eY::gK::F) (aj.HA fe ((fb.trans (Fr.of eR)).put (by simp))) (λc a7=>?_) ⟨aV,bA,bD,a_,c5++[(st,eY)],ts++[gK],a3,j5,?_,(by omega),λc a7=>?_⟩
 .obtain e|a7:=dx.mp a7
  .rw[e];exact .inr (s1.free ft)
  obtain e|a7:=dx.mp a7
  .rw[e];exact .inr aeY
  obtain e|a7:=dx.mp a7
  .rw[e];exact .inr zY
  exact .inl a7
 .refine k3.push (H0:=H) (H:=cT) (o1:=.lst []) (o2:=.lst []) (e:=.bS) aj fr HC (by rw[Sj];exact zX) zY ?_ ?_ λc w dZ cS q=>?_
  .rw[aN (ed aj.s6)];rw[eR _ _ b0,fH];rfl
  .rw[b0,LB];unfold mL;rw[fH];rfl
  rw[aN cS];exact eR _ _ ((aN dZ).trans q)
 have tL:∀c,c∈F->c∈st::eY::gK::F:=λc z=>ez _ (ez _ (ez _ z));obtain h|h|h|h|h|h|h|⟨z,O,a5⟩|h:=iw.mp a7
 .exact tL c (fe c (iw.mpr (.inl h)))
 .exact tL c (fe c (iw.mpr (.inr (.inl h))))
 .exact tL c (fe c (iw.mpr (.inr (.inr (.inl h)))))
 .rw[h];exact tL _ fs
 .rw[h];exact tL _ Yc
 .rw[h];exact tL _ dE
 .rw[h];exact tL _ Yd
 .obtain O|O:=kv.mp O
  .exact tL c (fe c (iw.mpr (.inr (.inr (.inr (.inr (.inr (.inr (.inr (.inl ⟨z,O,a5⟩))))))))))
  rw[jL.mp O]at a5;rcases a5 with a5|a5<;>rw[a5]<;>simp
 obtain O|O:=kv.mp h
 .exact tL c (fe c (iw.mpr (.inr (.inr (.inr (.inr (.inr (.inr (.inr (.inr O))))))))))
 rw[jL.mp O];simp
def af4(a:b5):bF:=λvs H Q _=>∃g aB nl F n x,vs=[.ref g]/\fZ a H g aB nl F n x/\Tf.Inv x/\Q (.int ((x.rules.overOf x.game:Nat):Int)) H
def af5(a:b5):bF:=λvs H Q _=>∃aB r s p,∃n:Nat,∃l e,vs=[.ref aB,.ref s,m9 e]/\fN a H aB r/\tG a H s p (r.after l) n (r.overBy l)/\h3 r/\(r.after l).side<=1/\(e≠aa->r.overBy l=0)/\Q (.int ((r.winner ⟨l,e⟩:Nat):Int)) H
def af6(a:b5):bF:=λvs H Q _=>∃g aB nl F n x,vs=[.ref g]/\fZ a H g aB nl F n x/\Tf.Inv x/\Q (.int ((x.rules.winner x.game:Nat):Int)) H
def Ye(a:b5):bF:=λvs H Q _=>∃g aB nl F n x e,vs=[.ref g,m9 e]/\fZ a H g aB nl F n x/\∀H',ma aB nl F H H'->fZ a H' g aB nl F n ⟨x.rules,⟨x.game.moves,e⟩⟩->Q .bS H'
def af7(a:b5):bF:=λvs H Q _=>∃g aB nl F n x,vs=[.ref g]/\fZ a H g aB nl F n x/\Tf.Inv x/\n<=5000/\(x.game.ending≠aa->∀H',ma aB nl F H H'->fZ a H' g aB nl F (n+1) ⟨x.rules,⟨x.game.moves,aa⟩⟩->Q (.c1 a9) H')/\(x.game.ending=aa->x.game.moves=[]->Q (.c1 aJ) H)/\(x.game.ending=aa->x.game.moves≠[]->∀H',ma aB nl F H H'->fZ a H' g aB nl F (n+1) ⟨x.rules,⟨x.game.moves.dropLast,aa⟩⟩->Q (.c1 a9) H')
theorem N'{x:jM}(c8:x.game.ending≠aa->x.rules.overBy x.game.moves=0):((x.rules.overOf x.game:Nat):Int)=Y4 x.game.ending ((x.rules.overBy x.game.moves:Nat):Int):=by
 unfold y6;cases h:x.game.ending with
 |none=>
  dsimp only;by_cases z:x.rules.overBy x.game.moves=0
  .rw[aL (λq=>q z),z];rfl
  rw[aZ z];rfl
 |some y=>have z:=c8 (by rw[h];simp);dsimp only;rw[aL (λq=>q z)];cases y<;>rfl
theorem k3.Yf{aV:I}{ts:List I}{x:jM}{e:Option vS}(aj:k3 a H g aB nl aV bA bD a_ c5 ts a3 aW x):k3 a (av H g (.ins a.Game a3 (r_ aB aV bA bD a_ (m9 e)))) g aB nl aV bA bD a_ c5 ts a3 aW ⟨x.rules,⟨x.game.moves,e⟩⟩:=by
 have go:=aj.cf.obj;obtain⟨⟨ck,ah⟩,aH⟩:=aj.cf.kr;have D8:∀{c:I}{xs:List V}{o:dy},H c=B (.lst xs)->(av H g o) c=B (.lst xs):=fun{c xs o} q=>(aN (eV q go)).trans q;refine⟨⟨b0,⟨⟨ck,(aN (jK ah go (by show(15:Nat)≠6;decide))).trans ah⟩,D8 aH⟩,D8 aj.cf.iv,aj.cf.ks,λi s h=>?_,?_,aj.cf.zV,aj.cf.vq⟩,D8 aj.j6,aj.ku,λi t h=>⟨D8 (aj.vr i t h).1,(aj.vr i t h).2⟩,D8 aj.k4,aj.q7,aj.q8,aj.s6,aj.tI,aj.tJ⟩
 .obtain⟨⟨d,O⟩,⟨h2,a5⟩⟩:=aj.cf.r' i s h;exact⟨⟨d,(aN (jK O go (by show(3:Nat)≠6;decide))).trans O⟩,⟨h2,(aN (jK a5 go (by show(2:Nat)≠6;decide))).trans a5⟩⟩
 exact(aN (λz=>by have:=aj.cf.j4;rw[z,go]at this;cases this)).trans aj.cf.j4
theorem O0{l:List bu}(h:l≠[]):∃gb m,l=gb++[m]:=⟨l.dropLast,l.getLast h,(ahP h).symm⟩
theorem k3.pop{aV t:I}{ts:List I}{j5:List (List Key×V)}{m:Nat×Nat}{s:I×I}(aj:k3 a H g aB nl aV bA bD a_ (c5++[s]) (ts++[t]) a3 aW ⟨r,⟨l++[m],aa⟩⟩)(k:∀c u,c≠aV->c≠bA->c≠bD->c≠a_->H c=B u->H' c=B u)(O:H' aV=B (.lst (c5.map λs=>V.ref s.1)))(a5:H' bA=B (.lst (ts.map V.ref)))(aG:H' bD=B (.lst (mL (iq r l))))(cG:H' a_=B (.g8 j5))(eZ:Tm j5 (r.row l)):k3 a H' g aB nl aV bA bD a_ c5 ts a3 j5 ⟨r,⟨l,aa⟩⟩:=by
 have r0:∀{b C d:I}{fs:List (a8×V)},H b=B (.ins C d fs)->H' b=B (.ins C d fs):=fun{b C d fs} z=>k _ _ (λq=>eV aj.cf.iv z q.symm) (λq=>eV aj.j6 z q.symm) (λq=>eV aj.k4 z q.symm) (λq=>by have:=aj.cf.j4;rw[<-q,z]at this;cases this) z;have bh:∀{c:I}{xs:List V},H c=B (.lst xs)->c≠a_:=fun{c xs} q z=>by have:=aj.cf.j4;rw[<-z,q]at this;cases this
 obtain⟨⟨ck,ah⟩,aH⟩:=aj.cf.kr;have ks:(c5++[s]).length=(l++[m]).length+1:=aj.cf.ks;have ku:(ts++[t]).length=(l++[m]).length:=aj.ku;simp only[df,gu]at ks ku;refine⟨⟨r0 aj.cf.obj,⟨⟨ck,r0 ah⟩,k _ _ aj.cf.vq aj.tI aj.tJ (bh aH) aH⟩,O,by show _=l.length+1;omega,λi z h=>?_,cG,?_,aj.cf.vq⟩,a5,by show _=l.length;omega,λi y h=>?_,aG,aj.q7,aj.q8,aj.s6,aj.tI,aj.tJ⟩
 .have hi:=(ec.mp h).1;have mq:=aj.cf.r' i z (by rw[kV hi];exact h);have e:((l++[m]).take i)=l.take i:=xH (by omega);dsimp only at mq ⊢;rw[e]at mq;obtain⟨⟨d,bx⟩,⟨h2,cw⟩⟩:=mq;exact⟨⟨d,r0 bx⟩,⟨h2,r0 cw⟩⟩
 .dsimp only;rw[lB (by rw[rE];exact cO _)];exact eZ
 have hi:=(ec.mp h).1;obtain⟨z,dZ,cS,g9⟩:=aj.vr i y (by rw[kV hi];exact h);refine⟨?_,dZ,cS,g9⟩;rw[k _ _ dZ cS g9 (bh z) z];dsimp only;rw[Si _ _ (by omega)]
theorem D9(T:Txt K a6 a):fY P w K a6 base cj 2 a.Game "how_over" ["self"] (af4 a):=by refine T.aaC.ok a8O (λf _ A _ s H _ Q E ah h=>?_);obtain⟨g,aB,_,F,n,x,rfl,⟨aV,bA,bD,a_,_,_,a3,_,aj,_⟩,c8,k⟩:=h;refine⟨_,aX (bG (ct (NX T) ah Y bw (ao (g5 (xo T) (J 0) T.dm.1 ah bw) (ao (bg (J 0) Y) az)))),?_⟩;obtain⟨hx,aO,ax,_⟩:=aj.cf.last;refine⟨_,Y,g,_,_,Y,aj.cf.obj,Y,g,aB,aV,bA,bD,a_,a3,_,_,_,Y,aj.cf.obj,aj.cf.iv,aO,_,Y,g,_,_,_,_,Y,aj.cf.obj,T.dm.1,T.x5,Y,hx.1,hx.2,_,_,_,_,Y,ax,?_⟩;rw[N' c8.iL]at k;exact k
theorem Yg(T:Txt K a6 a):dK P w K a6 base cj 2 "who_won_if" ["rules","stage","ended_by"] (af5 a):=by
 refine T.aa3.ok V' (λf _ A _ s H _ Q E ah h=>?_);obtain⟨aB,r,s,p,n,l,e,rfl,⟨_,d1⟩,ax,aY,_,aF,k⟩:=h;refine⟨_,aC (cx (i:=3) V'.bh (ct (NX T) ah Y bw (ao (J 1) (ao (J 2) az)))) (aC (d3 (c' dz (J 3) (cK T.rR Y) (cq _)) (aX (bG (cK T.a9f Y))) d8) (aC (d3 (c' dz (J 3) (cK T.Wc Y) (cq _)) (aX (bG (cK T.Gu Y))) d8) (aC (d3 (c' dz (J 3) (cK T.Wd Y) (cq _)) (aX (bG (cK T.Wa Y))) d8) (aC (d3 (c' dz (J 3) (cK T.MD Y) (cq _)) (aX (bG (da nU cb (bg (bg (J 1) Y) Y)))) d8) (aC (d3 (c' dz (J 3) (cK T.We Y) (cq _)) (aX (bG (dV lN (l' T.zp.1 Y) (bg (J 0) Y) (λ_ _=>rfl)))) d8) (aC (d3 (c' dz (J 3) (cK T.Wf Y) (cq _)) (aX (bG (da nU cb (J 2)))) d8) (aX (bG (cK T.DRAWN Y))))))))),?_⟩;obtain⟨⟨_,tK⟩,⟨_,ar⟩⟩:=id ax;have kg:=N' (x:=⟨r,⟨l,e⟩⟩) aF;refine⟨_,Y,_,Y,s,p,_,_,_,e,Y,ax,?_⟩;dsimp only at kg ⊢;rw[<-kg];have Yh:r.overOf ⟨l,e⟩<=7:=by
  have z:=Bz r l;unfold y6;dsimp only;split
  .omega
  cases e with|none=>decide|some y=>cases y<;>decide
 have iH:r.overOf ⟨l,e⟩=6->e=B .hunters∨e=B .king:=λz=>by
  have a7e:=Bz r l;unfold y6 at z;dsimp only at z;split at z
  .omega
  cases e with
  |none=>cases z
  |some y=>cases y with|hunters=>exact .inl rfl|king=>exact .inr rfl|drawn=>cases z
 unfold PK at k;generalize r.overOf ⟨l,e⟩=o at Yh iH k;clear kg;have af8:o=0∨o=1∨o=2∨o=3∨o=4∨o=5∨o=6∨o=7:=by omega
 obtain rfl|rfl|rfl|rfl|rfl|rfl|rfl|rfl:=af8
 .exact⟨_,Y,Y,_,Y,i6 k⟩
 .exact⟨_,Y,Y,_,Y,d6 ⟨_,Y,Y,_,Y,i6 k⟩⟩
 .exact⟨_,Y,Y,_,Y,d6 ⟨_,Y,Y,_,Y,d6 ⟨_,Y,Y,_,Y,i6 k⟩⟩⟩
 .refine⟨_,Y,Y,_,Y,d6 ⟨_,Y,Y,_,Y,d6 ⟨_,Y,Y,_,Y,d6 ⟨_,Y,Y,_,Y,i6 ⟨_,Y,s,_,_,_,_,Y,tK,T.ny.1,T.zv,Y,p,_,_,_,_,Y,ar,T.jJ.1,T.tl,Y,_,_,Y,Y,?_⟩⟩⟩⟩⟩;have k:Q (.int ((1-(r.after l).side:Nat):Int)) H:=k;rw[show((1-(r.after l).side:Nat):Int)=1-(((r.after l).side:Nat):Int) by omega]at k;exact k
 .have aG:=aY.t3;refine⟨_,Y,Y,_,Y,d6 ⟨_,Y,Y,_,Y,d6 ⟨_,Y,Y,_,Y,d6 ⟨_,Y,Y,_,Y,d6 ⟨_,Y,Y,_,Y,i6 ⟨_,Y,aB,_,_,_,_,Y,d1,T.dk.1,T.MN,Y,a.zp,_,_,.int ((if r.thrice=0 then 2 else if r.thrice=1 then 1 else 0:Nat):Int),Y,Y,T.zp.2 _,?_,k⟩⟩⟩⟩⟩⟩;have:r.thrice=0∨r.thrice=1∨r.thrice=2:=by omega
  refine gr ?_;rcases this with e|e|e<;>rw[e]<;>rfl
 .exact⟨_,Y,Y,_,Y,d6 ⟨_,Y,Y,_,Y,d6 ⟨_,Y,Y,_,Y,d6 ⟨_,Y,Y,_,Y,d6 ⟨_,Y,Y,_,Y,d6 ⟨_,Y,Y,_,Y,d6 k⟩⟩⟩⟩⟩⟩
 .refine⟨_,Y,Y,_,Y,d6 ⟨_,Y,Y,_,Y,d6 ⟨_,Y,Y,_,Y,d6 ⟨_,Y,Y,_,Y,d6 ⟨_,Y,Y,_,Y,d6 ⟨_,Y,Y,_,Y,i6 ⟨_,Y,?_⟩⟩⟩⟩⟩⟩⟩;obtain rfl|rfl:=iH Y
  .exact⟨_,_,Y,Y,k⟩
  exact⟨_,_,Y,Y,k⟩
 exact⟨_,Y,Y,_,Y,d6 ⟨_,Y,Y,_,Y,d6 ⟨_,Y,Y,_,Y,d6 ⟨_,Y,Y,_,Y,d6 ⟨_,Y,Y,_,Y,d6 ⟨_,Y,Y,_,Y,d6 k⟩⟩⟩⟩⟩⟩
theorem af9(T:Txt K a6 a):fY P w K a6 base cj 3 a.Game "who_won" ["self"] (af6 a):=by refine T.aaD.ok a8P (λf _ A _ s H _ Q E ah h=>?_);obtain⟨g,aB,_,F,n,x,rfl,⟨aV,bA,bD,a_,_,_,a3,_,aj,_⟩,c8,k⟩:=h;refine⟨_,aX (bG (ct (Yg T) ah Y bw (ao (bg (J 0) Y) (ao (g5 (xo T) (J 0) T.dm.1 ah.mono bw) (ao (bg (J 0) Y) az))))),?_⟩;obtain⟨hx,aO,ax,_⟩:=aj.cf.last;have hw:=c8.fD.wf c8.ef.g.b_ (nE c8.ef);exact⟨_,Y,g,_,_,_,_,Y,aj.cf.obj,T.dm.1,T.pn,Y,_,Y,g,_,_,Y,aj.cf.obj,Y,g,aB,aV,bA,bD,a_,a3,_,_,_,Y,aj.cf.obj,aj.cf.iv,aO,_,Y,g,_,_,_,_,Y,aj.cf.obj,T.dm.1,T.x5,Y,aB,x.rules,hx.1,hx.2,_,x.game.moves,x.game.ending,Y,aj.cf.kr.at,ax,c8.ef.g,hw.gM,c8.iL,k⟩
theorem Yi(T:Txt K a6 a):fY P w K a6 base cj 1 a.Game "leave" ["self","ended_by"] (Ye a):=by refine T.aaI.ok a8Q (λf _ A _ s H _ Q E _ h=>?_);obtain⟨g,aB,_,F,n,x,e,rfl,⟨aV,bA,bD,a_,c5,ts,a3,aW,aj,aA,fe⟩,k⟩:=h;refine⟨_,aX (dY (J 0) (J 1) Y),_,Y,_,Y,g,_,_,_,Y,aj.cf.obj,T.dm.1,T.x5,I_,?_⟩;rw[show gH ("ended_by" :a8) (m9 e) (r_ aB aV bA bD a_ (m9 x.game.ending))=r_ aB aV bA bD a_ (m9 e)from Y];exact k _ (aj.HA fe ((Fr.of (aw.refl H)).put (by simp))) ⟨aV,bA,bD,a_,c5,ts,a3,aW,aj.Yf,aA,fe⟩
theorem afa(T:Txt K a6 a):fY P w K a6 base cj 1 a.Game "take_back" ["self"] (af7 a):=by
 refine T.aaJ.ok W8 (λf _ A _ s H _ Q E ah h=>?_);obtain⟨g,aB,nl,F,n,⟨r,l,iL⟩,rfl,⟨aV,bA,bD,a_,c5,ts,a3,aW,aj,D7,fe⟩,c8,kh,cJ,bL,eb⟩:=h;refine⟨_,aC (d3 (Jb (a1v (bg (J 0) Y))) (aC (dY (J 0) AB Y) (aX (bG qm))) d8) (aC (d3 (c' dz (fc i' Y T.hU ia (ao (bg (J 0) Y) az)) cb (cq _)) (aX (bG qm)) d8) (aC (cx (i:=1) W8.bh (JZ oy Pg a0g K2 (bg (J 0) Y))) (aC (Rf (F6 ah) (bg (J 0) Y) (sF (ao (bg (bg (J 1) Y) Y) (ao (bg (bg (J 1) Y) Y) az))) (da nU (bg (J 1) Y) cb) Y) (aC (e6 (JZ oy Pg a0g K2 (bg (J 0) Y))) (aC (e6 (JZ oy Pg a0g K2 (bg (J 0) Y))) (aX (bG qm))))))),_,Y,g,_,_,_,_,Y,aj.cf.obj,T.dm.1,T.x5,Y,_,Y,?_⟩;rw[Y5];have akC:g∈F:=fe g (iw.mpr (.inl Y));have Yc:bA∈F:=fe bA (iw.mpr (.inr (.inr (.inr (.inr (.inl Y))))));have dE:bD∈F:=fe bD (iw.mpr (.inr (.inr (.inr (.inr (.inr (.inl Y)))))));have fs:aV∈F:=fe aV (iw.mpr (.inr (.inr (.inr (.inl Y)))));have Yd:a_∈F:=fe a_ (iw.mpr (.inr (.inr (.inr (.inr (.inr (.inr (.inl Y))))))));cases iL with
 |some y=>refine hE ⟨_,Y,g,_,_,_,Y,aj.cf.obj,T.dm.1,T.x5,I_,?_⟩;exact cJ (by simp) _ (aj.HA fe ((Fr.of (aw.refl H)).put (by simp))) ⟨aV,bA,bD,a_,c5,ts,a3,aW,aj.Yf (e:=aa),(by omega),fe⟩
 |none=>
  refine gz ⟨_,Y,g,_,_,_,_,Y,aj.cf.obj,T.dm.1,T.tp,Y,bA,_,Y,.inl (bp.of aj.j6),Y,_,Y,?_⟩;rw[cW,aj.ku];by_cases hm:l=[]
  .refine eJ (by show decide (V.int ((l.length:Nat):Int)=V.int 0)=a9;rw[hm];decide) (bL Y hm)
  have j2:=ZK.mpr hm;refine e7 (λz=>by have z:=V.int.inj (e3 z);have z:((l.length:Nat):Int)=0:=z;omega) ?_;have ku:ts.length=l.length:=aj.ku;have ks:c5.length=l.length+1:=aj.cf.ks;obtain⟨r1,hx,rfl⟩:=O0 (l:=c5) (λz=>by rw[z]at ks;cases ks);obtain⟨rK,t,rfl⟩:=O0 (l:=ts) (λz=>by rw[z]at ku;simp at ku;omega);obtain⟨gb,m,rfl⟩:=O0 hm;simp only[df,gu]at ks ku;have eb:∀H',ma aB nl F H H'->fZ a H' g aB nl F (n+1) ⟨r,⟨gb,aa⟩⟩->Q (.c1 a9) H':=λH' f z=>eb Y hm H' f (by rw[I3];exact z);have fD:Tf.Row r (gb++[m]):=c8.fD;have R:Tf.Right r:=c8.ef;have aO:=Y2 R (nE R) fD;have ft:=aj.cf.r' r1.length hx (by simp);have afb:(gb++[m]).take r1.length=gb++[m]:=lB (by simp;omega);dsimp only at ft;rw[afb]at ft;obtain⟨⟨_,tK⟩,⟨_,Yj⟩⟩:=ft;have iv:H aV=B (.lst (r1.map (λs=>V.ref s.1)++[.ref hx.1])):=by have z:=aj.cf.iv;rw[fH]at z;exact z
  refine⟨_,Y,g,_,_,_,_,Y,aj.cf.obj,T.dm.1,T.x4,Y,.inl ⟨Y,_,bp.of iv⟩,aV,_,.ref hx.1,Y,Y,iv,(by simp),?_⟩;rw[I3];have r0:∀{b C d:I}{fs:List (a8×V)}{o:dy},H b=B (.ins C d fs)->(av H aV o) b=B (.ins C d fs):=fun{b C d fs o} z=>(aN (λq=>eV iv z q.symm)).trans z;have Yk:a_≠aV:=λz=>by have:=aj.cf.j4;rw[z,iv]at this;cases this
  have HD:(av H aV (.lst (r1.map λs=>V.ref s.1))) a_=_:=(aN Yk).trans aj.cf.j4;refine⟨_,Y,hx.1,_,_,_,_,Y,r0 tK,T.ny.1,T.GA,Y,_,_,Y,Y,_,Y,g,_,_,_,_,Y,r0 aj.cf.obj,T.dm.1,T.GD,Y,_,Y,hx.1,_,_,_,_,Y,r0 tK,T.ny.1,T.zv,Y,hx.2,_,_,_,_,Y,r0 Yj,T.jJ.1,T.qN,Y,_,Y,hx.1,_,_,_,_,Y,r0 tK,T.ny.1,T.zv,Y,hx.2,_,_,_,_,Y,r0 Yj,T.jJ.1,T.tl,Y,nL,λtk tH=>?_⟩;have afc:a_≠tk:=λz=>by rw[<-z,HD]at tH;cases tH
  refine⟨a_,_,Y,yC.t (k:=gk (r.after (gb++[m]))) ((aN afc).trans HD) b0 (lC (dC D7 kh) (by decide)),?_⟩;have Yl:Tm (il aW (gk (r.after (gb++[m]))) (.int ((r.seen (gb++[m]):Nat)-1:Int))) (r.row gb):=by have t:=aj.cf.zV;dsimp only at t;rw[lB (by rw[rE];exact cO _),Fs]at t;have z:=t.sub;rw[<-Fs,aO]at z;exact z
  have lk:=F0 aW (gk (r.after (gb++[m]))) (.int ((r.seen (gb++[m]):Nat)-1:Int));dsimp only at lk ⊢;generalize il aW (gk (r.after (gb++[m]))) (.int ((r.seen (gb++[m]):Nat)-1:Int))=j5 at Yl lk ⊢;have s':∀{c u},H c=B u->c≠tk:=fun{c u} q z=>by
   by_cases e:c=aV
   .rw[<-z,e,b0]at tH;cases tH
   rw[<-z,aN e,q]at tH;cases tH
  have dw:Fr [g,aV,bA,bD,a_] H (av (av (av H aV (.lst (r1.map λs=>V.ref s.1))) tk (.tup [.str (dA (Tf.bd (r.after (gb++[m])))),.int ((r.after (gb++[m])).side:Int)])) a_ (.g8 j5)):=(((Fr.of (aw.refl H)).put (by simp)).new tH).put (by simp);have Dc:∀c u,c≠aV->c≠a_->H c=B u->(av (av (av H aV (.lst (r1.map λs=>V.ref s.1))) tk (.tup [.str (dA (Tf.bd (r.after (gb++[m])))),.int ((r.after (gb++[m])).side:Int)])) a_ (.g8 j5)) c=B u:=λc u dZ cS q=>by rw[aN cS,aN (s' q),aN dZ];exact q
  have nd:(av (av (av H aV (.lst (r1.map λs=>V.ref s.1))) tk (.tup [.str (dA (Tf.bd (r.after (gb++[m])))),.int ((r.after (gb++[m])).side:Int)])) a_ (.g8 j5)) aV=B (.lst (r1.map λs=>V.ref s.1)):=by rw[aN (ed Yk),aN (s' iv),b0]
  have qJ:(av (av (av H aV (.lst (r1.map λs=>V.ref s.1))) tk (.tup [.str (dA (Tf.bd (r.after (gb++[m])))),.int ((r.after (gb++[m])).side:Int)])) a_ (.g8 j5)) a_=B (.g8 j5):=b0;generalize av (av (av H aV (.lst (r1.map λs=>V.ref s.1))) tk (.tup [.str (dA (Tf.bd (r.after (gb++[m])))),.int ((r.after (gb++[m])).side:Int)])) a_ (.g8 j5)=bc at dw Dc nd qJ ⊢;have bh:∀{c:I}{xs:List V},H c=B (.lst xs)->c≠a_:=fun{c xs} q z=>by have:=aj.cf.j4;rw[<-z,q]at this;cases this
  have Hk:=Dc _ _ (λz=>eV iv aj.cf.obj z.symm) (λz=>by have:=aj.cf.j4;rw[<-z,aj.cf.obj]at this;cases this) aj.cf.obj;have j6:bc bA=B (.lst (rK.map V.ref++[.ref t])):=by have z:=Dc _ _ aj.q7 (bh aj.j6) aj.j6;rw[fH]at z;exact z
  refine⟨_,Y,g,_,_,_,_,Y,Hk,T.dm.1,T.tp,Y,.inl ⟨Y,_,bp.of j6⟩,bA,_,.ref t,Y,Y,j6,(by simp),?_⟩;rw[I3];have k4:(av bc bA (.lst (rK.map V.ref))) bD=B (.lst (mL (iq r gb)++[.str (cg (r.moveLine (r.after gb) m))])):=by rw[aN aj.s6,Dc _ _ aj.q8 (bh aj.k4) aj.k4];dsimp only;rw[LB];unfold mL;rw[fH];rfl
  refine⟨_,Y,g,_,_,_,_,Y,(aN (λz=>eV j6 Hk z.symm)).trans Hk,T.dm.1,T.GC,Y,.inl ⟨Y,_,bp.of k4⟩,bD,_,.str (cg (r.moveLine (r.after gb) m)),Y,Y,k4,(by simp),?_⟩;rw[I3];refine eb _ (aj.HA fe ((dw.put (by simp)).put (by simp))) ⟨aV,bA,bD,a_,r1,rK,a3,j5,k3.pop aj (λc u dZ cS g9 afd q=>?_) ?_ ?_ b0 ?_ Yl,(by omega),λc a7=>fe c ?_⟩
  .rw[aN g9,aN cS];exact Dc c u dZ afd q
  .rw[aN (ed aj.q8),aN (ed aj.q7)];exact nd
  .rw[aN (ed aj.s6),b0]
  .rw[aN (λz=>bh aj.k4 z.symm),aN (λz=>bh aj.j6 z.symm)];exact qJ
  rw[iw]at a7 ⊢;obtain h|h|h|h|h|h|h|⟨z,O,a5⟩|h:=a7
  .exact .inl h
  .exact .inr (.inl h)
  .exact .inr (.inr (.inl h))
  .exact .inr (.inr (.inr (.inl h)))
  .exact .inr (.inr (.inr (.inr (.inl h))))
  .exact .inr (.inr (.inr (.inr (.inr (.inl h)))))
  .exact .inr (.inr (.inr (.inr (.inr (.inr (.inl h))))))
  .exact .inr (.inr (.inr (.inr (.inr (.inr (.inr (.inl ⟨z,se _ O,a5⟩)))))))
  exact .inr (.inr (.inr (.inr (.inr (.inr (.inr (.inr (se _ h))))))))
def afe(a:b5):bF:=λvs H Q _=>∃g a3 aB nl r,vs=[.ref g,.ref aB]/\H g=B (.ins a.Game a3 [])/\q' a H aB nl r/\Tf.Right r/\∀H' hL,Fr [g] H H'->(∀c∈hL,c=g∨c=aB∨c=nl∨H c=aa)->fZ a H' g aB nl hL 1 ⟨r,a10⟩->Q .bS H'
structure aff (H H':ak) (g:I) (a:I) (o:dy) (C a3:I) (fs:List (a8×V)):Prop where
 dH:∀c u,c≠g->H c=B u->H' c=B u
 cE:H' a=B o
 at_:H' g=B (.ins C a3 fs)
 fr:H a=aa
 hK:∀c,H' c=aa->H c=aa
theorem HE{a:I}{gZ:List (a8×V)}(aI:H g=B (.ins C a3 fs))(bf:H a=aa):aff H (av (av H a o) g (.ins C a3 gZ)) g a o C a3 gZ:=by
 have n:a≠g:=λz=>by rw[z,aI]at bf;cases bf
 refine⟨λc u dZ q=>by rw[aN dZ,aN (cU q bf)];exact q,by rw[aN n,b0],b0,bf,λc z=>?_⟩;by_cases e:c=g
 .rw[e,b0]at z;cases z
 rw[aN e]at z;by_cases aT:c=a
 .rw[aT,b0]at z;cases z
 rw[aN aT]at z;exact z
theorem Ym(T:Txt K a6 a):ph P w K a6 base cj 9 a.Game ["self","rules"] (afe a):=by
 refine T.aaz.ok a8L (λf _ A _ s H _ Q E ah h=>?_);obtain⟨g,a3,aB,nl,r,rfl,aI,d1,R,k⟩:=h;refine⟨_,aC (dY (J 0) (J 1) Y) (aC (dY (J 0) (fv az) Y) (aC (dY (J 0) (fv az) Y) (aC (dY (J 0) (fv az) Y) (aC (dY (J 0) a3p Y) (aC (dY (J 0) AB Y) (aX (e6 (dP (Y6 T) (J 0) T.dm.1 ah bw (ao (pj (WL T) ah.mono Y T.jJ.2 bw (ao (bg (J 1) Y) (ao (bg (J 1) Y) az))) az))))))))),?_⟩;obtain⟨⟨ck,kR⟩,lz⟩:=id d1;have afg:aB≠g:=jK kR aI (by show(15:Nat)≠0;decide);have afh:nl≠g:=eV lz aI;refine⟨_,Y,_,Y,g,_,_,_,Y,aI,T.dm.1,T.pn,by decide,?_⟩;have dS:Fr [g] H (av H g (.ins a.Game a3 [("rules",.ref aB)])):=(Fr.of (aw.refl H)).put (by simp);have Dd:(av H g (.ins a.Game a3 [("rules",.ref aB)])) g=B (.ins a.Game a3 [("rules",.ref aB)]):=b0;rw[show gH ("rules" :a8) (V.ref aB) []=([("rules",.ref aB)]:List (a8×V))from Y];generalize av H g (.ins a.Game a3 [("rules",.ref aB)])=ai at dS Dd ⊢;refine⟨ek _,λaV xp=>?_⟩;refine⟨_,Y,g,_,_,_,Y,(aN (λz=>by rw[<-z,Dd]at xp;cases xp)).trans Dd,T.dm.1,T.x4,ql,?_⟩;have g2:=HE (gZ:=[("rules",.ref aB),("stages",.ref aV)]) (o:=.lst []) Dd xp;rw[show gH ("stages" :a8) (V.ref aV) [("rules",.ref aB)]=([("rules",.ref aB),("stages",.ref aV)]:List (a8×V))from Y];generalize av (av ai aV (.lst [])) g (.ins a.Game a3 [("rules",.ref aB),("stages",.ref aV)])=au at g2 ⊢;refine⟨ek _,λbA mb=>?_⟩;refine⟨_,Y,g,_,_,_,Y,(aN (λz=>by rw[<-z,g2.at_]at mb;cases mb)).trans g2.at_,T.dm.1,T.tp,so,?_⟩;have lU:=HE (gZ:=[("rules",.ref aB),("stages",.ref aV),("moves",.ref bA)]) (o:=.lst []) g2.at_ mb;rw[show gH ("moves" :a8) (V.ref bA) [("rules",.ref aB),("stages",.ref aV)]=([("rules",.ref aB),("stages",.ref aV),("moves",.ref bA)]:List (a8×V))from Y];generalize av (av au bA (.lst [])) g (.ins a.Game a3 [("rules",.ref aB),("stages",.ref aV),("moves",.ref bA)])=bc at lU ⊢;refine⟨ek _,λbD k6=>?_⟩;refine⟨_,Y,g,_,_,_,Y,(aN (λz=>by rw[<-z,lU.at_]at k6;cases k6)).trans lU.at_,T.dm.1,T.GC,PU,?_⟩;have r2:=HE (gZ:=[("rules",.ref aB),("stages",.ref aV),("moves",.ref bA),("lines",.ref bD)]) (o:=.lst []) lU.at_ k6;rw[show gH ("lines" :a8) (V.ref bD) [("rules",.ref aB),("stages",.ref aV),("moves",.ref bA)]=([("rules",.ref aB),("stages",.ref aV),("moves",.ref bA),("lines",.ref bD)]:List (a8×V))from Y];generalize av (av bc bD (.lst [])) g (.ins a.Game a3 [("rules",.ref aB),("stages",.ref aV),("moves",.ref bA),("lines",.ref bD)])=cT at r2 ⊢;refine λa_ tM=>?_;refine⟨_,Y,g,_,_,_,Y,(aN (λz=>by rw[<-z,r2.at_]at tM;cases tM)).trans r2.at_,T.dm.1,T.GD,PV,_,Y,g,_,_,_,Y,b0,T.dm.1,T.x5,Ax,?_⟩;rw[iT];have tN:=HE (gZ:=r_ aB aV bA bD a_ .bS) (o:=.g8 []) r2.at_ tM;rw[show gH ("ended_by" :a8) V.bS (gH ("times" :a8) (V.ref a_) [("rules",.ref aB),("stages",.ref aV),("moves",.ref bA),("lines",.ref bD)])=r_ aB aV bA bD a_ .bS from Y];generalize av (av cT a_ (.g8 [])) g (.ins a.Game a3 (r_ aB aV bA bD a_ .bS))=c_ at tN ⊢;have dH:∀c u,c≠g->H c=B u->c_ c=B u:=λc u n q=>tN.dH c u n (r2.dH c u n (lU.dH c u n (g2.dH c u n (dS.cF c u (by simp[n]) q))));have hK:∀c,c_ c=aa->H c=aa:=λc z=>dS.hK c (g2.hK c (lU.hK c (r2.hK c (tN.hK c z))));have HF:∀{c:I}{H':ak}{u:dy},H' g=B u->H' c=aa->c≠g:=fun{c H' u} q z e=>by rw[e,q]at z;cases z
 have HG:=HF Dd xp;have Yn:=HF g2.at_ mb;have afi:=HF lU.at_ k6;have akD:=HF r2.at_ tM;have afj:c_ aV=B (.lst []):=tN.dH _ _ HG (r2.dH _ _ HG (lU.dH _ _ HG g2.cE));have afk:c_ bA=B (.lst []):=tN.dH _ _ Yn (r2.dH _ _ Yn lU.cE);have rZ:c_ bD=B (.lst []):=tN.dH _ _ afi r2.cE;have O1:H aV=aa:=dS.hK _ xp;have Yo:H bA=aa:=dS.hK _ (g2.hK _ mb);have Hv:H bD=aa:=dS.hK _ (g2.hK _ (lU.hK _ k6));have Yp:H a_=aa:=dS.hK _ (g2.hK _ (lU.hK _ (r2.hK _ tM)));have q7:bA≠aV:=λz=>by rw[z,g2.cE]at mb;cases mb
 have q8:bD≠aV:=λz=>by rw[z,lU.dH _ _ HG g2.cE]at k6;cases k6
 have s6:bD≠bA:=λz=>by rw[z,lU.cE]at k6;cases k6
 have O2:=dH _ _ afg kR;have afl:=dH _ _ afh lz;refine⟨_,Y,g,_,_,Y,tN.at_,Y,_,Y,aB,_,_,_,_,Y,O2,T.dk.1,T.Ck,Y,_,Y,aB,_,_,_,_,Y,O2,T.dk.1,T.MJ,Y,λp d CQ o9 bV=>⟨p,d,_,_,Y,b0,Y,?_⟩⟩;rw[iT];have eR:aw c_ (av (av c_ d (.own p)) p (.ins a.Position d [("board",.str (dA (Tf.bd r.begins))),("turn",.int ((r.first:Nat):Int))])):=aw.upd (aw.new o9) (by rw[aN (ed bV)];exact CQ);have Yq:(av (av c_ d (.own p)) p (.ins a.Position d [("board",.str (dA (Tf.bd r.begins))),("turn",.int ((r.first:Nat):Int))])) p=B (.ins a.Position d [("board",.str (dA (Tf.bd r.begins))),("turn",.int ((r.first:Nat):Int))]):=b0;generalize av (av c_ d (.own p)) p (.ins a.Position d [("board",.str (dA (Tf.bd r.begins))),("turn",.int ((r.first:Nat):Int))])=fK at eR Yq ⊢;obtain⟨_,afm⟩:=R.king;obtain⟨_,afn,_⟩:=Ft R.g.b_ afm (by have:=R.g.f2;omega);have Yr:iQ a fK g aB nl aV bA bD a_ [] a3 .bS r [] ([]:List (Nat×Nat)).length []:=by refine⟨eR _ _ tN.at_,⟨⟨ck,eR _ _ O2⟩,eR _ _ afl⟩,eR _ _ afj,Y,λi s h=>by simp at h,eR _ _ tN.cE,λk=>rfl,λz=>?_⟩;rw[z,O1]at lz;cases lz
 have j2:ju a fK p (r.after []):=⟨d,by show fK p=B (.ins a.Position d (GP r.begins));unfold GP;rw[afn];exact Yq⟩;refine⟨g,aB,nl,aV,bA,bD,a_,[],a3,_,r,[],[],p,Y,Yr,j2,R,Tf.Row.nil,by simp,by simp,λfm s j5 zP afo NZ afp=>?_⟩;have Ys:∀{c:I}{xs:List V},c≠aV->fK c=B (.lst xs)->fm c=B (.lst xs):=fun{c xs} n q=>zP.cF _ _ (by simp only[dx,r7,qk,yb];exact⟨n,λz=>by have:=Yr.j4;rw[<-z,q]at this;cases this⟩) q;have tI:nl≠bA:=λz=>by rw[z,Yo]at lz;cases lz
 have tJ:nl≠bD:=λz=>by rw[z,Hv]at lz;cases lz
 have De:Fr [g] H fm:=by refine⟨λc u n q=>?_,λc z=>hK c (eR.free (zP.hK c z))⟩;have rr:c≠g:=λz=>n (by simp[z]);refine zP.cF _ _ ?_ (eR _ _ (dH c u rr q));simp only[dx,r7,qk,yb];exact⟨λz=>(by rw[z,O1]at q;cases q),λz=>(by rw[z,Yp]at q;cases q)⟩
 refine k fm (xr g aB nl aV bA bD a_ [(s,p)] []) De (λc a7=>?_) ⟨aV,bA,bD,a_,[(s,p)],[],a3,j5,⟨afp,Ys q7 (eR _ _ afk),Y,λi t h=>by simp at h,Ys q8 (eR _ _ rZ),q7,q8,s6,tI,tJ⟩,NZ,λc a7=>a7⟩;obtain h|h|h|h|h|h|h|⟨z,O,a5⟩|h:=iw.mp a7
 .exact .inl h
 .exact .inr (.inl h)
 .exact .inr (.inr (.inl h))
 .rw[h];exact .inr (.inr (.inr O1))
 .rw[h];exact .inr (.inr (.inr Yo))
 .rw[h];exact .inr (.inr (.inr Hv))
 .rw[h];exact .inr (.inr (.inr Yp))
 .rw[jL.mp O]at a5;obtain a5|a5:=a5
  .rw[a5];exact .inr (.inr (.inr (hK _ (eR.free afo))))
  rw[a5];exact .inr (.inr (.inr (hK _ CQ)))
 simp at h
def O3(a:b5):bF:=λvs H Q _=>∃aB r s p,∃n:Nat,∃l e,vs=[.ref aB,.ref s,m9 e]/\fN a H aB r/\tG a H s p (r.after l) n (r.overBy l)/\h3 r/\(r.after l).side<=1/\(e≠aa->r.overBy l=0)/\Q (.str (cg (mW (r.winner ⟨l,e⟩) (r.overOf ⟨l,e⟩)))) H
def Yt(a:b5):bF:=λvs H Q _=>∃g aB nl F n x ar dH h k,vs=[.ref g,.ref ar,.ref dH]/\fZ a H g aB nl F n x/\Tf.Inv x/\x.rules.name.length<=16/\x.game.moves.length<=900/\H ar=B (.lst (cy h))/\H dH=B (.lst (cy k))/\h.length<=1500/\k.length<=1500/\∀l H',H l=aa->aw H H'->H' l=B (.lst (cy (x.rules.gameText h k x.game)))->Q (.ref l) H'
theorem afq(h:i<=3):hb ([.str "hunters",.str "king",.str "drawn",.str "open"]:List V) ((i:Nat):Int)=B (.str (cg (ub IV i))):=by
 refine gr ?_;have:i=0∨i=1∨i=2∨i=3:=by omega
 rcases this with rfl|rfl|rfl|rfl<;>exact f_ (λz=>B (V.str z)) (by decide+kernel)
theorem afr(h:i<=7):hb ([.str "open",.str "taken",.str "goal",.str "stuck",.str "thrice",.str "limit",.str "given",.str "agreed"]:List V) ((i:Nat):Int)=B (.str (cg (ub IM i))):=by
 refine gr ?_;have:i=0∨i=1∨i=2∨i=3∨i=4∨i=5∨i=6∨i=7:=by omega
 rcases this with rfl|rfl|rfl|rfl|rfl|rfl|rfl|rfl<;>exact f_ (λz=>B (V.str z)) (by decide+kernel)
theorem l0(u:aS)(h:u.length<=100000):(cg u).length<=cM:=by rw[fq];exact hl (zH h)
theorem Yu(T:Txt K a6 a):dK P w K a6 base cj 3 "end_line" ["rules","stage","ended_by"] (O3 a):=by
 refine T.aa4.ok Mn (λf _ A _ s H _ Q E ah h=>?_);obtain⟨aB,r,s,p,n,l,e,rfl,d1,ax,aY,p8,aF,k⟩:=h;refine⟨_,aC (cx (i:=3) Mn.bh (dV lN (l' T.zq.1 Y) (ct (Yg T) ah Y bw (ao (J 0) (ao (J 1) (ao (J 2) az)))) (λ_ _=>rfl))) (aC (cx (i:=4) Mn.bh (dV lN (l' T.zr.1 Y) (ct (NX T) ah.mono Y bw (ao (J 1) (ao (J 2) az))) (λ_ _=>rfl))) (aX (bG (a7U (ts:=[iB (.str "end "),M1 (dr 3),iB (.str " "),M1 (dr 4),iB (.str "\n")]) ⟨ee,U5 (J 3),ee,U5 (J 4),ee,Av⟩)))),?_⟩;have n2:=FQ r ⟨l,e⟩;have O4:=FR r ⟨l,e⟩;have kg:=N' (x:=⟨r,⟨l,e⟩⟩) aF;dsimp only at kg;obtain⟨_,_⟩:=FT (i:=r.winner ⟨l,e⟩) (by omega);obtain⟨_,_⟩:=FT O4;refine⟨_,Y,_,Y,_,Y,aB,r,s,p,n,l,e,Y,d1,ax,aY,p8,aF,a.zq,_,_,_,Y,Y,T.zq.2 _,afq n2,_,Y,_,Y,s,p,_,_,_,e,Y,ax,?_⟩;rw[<-kg];refine⟨a.zr,_,_,_,Y,Y,T.zr.2 _,afr O4,?_⟩;have afs:cg (mW (r.winner ⟨l,e⟩) (r.overOf ⟨l,e⟩))=((((Aj++("end " :a8))++cg (ub IV (r.winner ⟨l,e⟩)))++(" " :a8))++cg (ub IM (r.overOf ⟨l,e⟩)))++("\n" :a8):=by rw[show Aj=cg []from by decide+kernel,show("end " :a8)=cg (hn "end ")from by decide+kernel,show(" " :a8)=cg [32]from by decide+kernel,show("\n" :a8)=cg [10]from by decide+kernel,gO,gO,gO,gO,gO];congr 1;unfold mW;simp[kY]
 have gT:=FU n2 O4;have NO:(hn "end ").length=4:=by decide+kernel
 rw[afs]at k;rw[show Aj=cg []from by decide+kernel,show("end " :a8)=cg (hn "end ")from by decide+kernel,show(" " :a8)=cg [32]from by decide+kernel,show("\n" :a8)=cg [10]from by decide+kernel,gO,gO,gO,gO,gO]at k;refine⟨_,Y,?_,_,Y,_,Y,?_,_,Y,?_,_,Y,?_,_,Y,_,Y,?_,_,Y,?_,_,Y,?_,?_,?_⟩;all_goals try rw[show Aj=cg []from by decide+kernel]
 all_goals try rw[show("end " :a8)=cg (hn "end ")from by decide+kernel]
 all_goals try rw[show(" " :a8)=cg [32]from by decide+kernel]
 all_goals try rw[show("\n" :a8)=cg [10]from by decide+kernel]
 all_goals try rw[gO]
 all_goals try rw[gO]
 all_goals try rw[gO]
 all_goals try rw[gO]
 all_goals try rw[gO]
 all_goals first|exact k|exact l0 _ (by simp only[df,fQ,tS];omega)|exact l0 _ (by omega)
theorem aft(T:Txt K a6 a):dK P w K a6 base cj 4 "game_text" ["game","hunters_name","kings_name"] (Yt a):=by
 refine T.aa5.ok BY (λf b4 A _ s H _ Q E ah h=>?_);obtain⟨g,aB,nl,F,n,⟨r,l,iL⟩,ar,dH,a0,iR,rfl,⟨aV,bA,bD,a_,_,_,a3,_,aj,_,_⟩,c8,nm,vt,bU,aA,_,_,k⟩:=h;have O:dn 1 (A.deeper (fB "game_text" (bo M9) s.heap.objs.size f b4)):=ah.mono;refine⟨_,aC (cx (i:=3) BY.bh (da nZ (da nZ (da nZ (da nZ (da nZ (ct (rT T) O Y bw (ao ee az)) (J 1)) (ct (rT T) O Y bw (ao ee az))) (J 2)) (ct (rT T) O Y bw (ao ee az))) (bg (bg (J 0) Y) Y))) (aC (cx (i:=4) BY.bh (Bk ee (sU Y BY.bh (nQ (bg (J 0) Y)) (o3 (own:=[("line",5)]) Y) (λ_ _ _ _ _=>g_ (i:=5) BY.bh) (λ_ _ _ _ _=>qu) (λ_ _ _ _ _=>da oT (J 5) ee)))) (aX (bG (da nZ (J 3) (ct (rT T) O Y bw (ao (da oT (da oT ee (J 4)) (ct (Yu T) ah Y bw (ao (bg (J 0) Y) (ao (g5 (xo T) (J 0) T.dm.1 O bw) (ao (bg (J 0) Y) az))))) az)))))),?_⟩;have nm:r.name.length<=16:=nm;have vt:l.length<=900:=vt;obtain⟨⟨_,kR⟩,lz⟩:=id aj.cf.kr;have afu:Tf.dJ.length=5:=by decide+kernel
 have afv:Tf.ht.length=7:=by decide+kernel
 rw[show("game " :a8)=cg Tf.dJ from by decide+kernel,show(" " :a8)=cg [32]from by decide+kernel,show("\nrules " :a8)=cg Tf.ht from by decide+kernel];have zZ:∀{xs ys:aS},xs.length<=5000->ys.length<=90000->(cy xs).length+(cy ys).length<=cM:=fun{xs ys} O a5=>by rw[iu,iu];exact hl (zH (by omega))
 refine⟨_,Y,(by omega),λeG ai _ s1 aO=>⟨_,Y,eG,ar,_,_,Y,Y,aO,s1 _ _ bU,zZ (by omega) (by omega),λgg EK=>?_⟩⟩;have s2:=aw.upd (o:=.lst (cy Tf.dJ++cy a0)) s1 EK;have aT:(av ai gg (.lst (cy Tf.dJ++cy a0))) gg=B (.lst (cy (Tf.dJ++a0))):=by rw[b0,vd]
 generalize av ai gg (.lst (cy Tf.dJ++cy a0))=au at s2 aT ⊢;refine⟨_,Y,(by simp),λsV bc _ bE dX=>⟨gg,sV,_,_,Y,Y,bE _ _ aT,dX,zZ (by rw[df];omega) (by simp),λuF afw=>?_⟩⟩;have s4:=aw.upd (o:=.lst (cy (Tf.dJ++a0)++cy [32])) (s2.trans bE) afw;have hF:(av bc uF (.lst (cy (Tf.dJ++a0)++cy [32]))) uF=B (.lst (cy ((Tf.dJ++a0)++[32]))):=by rw[b0,vd (Tf.dJ++a0)]
 generalize av bc uF (.lst (cy (Tf.dJ++a0)++cy [32]))=cT at s4 hF ⊢;refine⟨_,Y,uF,dH,_,_,Y,Y,hF,s4 _ _ aA,zZ (by simp only[df,gu];omega) (by omega),λyQ afx=>?_⟩;have fV:=aw.upd (o:=.lst (cy ((Tf.dJ++a0)++[32])++cy iR)) s4 afx;have ki:(av cT yQ (.lst (cy ((Tf.dJ++a0)++[32])++cy iR))) yQ=B (.lst (cy (((Tf.dJ++a0)++[32])++iR))):=by rw[b0,vd ((Tf.dJ++a0)++[32])]
 generalize av cT yQ (.lst (cy ((Tf.dJ++a0)++[32])++cy iR))=c_ at fV ki ⊢;refine⟨_,Y,(by omega),λLi fK _ eR m4=>⟨yQ,Li,_,_,Y,Y,eR _ _ ki,m4,zZ (by simp only[df,gu];omega) (by omega),λyR afy=>?_⟩⟩;have jP:=aw.upd (o:=.lst (cy (((Tf.dJ++a0)++[32])++iR)++cy Tf.ht)) (fV.trans eR) afy;have lu:(av fK yR (.lst (cy (((Tf.dJ++a0)++[32])++iR)++cy Tf.ht))) yR=B (.lst (cy ((((Tf.dJ++a0)++[32])++iR)++Tf.ht))):=by rw[b0,vd (((Tf.dJ++a0)++[32])++iR)]
 generalize av fK yR (.lst (cy (((Tf.dJ++a0)++[32])++iR)++cy Tf.ht))=fm at jP lu ⊢;refine⟨_,Y,g,_,_,_,_,Y,jP _ _ aj.cf.obj,T.dm.1,T.pn,Y,aB,_,_,_,_,Y,jP _ _ kR,T.dk.1,T.MI,Y,yR,nl,_,_,Y,Y,lu,jP _ _ lz,zZ (by simp only[df,gu];omega) (by omega),λyS afz=>?_⟩;have pO:=aw.upd (o:=.lst (cy ((((Tf.dJ++a0)++[32])++iR)++Tf.ht)++cy r.name)) jP afz;have pw:(av fm yS (.lst (cy ((((Tf.dJ++a0)++[32])++iR)++Tf.ht)++cy r.name))) yS=B (.lst (cy (((((Tf.dJ++a0)++[32])++iR)++Tf.ht)++r.name))):=by rw[b0,vd ((((Tf.dJ++a0)++[32])++iR)++Tf.ht)]
 have O5:(((((Tf.dJ++a0)++[32])++iR)++Tf.ht)++r.name).length<=4000:=by simp only[df,gu];omega
 have O6:=T5 r a0 iR ⟨l,iL⟩;dsimp only at k O6 ⊢;generalize (((((Tf.dJ++a0)++[32])++iR)++Tf.ht)++r.name)=N at pw O5 O6;generalize av fm yS (.lst (cy ((((Tf.dJ++a0)++[32])++iR)++Tf.ht)++cy r.name))=pP at pO pw ⊢;have k6:pP bD=B (.lst (mL (iq r l))):=pO _ _ aj.k4;have b_:=c8.ef.g.b_;have k4:∀b∈iq r l,b.length<=30:=λb a0=>by
  unfold iq at a0;obtain⟨i,hi,rfl⟩:=fA.mp a0;have hi:=fR.mp hi;have fD:Tf.Row r l:=c8.fD;have e:l.take (i+1)=l.take i++[l[i]]:=by rw[tU,f7 hi];rfl
  have j1:=(fD.take (i+1)).last e;have hw:=j1.1.wf b_ (nE c8.ef);have:l.getD i (0,0)=l[i]:=by simp[A4,f7 hi]
  rw[this];exact NS b_ hw (p7 hw b_ j1.2)
 let dE:aS->aS:=λb=>b++[10]
 refine⟨⟨_,Y⟩,_,Y,g,_,_,_,_,Y,pO _ _ aj.cf.obj,T.dm.1,T.GC,Y,bD,Y,⟨_,bp.of k6⟩,λaf d2=>?_⟩;have kP:aw pP (av pP af (.lst [])):=aw.new d2;refine ux (K:=K) (a:=bD) (xs:=mL (iq r l)) (λj bc=>aw pP bc/\bc af=B (.lst (mL (((iq r l).take j).map dE)))) ⟨kP,b0⟩ (λj bc _ z=>bp.of (z.1 _ _ k6)) (λj v n' bX aR=>?_) λn' aR=>?_
 .obtain⟨aE,gN⟩:=aR;obtain⟨b,Yv,rfl⟩:∃b,(iq r l)[j]? =B b/\v=.str (cg b):=by unfold mL at bX;rw[fP]at bX;cases e:(iq r l)[j]? with|none=>rw[e]at bX;cases bX|some t=>rw[e]at bX;exact⟨t,Y,(gX bX).symm⟩
  have akH:=k4 b (mQ Yv);refine⟨Y,_,Y,_,_,Y,Y,?_,?_⟩
  .rw[show("\n" :a8)=cg [10]from by decide+kernel,fq,fq,gu];exact hl (gy (by omega))
  rw[show("\n" :a8)=cg [10]from by decide+kernel,gO];refine⟨_,gN,?_,λb o z=>?_,?_⟩
  .unfold mL;rw[cW,cW,k9,FP];exact gy (by omega)
  .rw[aN (cU z d2)];exact aE _ _ z
  rw[b0,take_snoc Yv,fH];unfold mL;rw[fH];rfl
 obtain⟨aE,gN⟩:=aR;have qU:(mL (iq r l)).length=(iq r l).length:=by unfold mL;rw[cW]
 rw[qU,j8]at gN;have afA:∀L:List aS,(∀b∈L,b.length<=30)->(((L.map dE).map cg).map (·.length)).sum<=L.length*31/\((L.map dE).flatten).length<=L.length*31:=λL dg=>by
  induction L with
  |nil=>simp
  |cons x L ih=>
   have ag:=dg x (by simp);have g4:=ih λb a0=>dg b (ez _ a0);have Yw:(dE x).length=x.length+1:=by show(x++[10]).length=_;simp
   constructor
   .simp only[i9,Ie,fq,Yw,fQ];have:=g4.1;simp only[ix]at this ⊢;omega
   simp only[i9,DB,df,Yw,fQ];have:=g4.2;omega
 have Yx:=afA (iq r l) k4;rw[FP]at Yx;refine⟨"",af,((iq r l).map dE).map cg,Y,Y,.inl (bp.of (gN.trans ?_)),?_,?_⟩
 .unfold mL;rw[ix,ix,ix];rfl
 .have:=Yx.1;rw[show("" :a8).length=0 from by decide+kernel];omega
 rw[show("" :a8)=cg []from by decide+kernel,X_,T1];obtain⟨hx,kO,ax,_⟩:=aj.cf.last;have lO:=pO.trans aE;have hw:=c8.fD.wf b_ (nE c8.ef);have HJ:=lO _ _ aj.cf.obj;have gT:=FU (FQ r ⟨l,iL⟩) (FR r ⟨l,iL⟩);refine⟨_,Y,_,Y,_,_,Y,Y,?_,?_⟩
 .rw[show("\n" :a8)=cg [10]from by decide+kernel,fq,fq,gu];exact hl (zH (by omega))
 rw[show("\n" :a8)=cg [10]from by decide+kernel,gO];refine⟨_,Y,g,_,_,_,_,Y,HJ,T.dm.1,T.pn,Y,_,Y,g,_,_,Y,HJ,Y,g,aB,aV,bA,bD,a_,a3,_,_,_,Y,HJ,lO _ _ aj.cf.iv,kO,_,Y,g,_,_,_,_,Y,HJ,T.dm.1,T.x5,Y,aB,r,hx.1,hx.2,_,l,iL,Y,aj.cf.kr.at.same lO,ax.keep λc u _ q=>lO c u q,c8.ef.g,hw.gM,c8.iL,_,_,Y,Y,?_,?_⟩
 .rw[fq,fq,df,gu];exact hl (zH (by omega))
 rw[gO];refine⟨_,Y,?_,λafB _ _ qT afC=>⟨yS,afB,_,_,Y,Y,qT _ _ (aE _ _ pw),afC,?_,λafD ta=>?_⟩⟩
 .simp only[df,gu];omega
 .refine zZ (by omega) ?_;simp only[df,gu];omega
 refine k afD _ ((lO.trans qT).free ta) (aw.upd (lO.trans qT) ta) ?_;rw[b0,<-vd N,O6]
structure r3 (a:b5) (H0:ak) (x aD:I) (b:aS) (m:Nat) (H:ak):Prop where
 c3:dc x H0 H
 cI:Hg.f9 a H x aD b m
section
variable{wp:I}{w:aS}{aj:Except Nat kL}
theorem r3.go(D:r3 a H0 x aD b m H)(s:dc x H H')(r:hI a H' x aD m')(hm:m'<=b.length):r3 a H0 x aD b m' H':=⟨D.c3.trans s,r,s _ _ (vg D.cI.1 D.cI.2.1) D.cI.2.1,hm⟩
theorem HK{f:eP->Except Nat kL}(D:r3 a H0 x aD b m H)(aY:aj=(eu w (cD b m)>>=f))(e:z=cg w)(aq:w.length<=1000)(ok:∀m' au,r3 a H0 x aD b m' au->dc x H au->aj=f (cD b m')->Q .bS au)(m7:∀k,aj=.error k->om a H0 x k E):Cz a [.ref x,.str z] H Q E:=
 Ha D.cI e aq (λm' h hm au c3 ah=>ok m' au (D.go c3 ah hm) c3 (aY.trans (ni h))) λk h a3 au c3 hd=>m7 k (aY.trans (lV h)) a3 au (D.c3.trans c3) hd
theorem afE(eo:Hg.f9 a H x aD b m)(hw:H wp=B (.lst (cy w)))(O:∀m',eu w (cD b m)=.ok (cD b m')->m'<=b.length->xf a H x aD .bS m' Q)(a5:∀k,eu w (cD b m)=.error k->om a H x k E):N9 a [.ref x,.ref wp] H Q E:=by
 have ax:=Fq w (cD b m);rw[show(cD b m).rest=b.drop m from Y]at ax;refine⟨x,aD,b,m,wp,w,Y,eo,hw,λar=>?_,λar=>?_⟩
 .rw[aZ ar,vh]at ax;have:=H9 ar;have aH:=eo.2.2;exact O _ ax (by rw[mP]at this;omega)
 rw[aL (by rw[ar];decide)]at ax;exact a5 _ ax
theorem afF{f:eP->Except Nat kL}(D:r3 a H0 x aD b m H)(hw:H wp=B (.lst (cy w)))(aY:aj=(eu w (cD b m)>>=f))(ok:∀m' au,r3 a H0 x aD b m' au->dc x H au->aj=f (cD b m')->Q .bS au)(m7:∀k,aj=.error k->om a H0 x k E):N9 a [.ref x,.ref wp] H Q E:=
 afE D.cI hw (λm' h hm au c3 ah=>ok m' au (D.go c3 ah hm) c3 (aY.trans (ni h))) λk h a3 au c3 hd=>m7 k (aY.trans (lV h)) a3 au (D.c3.trans c3) hd
theorem Yy{f:aS×eP->Except Nat kL}(D:r3 a H0 x aD b m H)(aY:aj=(qi (cD b m)>>=f))(ok:∀(nm:aS)(m':Nat) l au,r3 a H0 x aD b m' au->dc x H au->aj=f (nm,cD b m')->Q (.ref l) au)(m7:∀k,aj=.error k->om a H0 x k E):Nf a [.ref x] H Q E:=
 ⟨x,aD,b,m,Y,D.cI,λk N h l au _ c3 ah _=>ok _ _ l au (D.go c3 ah N.pl) c3 (aY.trans (ni h)),λh a3 au c3 hd=>m7 m (aY.trans (lV h)) a3 au (D.c3.trans c3) hd⟩
end
def afG(a:b5):bF:=λvs H Q E=>∃x aD b n aB nl r,vs=[.ref x,.ref aB]/\f9 a H x aD b n/\q' a H aB nl r/\(∀m H',uI r (cD b n)=.ok (cD b m)->r3 a H x aD b m H'->Q .bS H')/\(∀k,uI r (cD b n)=.error k->om a H x k E)
structure kT (x aB nl:I) (F:List I) (H H':ak):Prop where
 cF:∀c u,c≠x->c∉F->H c=B u->H' c=B u
 xt:∀u,H aB=B u->H' aB=B u
 xu:∀u,H nl=B u->H' nl=B u
theorem kT.Df(s:dc x H H')(dZ:aB≠x)(cS:nl≠x):kT x aB nl F H H':=⟨λc u n _ q=>s c u n q,λu q=>s _ _ dZ q,λu q=>s _ _ cS q⟩
theorem kT.ofM(s:ma aB nl F H H'):kT x aB nl F H H':=⟨λc u _ n q=>s.fr.cF c u n q,s.xt,s.xu⟩
theorem kT.trans(s:kT x aB nl F H ai)(t:kT x aB nl F ai au):kT x aB nl F H au:=⟨λc u dZ cS q=>t.cF c u dZ cS (s.cF c u dZ cS q),λu q=>t.xt u (s.xt u q),λu q=>t.xu u (s.xu u q)⟩
theorem aw.Dg(s:aw H0 H)(ag:H0 x=aa)(fe:∀c∈F,c=aB∨c=nl∨H0 c=aa)(t:kT x aB nl F H H'):aw H0 H':=λc u q=>by
 by_cases e:c∈F
 .obtain z|z|z:=fe c e
  .rw[z]at q ⊢;exact t.xt _ (s _ _ q)
  .rw[z]at q ⊢;exact t.xu _ (s _ _ q)
  rw[z]at q;cases q
 exact t.cF c u (cU q ag) e (s _ _ q)
def mM(o:Nat):List (Option vS):=if o=0 then[aa,B .hunters,B .king,B .drawn]else[aa]
def mN(r:eW)(l:List (Nat×Nat)):List aS:=(mM (r.overBy l)).map λe=>mW (r.winner ⟨l,e⟩) (r.overOf ⟨l,e⟩)
def O7(a:b5)(H:ak)(x aB nl:I)(F:List I)(n:Nat)(E:dN):Prop:=∀a3 H',kT x aB nl F H H'->H' a3=B (gm a3 [("place",.int (n:Int))])->E (.ref a.m1) (B a3) H'
def Yz(a:b5):bF:=λvs H Q E=>∃x aD b n g aB nl F k r l,vs=[.ref x,.ref g]/\f9 a H x aD b n/\fZ a H g aB nl F k ⟨r,⟨l,aa⟩⟩/\Tf.Inv ⟨r,⟨l,aa⟩⟩/\x∉F/\(∀(i:Nat) e w H',(mM (r.overBy l))[i]? =B e->(mN r l)[i]? =B w->dt w (b.drop n)=a9->(∀j u,j<i->(mN r l)[j]? =B u->dt u (b.drop n)=aJ)->kT x aB nl F H H'->hI a H' x aD (n+w.length)->fZ a H' g aB nl F k ⟨r,⟨l,e⟩⟩->Q .bS H')/\((∀u∈mN r l,dt u (b.drop n)=aJ)->O7 a H x aB nl F (n+mI (mN r l) (b.drop n)) E)
def YA(a:b5):bF:=λvs H Q E=>∃x aD b n g aB nl F k r l,vs=[.ref x,.ref g]/\f9 a H x aD b n/\fZ a H g aB nl F k ⟨r,⟨l,aa⟩⟩/\Tf.Inv ⟨r,⟨l,aa⟩⟩/\r.overBy l=0/\x∉F/\(∀c∈F,c≠aD∨c=nl)/\l.length<900/\k<=5000/\b.length<=1500/\(∀m H' hL t,r.readMove (r.after l) (ej (b.drop n))=.ok m->b.drop n=ej (b.drop n)++10::t->kT x aB nl F H H'->(∀c∈hL,c∈F∨H c=aa)->hI a H' x aD (n+((ej (b.drop n)).length+1))->fZ a H' g aB nl hL (k+1) ⟨r,⟨l++[m],aa⟩⟩->m∈r.moves (r.after l)->Q .bS H')/\(∀m,r.readMove (r.after l) (ej (b.drop n))=.ok m->b.drop n=ej (b.drop n)->O7 a H x aB nl F (n+(ej (b.drop n)).length) E)/\(∀p,r.readMove (r.after l) (ej (b.drop n))=.error p->O7 a H x aB nl F (n+max p (cc (b.drop n) [101,110])) E)
def YB(a:b5):bF:=λvs H Q E=>∃aB nl r aD b,vs=[.ref aB,.ref aD]/\H aD=B (.lst (cy b))/\q' a H aB nl r/\Tf.Right r/\b.length<=1500/\(∀y g H' hL,r.readGame b=.ok y->aw H H'->(∀c∈hL,c=aB∨c=nl∨H c=aa)->fZ a H' g aB nl hL 800 ⟨r,y⟩->Tf.Inv ⟨r,y⟩->y.moves.length<=750->Q (.ref g) H')/\(∀k,r.readGame b=.error k->CN a H k E)
theorem afH(T:Txt K a6 a):dK P w K a6 base (pd P w) 5 "read_names" ["reader","rules"] (afG a):=by
 refine T.aa7.kq a8y (λf b4 A _ s H _ Q E ah h=>?_);obtain⟨x,aD,b,n,aB,nl,r,rfl,eo,d1,cJ,bL⟩:=h;have aG:dn 3 (A.deeper (fB "read_names" (bo Ma) s.heap.objs.size f b4)):=ah.mono;refine⟨_,aC (e6 (dP (jw T) (J 0) T.cN.1 ah dW.passes (ao ee az))) (aC (e6 (g5 (H8 T) (J 0) T.cN.1 aG dW.passes)) (aC (e6 (dP (jw T) (J 0) T.cN.1 ah dW.passes (ao ee az))) (aC (e6 (g5 (H8 T) (J 0) T.cN.1 aG dW.passes)) (aC (e6 (dP (jw T) (J 0) T.cN.1 ah dW.passes (ao ee az))) (aC (e6 (dP (Na T) (J 0) T.cN.1 aG dW.passes (ao (bg (J 1) Y) az))) (aX (e6 (dP (jw T) (J 0) T.cN.1 ah dW.passes (ao ee az))))))))),?_⟩;obtain⟨⟨_,kR⟩,lz⟩:=d1;have D:r3 a H x aD b n H:=⟨dc.of (aw.refl H),eo⟩;have vk:aB≠x:=by obtain⟨d,z⟩:=eo.1;exact jK kR z (by show(15:Nat)≠2;decide)
 have O8:nl≠x:=vj eo.1 lz;have aY:uI r (cD b n)=uI r (cD b n):=rfl;conv at aY=>rhs;unfold uI
 obtain⟨a3,ag⟩:=id D.cI.1;refine⟨_,Y,x,_,_,Y,ag,Y,HK (w:=hn "game ") D aY (by decide+kernel) (by decide+kernel) (λm ai D _ aY=>?_) bL⟩;obtain⟨a3,ag⟩:=id D.cI.1;refine⟨_,Y,x,_,_,Y,ag,Y,?_⟩;unfold gc;simp only[hN];refine Yy D aY (λnm m iJ ai D _ aY=>?_) bL;obtain⟨a3,ag⟩:=id D.cI.1;refine⟨_,Y,x,_,_,Y,ag,Y,HK (w:=[32]) D aY (by decide+kernel) (by decide+kernel) (λm ai D _ aY=>?_) bL⟩;obtain⟨a3,ag⟩:=id D.cI.1;refine⟨_,Y,x,_,_,Y,ag,Y,?_⟩;simp only[hN];refine Yy D aY (λnm m iJ ai D _ aY=>?_) bL;obtain⟨a3,ag⟩:=id D.cI.1;refine⟨_,Y,x,_,_,Y,ag,Y,HK (w:=hn "\nrules ") D aY (by decide+kernel) (by decide+kernel) (λm ai D _ aY=>?_) bL⟩;obtain⟨a3,ag⟩:=id D.cI.1;refine⟨_,Y,x,_,_,Y,ag,Y,_,Y,aB,_,_,_,_,Y,D.c3 _ _ vk kR,T.dk.1,T.MI,Y,afF D (D.c3 _ _ O8 lz) aY (λm ai D _ aY=>?_) bL⟩;obtain⟨a3,ag⟩:=id D.cI.1;have afI:uI r (cD b n)=(eu [10] (cD b m)>>=λc=>.ok c):=by rw[aY];cases eu [10] (cD b m)<;>rfl
 exact⟨_,Y,x,_,_,Y,ag,Y,HK (w:=[10]) D afI (by decide+kernel) (by decide+kernel) (λm ai D _ aY=>cJ m ai aY D) bL⟩
theorem afJ(T:Txt K a6 a):dK P w K a6 base (pd P w) 4 "read_end" ["reader","game"] (Yz a):=by
 refine T.aa9.kq w_ (λf b4 A _ s H _ Q E ah h=>?_);obtain⟨x,aD,b,n,g,aB,nl,F,k,r,l,rfl,eo,fh,c8,YC,cJ,bL⟩:=h;have O:dn 1 (A.deeper (fB "read_end" (bo Mb) s.heap.objs.size f b4)):=ah.mono;refine⟨_,aC (cx (i:=2) w_.bh (g5 (xo T) (J 1) T.dm.1 O bw)) (aC (cx (i:=3) w_.bh (fv (ao AB az))) (aC (d3 (c' dz (bg (J 2) Y) (cK T.rR Y) (cq _)) (aX (cx (i:=3) w_.bh (fv (ao AB (ao (cK T.Gu Y) (ao (cK T.Wa Y) (ao (cK T.ME Y) az))))))) d8) (aC (cx (i:=4) w_.bh (dP (qW T) (J 0) T.cN.1 ah dW.passes (ao (sU (bY:=mw (O3 a) [] pQ (eL (ji K (dr 1) "rules") (eL (dr 2) (eL (dr 5) gc)))) Y w_.bh (nQ (J 3)) (o3 (own:=[("ended_by",5)]) Y) (λ_ _ _ _ _=>g_ (i:=5) w_.bh) (λ_ _ _ _ _=>qu) (λ_ _ _ _ _=>ct (Yu T) ah Y bw (ao (bg (J 1) Y) (ao (J 2) (ao (J 5) az))))) az))) (aX (e6 (dP (Yi T) (J 1) T.dm.1 O bw (ao (dV hD (J 3) (J 4) (λ_ _=>rfl)) az))))))),?_⟩;obtain⟨aV,bA,bD,a_,_,_,a3,_,aj,_,_⟩:=id fh;obtain⟨hx,kO,ft,_⟩:=aj.cf.last;obtain⟨⟨_,tK⟩,_⟩:=id ft;have hw:=c8.fD.wf c8.ef.g.b_ (nE c8.ef);obtain⟨⟨_,kR⟩,lz⟩:=id aj.cf.kr;refine⟨_,Y,g,_,_,Y,aj.cf.obj,Y,g,aB,aV,bA,bD,a_,a3,_,_,_,Y,aj.cf.obj,aj.cf.iv,kO,g7,λaO afK=>?_⟩;have s1:aw H (av H aO (.lst [.bS])):=aw.new afK;have YD:(av H aO (.lst [.bS])) aO=B (.lst [.bS]):=b0;generalize av H aO (.lst [.bS])=ai at s1 YD ⊢;refine⟨_,Y,hx.1,_,_,_,_,Y,s1 _ _ tK,T.ny.1,T.GB,Y,Y,_,Y,?_⟩;have akJ:(mM (r.overBy l)).length<=4:=by unfold mM;split<;>simp
 have rest:∀(gT:I)(au:ak),aw H au->au gT=B (.lst ((mM (r.overBy l)).map m9))->(nP (oP (n5 a.Reader "choice" (H6 K a) [] E (dr 0) (eL (wg (Qg K (dr 3)) (mr 5) R2 (mw (O3 a) [] pQ (eL (ji K (dr 1) "rules") (eL (dr 2) (eL (dr 5) gc)))) [5]) gc)) (mr 4)) (AG (n5 a.Game "leave" (Ye a) [] pQ (dr 1) (eL (pL (QL K) (dr 3) (dr 4)) gc)))) {c6:=λ_ H'=>Q .bS H',ic:=Q} [B (.ref x),B (.ref g),B (.ref hx.1),B (.ref gT),aa,aa] au:=λgT au s2 rA=>by
  have s7:=eo.same s2;obtain⟨_,hv⟩:=id s7.1;refine⟨_,Y,x,_,_,Y,hv,Y,_,Y,gT,Y,⟨_,bp.of rA⟩,λaf d2=>?_⟩;have kP:aw au (av au af (.lst [])):=aw.new d2;refine ux (K:=K) (a:=gT) (xs:=(mM (r.overBy l)).map m9) (λj bc=>aw au bc/\bc af=B (.lst (oo ((mN r l).take j)))) ⟨kP,b0⟩ (λj bc _ z=>bp.of (z.1 _ _ rA)) (λj v bc bX aR=>?_) λbc aR=>?_
  .obtain⟨aE,gN⟩:=aR;rw[fP]at bX;cases qV:(mM (r.overBy l))[j]? with
   |none=>rw[qV]at bX;cases bX
   |some e=>
    rw[qV]at bX;have bk:v=m9 e:=(gX bX).symm;subst bk;have fp:=s2.trans aE;have lq:e≠aa->r.overBy l=0:=λbV=>by
     unfold mM at qV;split at qV
     .assumption
     cases j with|zero=>cases qV;exact absurd Y bV|succ j=>simp at qV
    have N4:(mN r l)[j]? =B (mW (r.winner ⟨l,e⟩) (r.overOf ⟨l,e⟩)):=by unfold mN;rw[fP,qV];rfl
    refine⟨Y,_,Y,g,_,_,_,_,Y,fp _ _ aj.cf.obj,T.dm.1,T.pn,Y,_,Y,_,Y,aB,r,hx.1,hx.2,_,l,e,Y,aj.cf.kr.at.same fp,ft.keep (λc u _ q=>fp c u q),c8.ef.g,hw.gM,lq,_,gN,?_,λb o z=>?_,?_⟩
    .unfold oo;rw[cW,k9];unfold mN;rw[cW];exact gy (by omega)
    .rw[aN (cU z d2)];exact aE _ _ z
    rw[b0,take_snoc N4];unfold oo;rw[fH];rfl
  obtain⟨aE,gN⟩:=aR;rw[cW,lB (by unfold mN;rw[cW];exact cO _)]at gN;have fp:=s2.trans aE;refine⟨x,aD,b,n,.ref af,mN r l,Y,eo.same fp,.inr ⟨af,Y,gN⟩,λu bz=>?_,λi u hi ar bX cT mc vu=>?_,λip dT cT mc yY=>bL ip dT cT (kT.Df ((dc.of fp).trans mc) ?_ ?_) yY⟩
  .unfold mN at bz;obtain⟨e,_,rfl⟩:=fA.mp bz;have:=FU (FQ r ⟨l,e⟩) (FR r ⟨l,e⟩);omega
  .have vk:aB≠x:=jK (fp _ _ kR) (aE _ _ hv) (by show(15:Nat)≠2;decide);have O8:nl≠x:=vj (eo.same fp).1 (fp _ _ lz);have HL:∃e,(mM (r.overBy l))[i]? =B e:=by unfold mN at hi;rw[fP]at hi;cases q:(mM (r.overBy l))[i]? with|none=>rw[q]at hi;cases hi|some e=>exact⟨e,Y⟩
   obtain⟨e,HL⟩:=HL;have afL:gT≠x:=vj s7.1 rA;have afM:cT gT=B (.lst ((mM (r.overBy l)).map m9)):=mc _ _ afL (aE _ _ rA);have Dh:fZ a cT g aB nl F k ⟨r,⟨l,aa⟩⟩:=fh.frame (S:=[x]) (λc u n q=>mc c u (λz=>n (by simp[z])) (fp _ _ q)) (λc a7 z=>YC (by rw[<-jL.mp z];exact a7));obtain⟨_,_,_,_,_,Di⟩:=Dh.obj;refine⟨_,Y,g,_,_,Y,Di,Y,_,Y,_,Y,gT,_,_,m9 e,Y,Y,bp.of afM,gr (by rw[fP,HL];rfl),g,aB,nl,F,k,_,e,Y,Dh,λc_ fb O9=>?_⟩;refine cJ i e u c_ HL hi ar bX ((kT.Df ((dc.of fp).trans mc) vk O8).trans (kT.ofM fb)) ?_ O9;obtain⟨vb,BK⟩:=vu;exact⟨vb,fb.fr.cF _ _ YC BK⟩
  .exact jK (fp _ _ kR) (aE _ _ hv) (by show(15:Nat)≠2;decide)
  exact vj (eo.same fp).1 (fp _ _ lz)
 by_cases b9:r.overBy l=0
 .refine eJ (by show decide (V.int ((r.overBy l:Nat):Int)=V.int 0)=a9;rw[b9];decide) ⟨(by show 4<=cM;decide),λaT afN=>?_⟩;refine rest aT _ (aw.upd s1 afN) ?_;rw[b0,b9];rfl
 refine e7 (λz=>b9 (by have z:=V.int.inj (e3 z);have z:((r.overBy l:Nat):Int)=0:=z;omega)) ?_;refine rest aO _ s1 ?_;rw[YD];unfold mM;rw[aL b9];rfl
theorem YH(r:eW)(l:List (Nat×Nat))(h:r.overBy l=0):(mM (r.overBy l)).map (λe=>(mW (r.winner ⟨l,e⟩) (r.overOf ⟨l,e⟩),e))=IY:=by
 have o:∀e,r.overOf ⟨l,e⟩=PL e:=λe=>by unfold y6;dsimp only;rw[aL (λz=>z h)]
 have w:∀e,r.winner ⟨l,e⟩=match e with|none=>Tafl.OPEN|some .hunters=>1|some .king=>0|some .drawn=>Tafl.DRAWN:=λe=>by unfold PK;rw[o];cases e with|none=>rfl|some y=>cases y<;>rfl
 rw[h];unfold mM IY;rw[aZ Y];simp only[i9,vD,o,w,PL]
theorem Oa(r:eW)(l:List (Nat×Nat))(h:r.overBy l=0):mN r l=IY.map a01:=by rw[<-YH r l h,ix];rfl
theorem afO{L:List (aS×Option vS)}{x:aS×Option vS}(h:L[i]? =B x)(ar:dt x.1 b=a9)(bX:∀j u,j<i->(L.map a01)[j]? =B u->dt u b=aJ):(L.find? λ(x:aS×Option vS)=>dt x.1 b)=B x:=by rw[ahT];obtain⟨bx,cw⟩:=ec.mp h;refine⟨ar,i,bx,cw,λj xj=>?_⟩;have:=bX j L[j].1 xj (by rw[fP,f7 (by omega)];rfl);rw[this];rfl
theorem afP(T:Txt K a6 a)(gL:dK P w K a6 base (mC 2 P w) 10 "read_move" ["reader","game"] (YA a)):dK P w K a6 base (mC 2 P w) 11 "read_game" ["rules","source"] (YB a):=by
 refine T.aa6.kq Mo (λf b4 A _ s H _ Q E ah h=>?_);obtain⟨aB,nl,r,aD,b,rfl,fg,d1,R,HM,cJ,bL⟩:=h;have a5:dn 2 (A.deeper (fB "read_game" (bo zf) s.heap.objs.size f b4)):=ah.mono;have aG:dn 3 (A.deeper (fB "read_game" (bo zf) s.heap.objs.size f b4)):=ah.mono;have cG:dn 4 (A.deeper (fB "read_game" (bo zf) s.heap.objs.size f b4)):=ah.mono;have eZ:dn 5 (A.deeper (fB "read_game" (bo zf) s.heap.objs.size f b4)):=ah.mono;refine⟨_,aC (cx (i:=2) Mo.bh (pj (N7 T) a5 Y T.cN.2 bw (ao (J 1) az))) (aC (cx (i:=3) Mo.bh (pj (Ym T) ah Y T.dm.2 bw (ao (J 0) az))) (aC (e6 (ct (afH T) eZ Y dW.passes (ao (J 2) (ao (J 0) az)))) (aC (w0 Ai (jc.pt (nO (c' dz (g5 (D9 T) (J 3) T.dm.1 a5 bw) (cK T.rR Y) (cq _)) (pI (c' oS (dP (WY T) (J 2) T.cN.1 a5 bw (ao (eU T.MH Y) az)) (fc ER Y T.hU ia (ao (eU T.MH Y) az)) (cq _))))) (aX (e6 (ct gL ah Y dW.passes (ao (J 2) (ao (J 3) az)))))) (aC (e6 (ct (afJ T) cG Y dW.passes (ao (J 2) (ao (J 3) az)))) (aC (e6 (g5 (N8 T) (J 2) T.cN.1 aG dW.passes)) (aX (bG (J 3)))))))),?_⟩;obtain⟨⟨_,kR⟩,lz⟩:=id d1;have b_:=R.g.b_;refine⟨_,Y,λx a3 mB o9 bV=>⟨x,a3,aD,Y,b0,Y,?_⟩⟩;rw[iT];obtain⟨s1,Dj⟩:=W_ (a:=a) fg mB o9 bV;generalize av (av H a3 (.own x)) x (.ins a.Reader a3 (rV aD 0))=ai at s1 Dj ⊢;refine⟨_,Y,λg e' q6 Dk Ob=>⟨g,e',aB,nl,r,Y,b0,?_,R,λau vv f2 Oc YI=>⟨Y,?_⟩⟩⟩
 .exact d1.same (s1.trans (aw.upd (aw.new Dk) (by rw[aN (ed Ob)];exact q6)))
 have eX:aw ai (av (av ai e' (.own g)) g (.ins a.Game e' [])):=aw.upd (aw.new Dk) (by rw[aN (ed Ob)];exact q6);have px:aw ai au:=λc u q=>f2.cF _ _ (by simp only[jL];exact cU q q6) (eX _ _ q);have s2:aw H au:=s1.trans px;have afQ:∀c∈vv,c=aB∨c=nl∨H c=aa:=λc a7=>by
  obtain z|z|z|z:=Oc c a7
  .rw[z];exact .inr (.inr (s1.free q6))
  .exact .inl z
  .exact .inr (.inl z)
  exact .inr (.inr (s1.free (eX.free z)))
 obtain⟨_,lW⟩:=id Dj.1;have YJ:x∉vv:=λa7=>by
  obtain z|z|z|z:=Oc x a7
  .rw[z]at lW;rw[lW]at q6;cases q6
  .exact jK (s1 _ _ kR) lW (by show(15:Nat)≠2;decide) z.symm
  .exact vj Dj.1 (s1 _ _ lz) z.symm
  rw[eX _ _ lW]at z;cases z
 have s7:=Dj.same px;clear f2 eX Oc q6 Dk Ob o9 bV;have aY:=a6o (r:=r) b;rw[show(⟨b,0⟩:eP)=cD b 0 from Y]at aY;refine⟨_,Y,_,Y,x,aD,b,0,aB,nl,r,Y,s7,d1.same s2,λm bc aH dG=>?_,λk aA dT bc c3 hd=>bL k (aY.trans (lV aA)) dT bc (aw.nD s2 mB c3) hd⟩;have aY:=aY.trans (ni aH);have afR:∀{F:List I},x∉F->∀c∈F,c∉[x]:=fun{F} n c a7 z=>n (by rw[<-jL.mp z];exact a7);have afS:fZ a bc g aB nl vv 1 ⟨r,a10⟩:=YI.frame (S:=[x]) (λc u n q=>dG.c3 c u (λz=>n (by simp[z])) q) (afR YJ);have bE:aw H bc:=aw.nD s2 mB dG.c3;refine AL (λaM H'=>aM=[B (.ref aB),B (.ref aD),B (.ref x),B (.ref g)]/\∃l n F,aw H H'/\hI a H' x aD n/\n<=b.length/\fZ a H' g aB nl F (l.length+1) ⟨r,⟨l,aa⟩⟩/\Tf.Row r l/\x∉F/\(∀c∈F,c=aB∨c=nl∨H c=aa)/\2*l.length<=n/\l.length<=r.limit/\r.readGame b=(pb r (r.limit+2-l.length) l (cD b n)>>=λx=>if x.2.rest=[]then .ok x.1 else .error x.2.at_)) (λ_ H'=>((b.length:Int)-kQ H' x).toNat)
  ⟨Y,[],m,vv,bE,dG.cI.1,dG.cI.2.2,afS,Tf.Row.nil,YJ,afQ,ek _,ek _,aY⟩ (λaM H' bK=>?_) (λaM H' xb xc uL h=>?_)
 .obtain⟨rfl,l,n,F,s4,vu,afT,fh,fD,vw,vx,_,_,aY⟩:=bK;have c8:Tf.Inv ⟨r,⟨l,aa⟩⟩:=⟨R,fD,λz=>absurd Y z⟩;have hw:=fD.wf b_ (nE R);have Od:f9 a H' x aD b n:=⟨vu,s4 _ _ fg,afT⟩;obtain⟨_,_,_,_,_,Di⟩:=fh.obj;obtain⟨_,z_⟩:=id vu;have n_:∀(c_:ak),aw H' c_->(r.overBy l≠0∨dt [101,110] (b.drop n)=a9)->(nP (AG (mw (Yz a) [] E (eL (dr 2) (eL (dr 3) gc)))) (nP (AG (n5 a.Reader "finish" (N6 a) [] E (dr 2) gc)) (oM (dr 3)))) {c6:=λ_ H'=>Q .bS H',ic:=Q} [B (.ref aB),B (.ref aD),B (.ref x),B (.ref g)] c_:=λc_ fV ve=>by
   have xv:=s4.trans fV;have hf:r.limit+2-l.length=(r.limit+1-l.length)+1:=by omega
   rw[hf]at aY;have fin:∀e vy (fK:ak),vy<=b.length->aw H fK->hI a fK x aD vy->fZ a fK g aB nl F (l.length+1) ⟨r,⟨l,e⟩⟩->(e≠aa->r.overBy l=0)->pb r ((r.limit+1-l.length)+1) l (cD b n)=.ok (⟨l,e⟩,cD b vy)->(nP (AG (n5 a.Reader "finish" (N6 a) [] E (dr 2) gc)) (oM (dr 3))) {c6:=λ_ H'=>Q .bS H',ic:=Q} [B (.ref aB),B (.ref aD),B (.ref x),B (.ref g)] fK:=λe vy fK Oe eR xw Dl lq za=>by
    have aY:=aY.trans (ni za);obtain⟨_,afV⟩:=id xw;have aY:r.readGame b=if b.drop vy=[]then .ok ⟨l,e⟩else .error vy:=aY
    refine⟨_,Y,x,_,_,Y,afV,Y,x,aD,b,vy,Y,⟨xw,eR _ _ fg,Oe⟩,λhg=>⟨_,Y,?_⟩,λ_ dT fm c3 hd=>bL vy ?_ dT fm (aw.nD eR mB c3) hd⟩
    .rw[aZ (Dz hg)]at aY;exact cJ ⟨l,e⟩ g fK F aY eR vx (Dl.less (by omega)) ⟨R,fD,lq⟩ (by show l.length<=750;omega)
    rw[aY,aL];intro z;have:=f_ tR z;rw[mP]at this;simp at this;omega
   refine⟨_,Y,_,Y,x,aD,b,n,g,aB,nl,F,l.length+1,r,l,Y,Od.same fV,fh.same fV,c8,vw,λi e w fK aF Of ar bX fr xw Dl=>?_,λip dT fK fr hd=>bL _ ?_ dT fK (aw.Dg xv mB vx fr) hd⟩
   .have eR:=aw.Dg xv mB vx fr;have hg:=H9 ar;rw[mP]at hg;have Oe:n+w.length<=b.length:=by omega
    have lq:e≠aa->r.overBy l=0:=λbV=>by
     unfold mM at aF;split at aF
     .assumption
     cases i with|zero=>cases aF;exact absurd Y bV|succ j=>simp at aF
    have YK:w=mW (r.winner ⟨l,e⟩) (r.overOf ⟨l,e⟩):=by unfold mN at Of;rw[fP,aF]at Of;exact(gX Of).symm
    refine fin e (n+w.length) fK Oe eR xw Dl lq ?_;by_cases b9:r.overBy l=0
    .rw[Te b_ hw b9 (ve.resolve_left (λz=>z b9))];have aU:=YH r l b9;have hi:IY[i]? =B (w,e):=by rw[<-aU,fP,aF,YK];rfl
     have afW:=afO (b:=b.drop n) hi ar (λj u xj bz=>bX j u xj (by rw[Oa r l b9];exact bz));rw[show(cD b n).rest=b.drop n from Y,afW];dsimp only;rw[vh]
    have e0:e=aa:=by cases e with|none=>rfl|some y=>exact absurd (lq (by simp)) b9
    subst e0;rw[Td b9,<-YK,aZ (by rw[show(cD b n).rest=b.drop n from Y];exact ar),vh]
   refine aY.trans (lV ?_);by_cases b9:r.overBy l=0
   .rw[Te b_ hw b9 (ve.resolve_left (λz=>z b9))];have aH:(IY.find? λ(x:aS×Option vS)=>dt x.1 (b.drop n))=aa:=xE.mpr λy bl z=>by have:=ip y.1 (by rw[Oa r l b9];exact ZN bl);rw[this]at z;cases z
    rw[show(cD b n).rest=b.drop n from Y,aH];dsimp only;rw[Oa r l b9];unfold mI;rw[ix];rfl
   have sM:mN r l=[mW (r.winner ⟨l,aa⟩) (r.overOf ⟨l,aa⟩)]:=by unfold mN mM;rw[aL b9];rfl
   rw[Td b9,aL (by rw[show(cD b n).rest=b.drop n from Y,ip _ (by rw[sM];simp)];decide),sM];unfold mI;simp;rfl
  refine⟨_,Y,g,_,_,Y,Di,Y,g,aB,nl,F,_,_,Y,fh,c8,Y,_,Y,?_⟩;rw[a5R Y];dsimp only;by_cases b9:r.overBy l=0
  .refine eJ (by rw[b9];decide) ⟨_,Y,x,_,_,Y,z_,Y,x,aD,b,n,[101,110],?_,Od,(by decide),λc_ fV=>⟨_,Y,(by decide+kernel),_,_,Y,Y,_,Y,?_⟩⟩
   .rw[show("en" :a8)=cg [101,110]from by decide+kernel];rfl
   rw[show("en" :a8).length=2 from by decide+kernel];have RB:l.length<r.limit:=by
    refine aid λz=>?_;unfold E8 at b9;dsimp only at b9;split at b9
    .contradiction
    split at b9
    .cases b9
    first|cases b9|(split at b9<;>first|cases b9|omega)|omega
   by_cases lq:dt [101,110] (b.drop n)=a9
   .have a7:=(pa _ _).mp lq;exact e7 (by rw[a7];decide) (n_ c_ fV (.inr lq))
   have bV:cc (b.drop n) [101,110]≠2:=λz=>lq ((pa _ _).mpr z);have hg:=yO (b.drop n) [101,110];have hg:cc (b.drop n) [101,110]<=2:=hg;refine eJ (eE (by show((cc (b.drop n) [101,110]:Nat):Int)<((2:Nat):Int);omega)) ?_;have hf:r.limit+2-l.length=(r.limit+2-(l.length+1))+1:=by omega
   rw[hf]at aY;have xv:=s4.trans fV;have lq:dt [101,110] (b.drop n)=aJ:=nK lq;refine⟨_,Y,_,Y,x,aD,b,n,g,aB,nl,F,l.length+1,r,l,Y,Od.same fV,fh.same fV,c8,b9,vw,λc a7=>?_,(by omega),(by omega),HM,λkU fK afX t rS yw fr YL xw Dl sP=>?_,λkU rS yw dT fK fr hd=>bL _ (aY.trans (lV (a6m (c:=cD b n) b_ hw b9 lq rS yw))) dT fK (aw.Dg xv mB vx fr) hd,λp rS dT fK fr hd=>bL _ (aY.trans (lV (a6n (c:=cD b n) b_ hw b9 lq rS))) dT fK (aw.Dg xv mB vx fr) hd⟩
   .obtain z|z|z:=vx c a7
    .exact .inl λq=>eV fg kR (by rw[<-z,q])
    .exact .inr z
    exact .inl λq=>by rw[q,fg]at z;cases z
   have eR:=aw.Dg xv mB vx fr;have za:=a6l (c:=cD b n) (f:=r.limit+2-(l.length+1)) b_ hw b9 rS yw;rw[za,vh]at aY;have afY:n+((ej (b.drop n)).length+1)<=b.length:=by have:=f_ tR yw;rw[mP,df,fQ]at this;omega
   have k6:1<=(ej (b.drop n)).length:=by
    have e:r.moveLine (r.after l) kU=ej (b.drop n):=by
     unfold E9 at rS;split at rS
     .next m' aQ=>cases rS;simpa using OY aQ
     cases rS
    rw[<-e];exact Tb _ _
   have gT:(l++[kU]).length=l.length+1:=by simp
   refine⟨⟨Y,l++[kU],n+((ej (b.drop n)).length+1),afX,eR,xw,afY,by rw[gT];exact Dl,Tf.Row.snoc fD sP,λa7=>?_,λc a7=>?_,by rw[gT];omega,by rw[gT];omega,by rw[gT];exact aY⟩,?_⟩
   .obtain z|z:=YL x a7
    .exact vw z
    rw[fV _ _ z_]at z;cases z
   .obtain z|z:=YL c a7
    .exact vx c z
    exact .inr (.inr (xv.free z))
   have aO:kQ H' x=(n:Int):=zK vu;have aT:kQ fK x=((n+((ej (b.drop n)).length+1):Nat):Int):=zK xw;show((b.length:Int)-kQ fK x).toNat<((b.length:Int)-kQ H' x).toNat;rw[aO,aT];omega
  refine e7 (λz=>b9 (by have z:=V.int.inj (e3 z);have z:((r.overBy l:Nat):Int)=0:=z;omega)) (gz (n_ H' (aw.refl _) (.inl b9)))
 refine Nd (λG H Q e5 m h=>?_) (λG H Q e5 m h=>?_) aM H' xb xc uL h
 .obtain⟨u,e,g',d',gZ,aO,aT,dX,g2,afZ,ag0,vv,cS,gw,hF,ki,m4,lu,q,pw,h⟩:=h;exact⟨u,e,g',d',gZ,aO,aT,dX,g2,afZ,ag0,vv,cS,gw,hF,ki,m4,lu,q,pw,m _ _ h⟩
 obtain⟨u,e,eN,d',gZ,aO,aT,dX,gw,s2,b2,cS,oI,hF,ki,m4,h⟩:=h;refine⟨u,e,eN,d',gZ,aO,aT,dX,gw,s2,b2,cS,oI,hF,ki,m4,λH' aE=>?_⟩;obtain⟨z,lu,pw,i,j,qU,xi,q,CD,h⟩:=h H' aE;exact⟨z,lu,pw,i,j,qU,xi,q,CD,m _ _ h⟩
def HN(P:bQ)(w:bI)(K:bj)(a6:a8->Option ae)(base:br)(k:Nat)(x:a8)(aK:List a8)(sp:bF):Prop:=∃f fd,a6 x=B (.ref f)/\zc P w K a6 base k f fd aK sp/\Binds K fd aK []/\nH K (.ref f)=a9
def Og(P:bQ)(w:bI)(K:bj)(a6:a8->Option ae)(base:br)(k:Nat)(C:I)(m:a8)(aK:List a8)(sp:bF):Prop:=∃f fd,uk K C m f/\zc P w K a6 base k f fd aK sp/\Binds K fd aK []
abbrev YM(P:bQ)(w:bI)(K:bj)(a6:a8->Option ae)(base:br)(N:List a8)(cm:a8)(st:bH)(k:Nat)(sp:bF):Prop:=
 ∀(f:I)(b4:ae)(A:d9)(e0:I)(outer:List eB)(s:ay)(H:ak)(vs:List V)(Q:cR)(E:dN),j' k (A.deeper (fB cm (bo st) s.heap.objs.size f b4))->(wY P w K a6 base N cm (bo st) f b4 A outer s H E).A.handled=B (.ref e0)->HeldAt e0 H->sp vs H Q E->∃t,ie (wY P w K a6 base N cm (bo st) f b4 A outer s H E) (lP st) t/\t {c6:=λ_ H'=>Q .bS H',ic:=Q} (start N vs) H
section
variable{x m:a8}
theorem Laid.HO(L:Laid K a6 x st)(S:bZ N aK (bo st))(a0:YM P w K a6 base N x st k sp)(d:ti sp x x st aK:=by exact{}):HN P w K a6 base (k+1) x aK sp:=
 let⟨f,fd,hm,F⟩:=L;⟨f,fd,hm,Un F S d.len λb4 A e0 outer s H vs Q E ah bU hd h=>a0 f b4 A e0 outer s H vs Q E ah bU hd h,F.binds d.bd,F.dH⟩
theorem fx.HO(L:fx K C m cm st)(S:bZ N aK (bo st))(a0:YM P w K a6 base N cm st k sp)(d:ti sp m cm st aK:=by exact{}):Og P w K a6 base (k+1) C m aK sp:=
 let⟨f,fd,hm,F⟩:=L;⟨f,fd,hm,Un F S d.len λb4 A e0 outer s H vs Q E ah bU hd h=>a0 f b4 A e0 outer s H vs Q E ah bU hd h,F.binds d.bd⟩
variable{e0:I}{p fo:Pos}{o:bP}{c0:b'}{t:gE}
theorem YN(af:HN X.prog X.w X.K X.a6 X.base k x aK sp)(ah:j' k X.A)(bU:X.A.handled=B (.ref e0))(aI:hA X x)(bf:hz X (e::b7) t)(gd:kF x:=by decide)(aF:nY X e b7:=by rfl)(eF:l5 X pos b7:=by rfl):
  bT X (.Call (.Name x p) (e::b7) [] pos) (mw (zd e0 sp) [] E t):=let⟨f,fd,hm,F,a0,aA⟩:=af;a8f F ah bU aI hm aA a0 bf gd aF eF
theorem ag1{pl:hQ Bool}(af:Og X.prog X.w X.K X.a6 X.base k C m aK sp)(aF:bT X o c0)(c:ij X.K C)(ah:j' k X.A)(bU:X.A.handled=B (.ref e0))(bf:hz X (e::b7) t)(ft:fC (e::b7) X.env=(aJ,eval e X.env)::fC b7 X.env:=by rfl)(eF:l5 X pos b7:=by rfl)(ba:eval (.Call (.Attribute o m fo) (e::b7) [] pos) X.env=(do
   let fJ <-eval o X.env
   u3 fo.atName
   let(f,first) <-rd [fJ] (vO fJ m pl)
   xY pos f first (lD pos (fC (e::b7) X.env)) (tZ pos (u0 [] X.env))):=by rfl):
  bT X (.Call (.Attribute o m fo) (e::b7) [] pos) (n5 C m (zd e0 sp) [] E c0 t):=let⟨f,fd,hm,F,a0⟩:=af;a8g aF c hm F ah bU a0 bf ft eF ba
end
theorem ag2{e0 a b:I}{ys:List V}{g:gR}{cu:er}{af:Ends}(Pv:Nat->L2.St->ak->Prop)(b9:Pv 0 G H)(aq:∀i G H,Pv i G H->(bp K H a xs/\bp K H b ys)/\HeldAt e0 H)(ax:∀i x y G H,xs[i]? =B x->ys[i]? =B y->Pv i G H->∀T,H T=aa->g (.ref T) G (av H T (.tup [x,y])) λcP au=>cu {af with c6:=Pv (i+1),en:=Pv (i+1),gD:=af.c6} cP au)(hd:∀i G H,i<=xs.length->i<=ys.length->(i=xs.length∨i=ys.length)->Pv i G H->af.c6 G H):∃W:Nat->Nat->L2.St->ak->Prop,(∃m,W 0 m G H)/\∀i m G H,W i m G H->((tf e0 (sW K a b)).stop i H/\af.c6 G H)∨((tf e0 (sW K a b)).go i H/\∃N:L2.St->ak->Prop,(∀aM H',N aM H'->∃m',m'<m/\W (i+1) m' aM H')/\∀x H',(tf e0 (sW K a b)).jO i H x H'->g x G H' λcP au=>cu {af with c6:=N,en:=N,gD:=af.c6} cP au):=by
 refine⟨λi m G H=>m=xs.length-i/\i<=xs.length/\i<=ys.length/\Pv i G H,⟨xs.length,by simp,ek _,ek _,b9⟩,?_⟩;rintro i m G H ⟨rfl,hi,uS,p⟩;obtain⟨⟨q,cw⟩,h⟩:=aq i G H p;by_cases c:i<xs.length/\i<ys.length
 .refine .inr ⟨⟨xs,ys,xs[i],ys[i],q,cw,f7 c.1,f7 c.2⟩,Pv (i+1),λaM H' fM=>⟨_,by omega,Y,c.1,c.2,fM⟩,λv H' bl=>?_⟩;obtain⟨T,x,y,rfl,dp,rfl,ag,bl⟩:=bl;exact ax i x y G H (ag xs q) (bl ys cw) p T dp
 exact .inl ⟨⟨⟨xs,ys,q,cw,by omega⟩,h⟩,hd i G H hi uS (by omega) p⟩
theorem ag3{e0:I}{x:a8}{g:gR}{tt:TT}{bY:b'}{vs:List Nat}{af:I}{Qd:ak->Prop}(Pv:Nat->ak->Prop)(b9:Pv 0 (av ai af (.lst [])))(ax:∀i c H,x.cps[i]? =B c->Pv i H->g (.str ⟨#[c]⟩) (eT G vs) H λcP au=>eT cP vs=eT G vs/\tt cP au λb bc=>if b=a9 then bY cP bc λy cT=>∃bM,cT af=B (.lst bM)/\bM.length<cM/\Pv (i+1) (av cT af (.lst (bM++[y])))else Pv (i+1) bc)(hd:∀H,Pv x.cps.size H->HeldAt e0 H/\Qd H):∃W:Nat->Nat->ak->Prop,(∃m,W 0 m (av ai af (.lst [])))/\∀i m H,W i m H->((tf e0 (o_ x)).stop i H/\Qd H)∨((tf e0 (o_ x)).go i H/\∃i4:ak->Prop,(∀H',i4 H'->∃m',m'<m/\W (i+1) m' H')/\∀v H',(tf e0 (o_ x)).jO i H v H'->g v (eT G vs) H' λcP au=>eT cP vs=eT G vs/\tt cP au λb bc=>if b=a9 then bY cP bc λy cT=>∃bM,cT af=B (.lst bM)/\bM.length<cM/\i4 (av cT af (.lst (bM++[y])))else i4 bc):=by obtain⟨W,ig,ax⟩:=U0 (Qd:=λH=>HeldAt e0 H/\Qd H) Pv b9 ax hd;exact⟨W,ig,λi m H' z=>(ax i m H' z).imp (λ⟨p,q,r⟩=>⟨⟨p,q⟩,r⟩) id⟩
def ag4:bF:=λvs H Q E=>∃w,vs=[.str (cg w)]/\(cg w).cps.all (·<128)=a9/\w.length<=100000/\∀l H',H l=aa->aw H H'->H' l=B (.lst (cy w))->Q (.ref l) H'
def YO(a:b5):bF:=λvs H Q _=>∃x aD b n w,vs=[.ref x,.str (cg w)]/\(cg w).cps.all (·<128)=a9/\f9 a H x aD b n/\w.length<=1000/\∀H',aw H H'->Q (.int ((cc (b.drop n) w:Nat):Int)) H'
theorem ag5(T:Txt K a6 a):HN P w K a6 base 1 "bytes_of" ["signs"] ag4:=by
 refine T.Wn.HO zk (λf _ A _ _ s H _ Q E _ bU hd h=>?_);obtain⟨wd,rfl,Oh,_,k⟩:=h;refine⟨_,aX (bG (a86 bU zk.bh (a8e (J 0)) (o3 (own:=[("sign",1)]) Y) (λ_ _ _ _ _=>g_ (i:=1) zk.bh) (λ_ _ _ _ _=>qu) (λ_ _ _ _ _=>fc sE Y T.tq vF (ao (J 1) az)))),_,Y,cg wd,Y,Oh,λaf d2=>ag3 (x:=cg wd) (λj H'=>aw H H'/\H' af=B (.lst (cy (wd.take j)))) ⟨aw.new d2,b0⟩ (λj c H' bX aR=>?_) λH' aR=>?_⟩
 .obtain⟨aE,gN⟩:=aR;obtain⟨y,bl,rfl⟩:=WS bX;refine⟨Y,_,Y,_,Y,Y,_,gN,?_,λb o z=>?_,?_⟩
  .rw[iu,k9];exact zH (by omega)
  .rw[aN (cU z d2)];exact aE _ _ z
  rw[b0,take_snoc bl,vd];rfl
 obtain⟨aE,gN⟩:=aR;rw[WR,j8]at gN;exact⟨hd.mono aE,k af H' d2 aE gN⟩
theorem ag6(T:Txt K a6 a):HN P w K a6 base 1 "agreed" ["source","place","row"] WT:=by
 refine T.Wo.HO rP (λf _ A e0 _ s H _ Q E _ bU hd h=>?_);obtain⟨p,b,n,wp,wd,rfl,ar,q0,k⟩:=h;refine⟨_,aC (cx (i:=3) rP.bh cb) (aC (a84 oz bU (a8b Y T.Wt (ao (sL uq (J 0) (n7 (J 1)) (n7 (da nT (J 1) (fc i' Y T.hU ia (ao (J 2) az))))) (ao (J 2) az))) (a88 bU (yj (g_ (i:=4) rP.bh) (yj (g_ (i:=5) rP.bh) Ji))) (aC (d3 (c' nW (J 4) (J 5) (cq _)) (aX (bG (J 3))) d8) (aX (v' (i:=3) rP.bh Y (sg Y) cb EB)))) (aX (bG (J 3)))),_,Y,_,Y,_,Y,_,Y,_,Y,wp,_,Y,.inl (bp.of q0),?_⟩;rw[iu];refine⟨_,_,Y,Y,_,Y,p,_,Y,bp.of ar,λl aq=>⟨_,Y,l,wp,cy ((b.drop n).take wd.length),cy wd,Y,bp.of ?_,bp.of ?_,ag2 (e0:=e0) (xs:=cy ((b.drop n).take wd.length)) (ys:=cy wd) (λi aM H'=>∃g6 fy,aM=[B (.ref p),B (.int (n:Int)),B (.ref wp),B (.int ((i:Nat):Int)),g6,fy]/\aw H H'/\H' l=B (.lst (cy ((b.drop n).take wd.length)))/\(b.drop n).take i=wd.take i/\i<=(b.drop n).length/\i<=wd.length) ⟨aa,aa,Y,aw.new aq,?_,Y,ek _,ek _⟩ (λi aM H' bK=>?_) (λi x c aM H' hi a7 bK N dD=>?_) λi aM H' _ _ ve bK=>?_⟩⟩
 .rw[b0,zG]
 .rw[aN (cU q0 aq)];exact q0
 .rw[b0,zG]
 .obtain⟨g6,fy,rfl,aE,O,_⟩:=bK;exact⟨⟨bp.of O,bp.of (aE _ _ q0)⟩,hd.mono aE⟩
 .obtain⟨g6,fy,rfl,aE,O,ba,gn,hc⟩:=bK;obtain⟨eN,jW,rfl⟩:=H4 hi;obtain⟨y,bl,rfl⟩:=H4 a7;have a0:(b.drop n)[i]? =B eN:=by
   rw[ahX]at jW;split at jW
   .exact jW
   cases jW
  refine⟨hd.mono (aw.upd aE dD),N,_,Y,dq.of b0,Y,_,_,Y,_,_,Y,Y,_,Y,_,Y,Y,_,Y,?_⟩;have eI:aw H (av H' N (.tup [.int (eN.toNat:Int),.int (y.toNat:Int)])):=aw.upd aE dD;by_cases e:eN=y
  .subst e;refine e7 (by simp) ?_;refine⟨_,Y,_,_,Y,Y,B (.int (eN.toNat:Int)),B (.int (eN.toNat:Int)),?_,eI,?_,Sx ba a0 bl,?_,?_⟩
   .rfl
   .rw[aN (cU O dD)];exact O
   .exact(ec.mp a0).1
   exact(ec.mp bl).1
  refine eJ ?_ ⟨_,Y,?_⟩
  .have:¬V.int (eN.toNat:Int)=V.int (y.toNat:Int):=λz=>e (by have z:=V.int.inj z;exact a16.mp (by omega));show(!decide (V.int (eN.toNat:Int)=V.int (y.toNat:Int)))=a9;rw[gP this];rfl
  have c7:=k _ eI;rw[Fx gn hc ba (λu v bz bk=>by rw[a0]at bz;rw[bl]at bk;cases bz;cases bk;exact e)]at c7;exact c7
 obtain⟨g6,fy,rfl,aE,O,ba,gn,hc⟩:=bK;have c7:=k _ aE;rw[Fx gn hc ba (λu v bz bk=>by rw[iu,k9]at ve;rw[iu]at ve;have:=(ec.mp bz).1;have:=(ec.mp bk).1;omega)]at c7;exact⟨_,Y,c7⟩
theorem ag7(T:Txt K a6 a):Og P w K a6 base 2 a.Reader "agreed_with" ["self","word"] (YO a):=by refine T.Wq.HO W3 (λf _ A _ _ s H _ Q E ah bU hd h=>?_);obtain⟨x,aD,b,n,wd,rfl,Oh,⟨⟨_,ag⟩,fg,_⟩,_,k⟩:=h;refine⟨_,aX (bG (YN (E:=E) (ag6 T) ah bU Y (ao (bg (J 0) Y) (ao (bg (J 0) Y) (ao (YN (E:=E) (ag5 T) ah bU Y (ao (J 1) az)) az))))),_,Y,x,_,_,_,_,Y,ag,T.cN.1,T.qP,Y,_,Y,x,_,_,_,_,Y,ag,T.cN.1,T.js,Y,_,Y,hd,wd,Y,Oh,(by omega),λl _ _ s1 gn=>?_⟩;exact⟨hd.mono s1,aD,b,n,l,wd,Y,s1 _ _ fg,gn,λau s2=>k au (s1.trans s2)⟩
theorem ag8(T:Txt K a6 a):Hq P w K a6 base 1 a.m1 ["place"] ["self","place"] (xd a.m1 "place"):=by have L:=T.qO;obtain⟨_,_,e8,_⟩:=id L;refine L.XF W2 (λf _ A _ s H _ Q E h=>?_);obtain⟨x,u,rfl,ag,k⟩:=h;exact⟨_,aX (BI (J 0) (J 1) Y),_,Y,_,Y,x,_,_,_,Y,e8,by simp,.inl ⟨ag,λa3 fF bV=>k a3 fF bV⟩⟩
theorem ag9{u t:Nat}{x:a8}{p:Pos}{c0:gE}(af:dK X.prog X.w X.K X.a6 X.base (mC t X.prog X.w) k x aK sp)(ah:dn k X.A)(aI:hA X x)(c:zb u X G E)(bz:t<=u)(bf:hz X (e::b7) c0)(gd:kF x:=by decide)(aF:nY X e b7:=by rfl)(eF:l5 X pos b7:=by rfl):
  Gg X G (.Call (.Name x p) (e::b7) [] pos) (mw sp [] E c0):=let⟨f,fd,hm,F,a0,aA⟩:=af;a7Q F ah aI hm aA a0 c bz bf gd aF eF
theorem aga{gB e0 mF fX:I}{f:a8}{u:V}{pe:dN}(e8:iM K C gB cV)(b9:H e0=B (dj e0 mF (B fX) 1))(h:∀a3 H',aw H H'->H' a3=B (gm a3 [(f,u)])->E (.ref C) (B a3) H'):∀a,H a=aa->xd C f [.ref a,u] (av H a (dj a C aa 0)) (λw au=>w=.bS/\∃hB j3 a3 xe s_ mF fX,V.ref a=.ref hB/\au hB=B (dj hB j3 (B a3) 0)/\iM K j3 xe s_/\au e0=B (dj e0 mF (B fX) 1)/\e0≠hB/\E (.ref j3) (B a3) (av au hB (dj hB j3 (B a3) 2))) pe:=λa bf=>⟨a,u,Y,b0,λa3 fF bV=>by
  have vf:H a3=aa:=by rw[aN bV]at fF;exact fF
  have O:e0≠a:=cU b9 bf;have a5:e0≠a3:=cU b9 vf;refine⟨Y,a,C,a3,gB,cV,mF,fX,Y,b0,e8,by rw[aN O,aN a5,aN O];exact b9,O,h a3 _ (λc o q=>?_) (by rw[aN bV,aN bV,b0])⟩;have O:c≠a:=cU q bf;rw[aN O,aN O,aN (cU q vf),aN O];exact q⟩
theorem agb(T:Txt K a6 a):dK P w K a6 base (mC 2 P w) 10 "read_move" ["reader","game"] (YA a):=by
 refine T.aa8.kq Mp (λf b4 A _ s H _ Q E ah h=>?_);obtain⟨x,aD,b,n,g,aB,nl,F,k,r,l,rfl,eo,fh,c8,b9,vw,_,vt,k5,_,cJ,bL,eb⟩:=h;have O:dn 1 (A.deeper (fB "read_move" (bo zg) s.heap.objs.size f b4)):=ah.mono;have aG:dn 3 (A.deeper (fB "read_move" (bo zg) s.heap.objs.size f b4)):=ah.mono;have cG:dn 4 (A.deeper (fB "read_move" (bo zg) s.heap.objs.size f b4)):=ah.mono;have a5:j' 2 (A.deeper (fB "read_move" (bo zg) s.heap.objs.size f b4)):=dn.BP ah.mono;obtain⟨_,_,xm,_⟩:=id T.qO;obtain⟨_,_,XL,_⟩:=id T.Gz;refine⟨_,aC (cx (i:=2) Mp.bh (g5 (acz T) (J 0) T.cN.1 O bw)) (aC (a7T (i:=4) (j:=3) (t:=1) (u:=2) (E1:=λcls iN H'=>∃d,∃p:Nat,cls=.ref a.u_/\iN=B d/\r.readMove (r.after l) (ej (b.drop n))=.error p/\aw H H'/\H' d=B (gm d [("place",.int (p:Int))])) (E2:=E) (bY:=mw (NT a) [] (λcls iN H'=>∃d,∃p:Nat,cls=.ref a.u_/\iN=B d/\r.readMove (r.after l) (ej (b.drop n))=.error p/\aw H H'/\H' d=B (gm d [("place",.int (p:Int))])) (eL (ji K (dr 1) "rules") (eL (n5 a.Game "last_position" (NW a) [] E (dr 1) gc) (eL (dr 2) gc)))) (tn:=λe=>LS K e (wI a.m1 (xd a.m1 "place") E (eL (pL (mu λi j=>.int (i+j)) (ji K (dr 0) "place") (AW (Um e) (eL (wK K (dr 4) "place") (eL (n5 a.Reader "agreed_with" (zd e (YO a)) [] E (dr 0) (eL (iB (.str "en")) gc)) gc)))) gc)) E) Y Y Mp.bh Y Y Y Y Y T.MR XL (λG cZ bN c=>ag9 (XX T) ah Y c (cO _) (ao (bg (J 1) Y) (ao (g5 (Hz T) (J 1) T.dm.1 ah.mono bw) (ao (J 2) az)))) dW (λe cZ bN c=>aX (TO (e0:=e) (NH (ag8 T) ⟨a5.ey,a5.un⟩ Y T.tm (ao (da nT (bg (J 0) Y) (fc (a89 Y) Y T.MV a04 (ao (z3 (J 4) Y) (ao (ag1 (ag7 T) (J 0) T.cN.1 ⟨a5.ey,a5.un⟩ Y (ao (eU T.MH Y) az)) az)))) az)) Y c))) (aC (e6 (dP (Na T) (J 0) T.cN.1 aG dW.passes (ao (J 2) az))) (aC (e6 (dP (jw T) (J 0) T.cN.1 cG dW.passes (ao ee az))) (aX (e6 (dP (Ya T) (J 1) T.dm.1 ah bw (ao (dV lN (J 3) cb (λ_ _=>rfl)) (ao (dV lN (J 3) cb (λ_ _=>rfl)) az)))))))),?_⟩;obtain⟨_,ag⟩:=id eo.1;obtain⟨aV,bA,bD,a_,c5,_,e',aW,aj,_,fe⟩:=id fh;have hw:=c8.fD.wf c8.ef.g.b_ (nE c8.ef);have k7:∀c∈F,c∉[x]:=λc a7 z=>vw (by rw[<-jL.mp z];exact a7);have Oi:aB≠x:=λz=>vw (z ▸ fe aB (iw.mpr (.inr (.inl Y))));have Oj:nl≠x:=λz=>vw (z ▸ fe nl (iw.mpr (.inr (.inr (.inl Y)))));refine⟨_,Y,x,_,_,Y,ag,Y,x,aD,b,n,Y,eo,λYP ai _ _ s1 gn aA D5 L3=>?_⟩;obtain⟨gT,N5⟩:=a6i D5 L3 aA;rw[gT]at gn;have dJ:=(aj.keep (H':=ai) λc _ o q=>s1 c o q).cf;have Dj:=eo.same s1;refine⟨⟨_,Y,g,_,_,_,_,Y,dJ.obj,T.dm.1,T.pn,Y,_,Y,g,_,_,Y,dJ.obj,Y,g,aB,nl,aV,bA,bD,a_,c5,e',_,r,l,aW,Y,dJ,λcY age=>⟨_,Y,aB,r,_,cY,YP,_,Y,dJ.kr.at,age,c8.ef.g,hw,Lv b9,gn,λm t au hm s2 ba=>?_,λp ar d au s2 hd=>⟨d,p,Y,Y,ar,s1.trans s2,hd⟩⟩⟩,λcls iN au ⟨d,p,aO,aT,ar,aE,hd⟩=>⟨aO,λe _ m aU aF hm=>?_⟩⟩
 .have YQ:m∈r.moves (r.after l):=by
   unfold E9 at hm;split at hm
   .next m' aQ=>cases hm;exact DD aQ
   cases hm
  have px:=s1.trans s2;have s7:=eo.same px;obtain⟨_,hv⟩:=id s7.1;have YI:=fh.same px;have hg:=eo.2.2;refine⟨_,Y,x,_,_,Y,hv,Y,_,Y,x,aD,b,n,YP,_,Y,s7,s2 _ _ gn,λ_ bc ou YR=>?_,λz=>?_⟩
  .obtain⟨_,agf⟩:=id YR;have agg:bc aD=B (.lst (cy b)):=ou _ _ (vg s7.1 s7.2.1) s7.2.1;have eS:n+(ej (b.drop n)).length<=b.length:=by rw[<-N5];rw[mP]at aA;omega
   have agh:b.drop (n+(ej (b.drop n)).length)=(b.drop n).drop (ej (b.drop n)).length:=(Dy ..).symm;have xl:b.drop n=ej (b.drop n)->b.drop (n+(ej (b.drop n)).length)=[]:=λz=>by rw[ahQ];have:=f_ tR z;rw[mP]at this;omega
   have ly:∀L dU:aS,b.drop n=L++10::dU->(b.drop n).drop L.length=10::dU:=λL dU z=>by rw[z,OW]
   refine⟨_,Y,x,_,_,Y,agf,Y,x,aD,b,_,[10],?_,⟨YR,agg,eS⟩,(by decide),λuK cT mc vu=>?_,λuK vb cT mc yY=>?_⟩
   .rw[show("\n" :a8)=cg [10]from by decide+kernel];rfl
   .obtain z|⟨dU,z⟩:=FV (b.drop n)
    .rw[xl z]at uK;exact absurd uK (by decide)
    have c3:dc x H cT:=((dc.of px).trans ou).trans mc;have Dh:fZ a cT g aB nl F k ⟨r,⟨l,aa⟩⟩:=fh.frame (S:=[x]) (λc u n q=>c3 c u (λz=>n (by simp[z])) q) k7;obtain⟨_,_,_,_,_,Di⟩:=Dh.obj;have wk:t≠x:=λq=>by rw[q,hv]at ba;cases ba
    have zX:cT t=B (.tup [.int ((m.1:Nat):Int),.int ((m.2:Nat):Int)]):=mc _ _ wk (ou _ _ wk ba);refine⟨_,Y,g,_,_,Y,Di,Y,_,Y,t,_,_,_,Y,Y,dq.of zX,Y,_,Y,t,_,_,_,Y,Y,dq.of zX,Y,g,aB,nl,F,k,⟨r,⟨l,aa⟩⟩,m.1,m.2,Y,Dh,c8,Y,YQ,vt,k5,λc_ Ol fr agi O9=>?_⟩;refine cJ m c_ Ol dU hm z ((kT.Df c3 Oi Oj).trans (kT.ofM fr)) (λc a7=>?_) ?_ O9 YQ
    .obtain q|q:=agi c a7
     .exact .inl q
     refine .inr ?_;cases iG:H c with
     |none=>rfl
     |some u=>
      by_cases d_:c=x
      .obtain⟨vb,z_⟩:=vu;rw[d_,z_]at q;cases q
      rw[c3 c u d_ iG]at q;cases q
    obtain⟨vb,z_⟩:=vu;exact⟨vb,fr.fr.cF _ _ vw z_⟩
   obtain z|⟨dU,z⟩:=FV (b.drop n)
   .rw[xl z]at yY;exact bL m hm z vb cT (kT.Df (((dc.of px).trans ou).trans mc) Oi Oj) yY
   rw[agh.trans (ly _ _ z)]at uK;exact absurd uK (by simp[dt])
  exfalso;have:dt (ej (b.drop n)) (b.drop n)=a9:=by
   rw[rI];obtain z|⟨dU,z⟩:=FV (b.drop n)
   .exact⟨[],by rw[<-z];simp⟩
   exact⟨_,z⟩
  rw[this]at z;cases z
 rw[aT]at aU;cases aU;have oq:m=1:=by omega
 subst oq;have YS:=eo.same aE;obtain⟨_,YT⟩:=id YS.1;have kH:HeldAt e au:=⟨_,_,1,cO _,aF⟩;refine⟨_,Y,x,_,_,_,_,Y,YT,T.cN.1,T.js,Y,_,Y,e,_,_,_,d,_,_,_,Y,XL,by simp,aF,hd,zI aF hd,Y,_,Y,x,_,_,Y,YT,Y,kH,x,aD,b,n,[101,110],?_,(by decide+kernel),YS,(by decide),λbc bE=>⟨kH.mono bE,_,_,Y,_,_,Y,Y,g7,aga xm (bE _ _ aF) λYU c_ fV agj=>?_⟩⟩
 .rw[show("en" :a8)=cg [101,110]from by decide+kernel];rfl
 have q:=eb p ar YU c_ (kT.Df (dc.of ((aE.trans bE).trans fV)) Oi Oj);refine q (agj.trans ?_);have iZ:((n:Int)+(if((cc (b.drop n) [101,110]:Nat):Int)>(p:Int)then((cc (b.drop n) [101,110]:Nat):Int)else(p:Int)))=((n+max p (cc (b.drop n) [101,110]):Nat):Int):=by split<;>omega
 show B (gm YU [("place",V.int ((n:Int)+(if((cc (b.drop n) [101,110]:Nat):Int)>(p:Int)then((cc (b.drop n) [101,110]:Nat):Int)else(p:Int))))])=_;rw[iZ]
def c8(l:List Int):List V:=l.map V.int
theorem xx(l:List Int):(c8 l).length=l.length:=by unfold c8;rw[cW]
def xy(cl:I)(n:Nat):List (a8×V):=[("calls",.ref cl),("place",.int (n:Int))]
def tO(a:b5)(H:ak)(f cl:I)(n:Nat):Prop:=∃a3,H f=B (.ins a.iO a3 (xy cl n))
def agk(a:b5):bF:=λvs H Q _=>∃f a3 cl,vs=[.ref f,.ref cl]/\H f=B (.ins a.iO a3 [])/\Q .bS (av H f (.ins a.iO a3 (xy cl 0)))
def agl(K:bj)(a:b5):bF:=λvs H Q _=>∃f cl n l,vs=[.ref f]/\tO a H f cl n/\bp K H cl (c8 l)/\Q (.c1 (decide (n<l.length))) H
def YV(K:bj)(a:b5):bF:=λvs H Q _=>∃f cl n l z,vs=[.ref f]/\tO a H f cl n/\bp K H cl (c8 l)/\l[n]? =B z/\∀H',dc f H H'->tO a H' f cl (n+1)->Q (.int z) H'
def YW(K:bj)(a:b5):bF:=λvs H Q _=>∃f cl n l,∃k:Nat,vs=[.ref f]/\tO a H f cl n/\bp K H cl (c8 l)/\l[n]? =B (k:Int)/\n+1+k<=l.length/\∀q H',H q=aa->dc f H H'->tO a H' f cl (n+1+k)->H' q=B (.lst (c8 ((l.drop (n+1)).take k)))->Q (.ref q) H'
theorem agm{l:List Int}(h:n+k<=l.length):lM (c8 l) (B ((n:Nat):Int)) (B (((n:Nat):Int)+((k:Nat):Int)))=c8 ((l.drop n).take k):=by unfold lM;rw[show(((n:Nat):Int)+((k:Nat):Int))=((n+k:Nat):Int) by omega,HT.uo,HT.uo,xx,xJ h,xJ (show n<=l.length by omega),ZU];unfold c8;rw[ai0,Ib]
theorem Om{cl:I}(ag:H x=B (.ins C d fs))(s:dc x H H')(h:bp K H cl xs):bp K H' cl xs:=by
 obtain(h|⟨o,h⟩)|h:=h
 .exact .inl (.inl (s _ _ (λz=>by rw[z,ag]at h;cases h) h))
 .exact .inl (.inr ⟨o,s _ _ (λz=>by rw[z,ag]at h;cases h) h⟩)
 exact .inr h
theorem agn(T:Txt K a6 a):ph P w K a6 base cj 1 a.iO ["self","calls"] (agk a):=by refine T.aaM.ok a8U (λf _ A _ s H _ Q E _ h=>?_);obtain⟨x,_,_,rfl,ag,k⟩:=h;refine⟨_,aC (dY (J 0) (J 1) Y) (aX (dY (J 0) cb Y)),_,Y,_,Y,x,_,_,_,Y,ag,T.m2.1,T.GK,by decide,_,Y,x,_,_,_,Y,b0,T.m2.1,T.x6,ql,?_⟩;rw[iT];exact k
theorem ago(T:Txt K a6 a):fY P w K a6 base cj 1 a.iO "has_more" ["self"] (agl K a):=by
 refine T.aaN.ok a8V (λf _ A _ s H _ Q E _ h=>?_);obtain⟨x,cl,n,l,rfl,⟨_,ag⟩,aq,k⟩:=h;refine⟨_,aX (bG (gG oS (bg (J 0) Y) (fc i' Y T.hU ia (ao (bg (J 0) Y) az)) (cq _))),_,Y,x,_,_,_,_,Y,ag,T.m2.1,T.x6,Y,_,Y,x,_,_,_,_,Y,ag,T.m2.1,T.GK,Y,cl,_,Y,.inl aq,_,_,Y,Y,?_⟩;rw[xx];have e:decide (((n:Nat):Int)<((l.length:Nat):Int))=decide (n<l.length):=by rw[hM,mj,mj];omega
 rw[<-e]at k;exact k
theorem Oo(T:Txt K a6 a):fY P w K a6 base cj 1 a.iO "number" ["self"] (YV K a):=by refine T.aaO.ok W9 (λf _ A _ s H _ Q E _ h=>?_);obtain⟨x,cl,n,l,z,rfl,⟨a3,ag⟩,aq,aR,k⟩:=h;refine⟨_,aC (cx (i:=1) W9.bh (dV hD (bg (J 0) Y) (bg (J 0) Y) (λ_ _=>rfl))) (aC (yq (J 0) cb yr) (aX (bG (J 1)))),?_⟩;have j_:hb (c8 l) (n:Int)=B (.int z):=gr (by unfold c8;rw[fP,aR];rfl);refine⟨_,Y,x,_,_,_,_,Y,ag,T.m2.1,T.GK,Y,_,Y,x,_,_,_,_,Y,ag,T.m2.1,T.x6,Y,cl,_,_,_,Y,Y,aq,j_,_,Y,x,_,_,_,_,Y,ag,T.m2.1,T.x6,Y,_,_,Y,Y,a3,_,ag,so,_,Y,?_⟩;exact k _ (dc.upd (dc.of (aw.refl H))) ⟨a3,by rw[b0];rfl⟩
theorem agp(T:Txt K a6 a):fY P w K a6 base cj 2 a.iO "row" ["self"] (YW K a):=by
 refine T.aaP.ok Mx (λf _ A _ s H _ Q E ah h=>?_);obtain⟨x,cl,n,l,k0,rfl,mB,aq,aR,hg,k⟩:=h;refine⟨_,aC (cx (i:=1) Mx.bh (g5 (Oo T) (J 0) T.m2.1 ah bw)) (aC (cx (i:=2) Mx.bh (bg (J 0) Y)) (aC (yq (J 0) (J 1) yr) (aX (bG (sL uq (bg (J 0) Y) (n7 (J 2)) (n7 (bg (J 0) Y))))))),?_⟩;obtain⟨_,ag⟩:=id mB;refine⟨_,Y,x,_,_,Y,ag,Y,x,cl,n,l,_,Y,mB,aq,aR,λai HP ⟨a3,lW⟩=>?_⟩;refine⟨_,Y,x,_,_,_,_,Y,lW,T.m2.1,T.x6,Y,_,Y,x,_,_,_,_,Y,lW,T.m2.1,T.x6,Y,_,Y,_,_,Y,Y,a3,_,lW,so,?_⟩;rw[show gH ("place" :a8) (V.int (((n+1:Nat):Int)+((k0:Nat):Int))) (xy cl (n+1))=([("calls",.ref cl),("place",.int (((n+1:Nat):Int)+((k0:Nat):Int)))]:List (a8×V))from Y];have rX:dc x H (av ai x (.ins a.iO a3 [("calls",.ref cl),("place",.int (((n+1:Nat):Int)+((k0:Nat):Int)))])):=dc.upd HP;have hv:(av ai x (.ins a.iO a3 [("calls",.ref cl),("place",.int (((n+1:Nat):Int)+((k0:Nat):Int)))])) x=B (.ins a.iO a3 [("calls",.ref cl),("place",.int (((n+1:Nat):Int)+((k0:Nat):Int)))]):=b0;generalize av ai x (.ins a.iO a3 [("calls",.ref cl),("place",.int (((n+1:Nat):Int)+((k0:Nat):Int)))])=au at rX hv ⊢;refine⟨_,Y,x,_,_,_,_,Y,hv,T.m2.1,T.GK,Y,_,Y,_,Y,_,Y,x,_,_,_,_,Y,hv,T.m2.1,T.x6,Y,_,Y,cl,_,Y,Om ag rX aq,λq aQ=>?_⟩;have CC:q≠x:=λz=>by rw[z,hv]at aQ;cases aQ
 have Ng:H q=aa:=by cases e:H q with|none=>rfl|some u=>have:=rX _ _ CC e;rw[aQ]at this;cases this
 refine k q _ Ng (dc.WX rX aQ) ⟨a3,?_⟩ ?_
 .rw[aN (ed CC),hv];unfold xy;rw[show(((n+1:Nat):Int)+((k0:Nat):Int))=((n+1+k0:Nat):Int) by omega]
 rw[b0,agm hg]
def HQ(a:b5)(H:ak)(F:List I)(n:Nat)(v:V):ja->Prop
 |none=>v=.bS
 |some x=>∃g aB nl,v=.ref g/\fZ a H g aB nl F n x/\Tf.Inv x/\x.rules.name.length<=16/\x.game.moves.length+50<=n
def h6(a:b5)(H:ak)(d:I)(F:List I)(n:Nat)(s:ja):Prop:=∃a3 v,H d=B (.ins a.f6 a3 [("game",v)])/\d∉F/\HQ a H F n v s
def gV(a:b5)(H:ak)(d:I)(F:List I)(n:Nat)(s:ja)(s8:oB)(Q:cR):Prop:=∀l H' hL,Fr (d::F) H H'->H l=aa->(∀c∈hL,c∈F∨H c=aa)->h6 a H' d hL (n+1) s->H' l=B (.lst (c8 s8.nums))->Q (.ref l) H'
variable{s:ja}
section
variable{x:jM}
theorem HQ.same{v:V}(h:HQ a H F n v s)(e:aw H H')(l:n<=m):HQ a H' F m v s:=by cases s with|none=>exact h|some x=>obtain⟨g,aB,nl,O,a5,aG,cG,eZ⟩:=h;exact⟨g,aB,nl,O,(a5.same e).less l,aG,cG,dC eZ l⟩
theorem h6.same(h:h6 a H d F n s)(e:aw H H')(l:n<=m):h6 a H' d F m s:=let⟨a3,v,O,a5,aG⟩:=h;⟨a3,v,e _ _ O,a5,aG.same e l⟩
theorem h6.game(h:h6 a H d F n (B x)):∃a3 g aB nl,H d=B (.ins a.f6 a3 [("game",.ref g)])/\d∉F/\fZ a H g aB nl F n x/\Tf.Inv x/\x.rules.name.length<=16/\x.game.moves.length+50<=n:=by obtain⟨a3,v,O,a5,g,aB,nl,rfl,aG,cG,eZ,iH⟩:=h;exact⟨a3,g,aB,nl,O,a5,aG,cG,eZ,iH⟩
theorem h6.to{hL:List I}{y:jM}(O:H d=B (.ins a.f6 a3 [("game",.ref g)]))(a5:d∉F)(fr:Fr F H H')(hf:∀c∈hL,c∈F∨H c=aa)(aj:fZ a H' g aB nl hL m y)(c8:Tf.Inv y)(aH:y.rules.name.length<=16)(bk:y.game.moves.length+50<=m):h6 a H' d hL m (B y):=by
 refine⟨a3,.ref g,fr.cF _ _ a5 O,λz=>?_,g,aB,nl,Y,aj,c8,aH,bk⟩;obtain h|h:=hf d z
 .exact a5 h
 rw[O]at h;cases h
end
theorem agq(l:List Nat):c8 (a14 l)=dB l:=by unfold c8 a14 dB;rw[ix];rfl
theorem gV.after{s8:oB}(af:gV a H d F n s s8 Q)(aE:aw H ai):gV a ai d F n s s8 Q:=λl H' hL fr aq hf de aF=>af l H' hL ((Fr.of aE).trans fr) (aE.free aq) (λc a7=>(hf c a7).imp id λz=>aE.free z) de aF
theorem gV.keep{s8:oB}{l:I}(af:gV a H d F n s s8 Q)(de:h6 a H d F n s)(aE:aw H ai)(aq:H l=aa)(aF:ai l=B (.lst (c8 s8.nums))):Q (.ref l) ai:=
 af l _ F (Fr.of aE) aq (λc a7=>.inl a7) (de.same aE (sf _)) aF
theorem gV.refuse{z:Int}{l:I}(af:gV a H d F n s (ho z) Q)(de:h6 a H d F n s)(aE:aw H ai)(aq:ai l=aa):Q (.ref l) (av ai l (.lst [.int z])):=
 af.keep de (aw.upd aE aq) (aE.free aq) b0
theorem gV.game{agr ags:I}{hL:List I}{y:jM}{s8:oB}{l:I}(af:gV a H d F n (B y) s8 Q)(O:H d=B (.ins a.f6 a3 [("game",.ref g)]))(a5:d∉F)(fr:ma aB nl F H ai)(hf:∀c∈hL,c∈F∨H c=aa)(aj:fZ a ai g agr ags hL (n+1) y)(c8:Tf.Inv y)(aH:y.rules.name.length<=16)(bk:y.game.moves.length+50<=n+1)(s2:aw ai au)(aq:ai l=aa)(aF:au l=B (.lst (Hg.c8 s8.nums))):Q (.ref l) au:=
 af l _ hL ((fr.fr.more λc a7=>ez _ a7).trans (Fr.of s2)) (fr.fr.hK _ aq) hf ((h6.to O a5 fr.fr hf aj c8 aH bk).same s2 (cO _)) aF
def YX:bF:=λvs H Q _=>∃t xs,vs=[.ref t]/\H t=B (.lst xs)/\xs.length<=100000/\∀l H',H l=aa->aw H H'->H' l=B (.lst (.int 0::.int ((xs.length:Nat):Int)::xs))->Q (.ref l) H'
def agt(a:b5):bF:=λvs H Q _=>∃d F n x,∃h:Nat,vs=[.ref d,.int (h:Int)]/\h6 a H d F n (B x)/\gV a H d F n (fk (B x) (.end_ h)).1 (fk (B x) (.end_ h)).2 Q
def agu(a:b5):bF:=λvs H Q _=>∃d F n x,vs=[.ref d]/\h6 a H d F n (B x)/\n<=5000/\gV a H d F n (fk (B x) .back).1 (fk (B x) .back).2 Q
def agv(a:b5):bF:=λvs H Q _=>∃d F n x,∃u v:Nat,vs=[.ref d,.int (u:Int),.int (v:Int)]/\h6 a H d F n (B x)/\n<=5000/\x.game.ending=aa/\(u,v)∈x.rules.moves (x.rules.after x.game.moves)/\x.game.moves.length<900/\gV a H d F n (y9 x (u,v)).1 (y9 x (u,v)).2 Q
def agw(a:b5):bF:=λvs H Q _=>∃d F n x,∃u v:Nat,vs=[.ref d,.int (u:Int),.int (v:Int)]/\h6 a H d F n (B x)/\n<=5000/\x.game.moves.length<900/\gV a H d F n (fk (B x) (.move u v)).1 (fk (B x) (.move u v)).2 Q
theorem Oq(h:n≠0):(!decide (V.int ((n:Nat):Int)=V.int 0))=a9:=by rw[gP (λz=>h (by have z:=V.int.inj z;omega))];rfl
theorem HR(T:Txt K a6 a):dK P w K a6 base cj 1 "counted" ["row"] YX:=by
 refine T.aal.ok a8B (λf _ A _ s H _ Q E _ h=>?_);obtain⟨t,xs,rfl,ba,_,k⟩:=h;refine⟨_,aX (bG (da nZ (fv (ao (cK T.Cg Y) (ao (fc i' Y T.hU ia (ao (J 0) az)) az))) (J 0))),_,Y,t,_,Y,.inl (bp.of ba),nL,λHS Hy=>?_⟩;have s2:=aw.upd (o:=.lst [.int 0,.int ((xs.length:Nat):Int)]) (aw.refl H) Hy;refine⟨_,Y,HS,t,_,_,Y,Y,b0,s2 _ _ ba,?_,λl aq=>?_⟩
 .exact hl (lC (show 2+xs.length<=100002 by omega) (by decide))
 exact k l _ (s2.free aq) (aw.upd s2 aq) b0
theorem agx(T:Txt K a6 a):fY P w K a6 base cj 3 a.f6 "end" ["self","ended_by"] (agt a):=by
 refine T.aaW.ok a90 (λf _ A _ s H _ Q E ah h=>?_);obtain⟨d,F,n,x,bU,rfl,de,af⟩:=h;refine⟨_,aC (d3 (c' rx (J 1) (cK T.ME Y) (cq _)) (aX (bG (fv (ao (cK T.Wi Y) az)))) d8) (aC (d3 (c' nW (g5 (D9 T) (bg (J 0) Y) T.dm.1 ah bw) (cK T.rR Y) (cq _)) (aX (bG (fv (ao (cK T.MF Y) az)))) d8) (aC (e6 (dP (Yi T) (bg (J 0) Y) T.dm.1 ah.mono bw (ao (J 1) az))) (aX (bG (fv (ao (cK T.Cg Y) az)))))),?_⟩;obtain⟨_,g,aB,nl,hd,k7,fh,ep,nm,kU⟩:=de.game;obtain⟨_,_,_,_,_,aI⟩:=fh.obj;have af:gV a H d F n (if 2<bU then(B x,ho (-1))else if x.rules.overOf x.game≠0 then(B x,ho (-4))else(B ⟨x.rules,⟨x.game.moves,PR bU⟩⟩,ho 0):ja×oB).1 (if 2<bU then(B x,ho (-1))else if x.rules.overOf x.game≠0 then(B x,ho (-4))else(B ⟨x.rules,⟨x.game.moves,PR bU⟩⟩,ho 0):ja×oB).2 Q:=af;refine⟨_,Y,_,_,Y,Y,_,Y,?_⟩;by_cases a5:2<bU
 .rw[aZ a5]at af;exact eJ (eE (by omega)) ⟨g7,λl aq=>af.refuse de (aw.refl H) aq⟩
 rw[aL a5]at af;refine e7 (λz=>a5 (by have:=e3 z;omega)) ?_;refine⟨_,Y,d,_,_,_,_,Y,hd,T.eO.1,T.hh,Y,g,_,_,Y,aI,Y,g,aB,nl,F,n,x,Y,fh,ep,Y,_,Y,?_⟩;by_cases b9:x.rules.overOf x.game=0
 .rw[aL (by rw[b9];decide)]at af;refine e7 (by rw[b9];decide) ?_;have iZ:V.int (bU:Int)=m9 (PR bU):=by
   have:bU=0∨bU=1∨bU=2:=by omega
   rcases this with rfl|rfl|rfl<;>rfl
  refine⟨_,Y,d,_,_,_,_,Y,hd,T.eO.1,T.hh,Y,g,_,_,Y,aI,Y,_,Y,g,aB,nl,F,n,x,PR bU,by rw[<-iZ];rfl,fh,λ_ fr ht=>⟨g7,λl aq=>?_⟩⟩;exact af.game hd k7 fr (λc a7=>.inl a7) (ht.less (sf _)) ⟨ep.ef,ep.fD,λ_=>(Lu b9).2⟩ nm (aic kU) (aw.new aq) aq b0
 rw[aZ b9]at af;exact eJ (Oq b9) ⟨g7,λl aq=>af.refuse de (aw.refl H) aq⟩
theorem agy(T:Txt K a6 a):fY P w K a6 base cj 2 a.f6 "back" ["self"] (agu a):=by
 refine T.aaX.ok a91 (λf _ A _ s H _ Q E ah h=>?_);obtain⟨d,F,n,x,rfl,de,kh,af⟩:=h;refine⟨_,aC (d3 (je (g5 (afa T) (bg (J 0) Y) T.dm.1 ah bw)) (aX (bG (fv (ao (cK T.Cg Y) az)))) d8) (aX (bG (fv (ao (cK T.Gv Y) az)))),?_⟩;obtain⟨_,g,aB,nl,hd,k7,fh,ep,nm,kU⟩:=de.game;obtain⟨_,_,_,_,_,aI⟩:=fh.obj;have af:gV a H d F n (if x.game.ending≠aa then(B ⟨x.rules,⟨x.game.moves,aa⟩⟩,ho 0)else if x.game.moves=[]then(B x,ho (-2))else(B ⟨x.rules,⟨x.game.moves.dropLast,aa⟩⟩,ho 0):ja×oB).1 (if x.game.ending≠aa then(B ⟨x.rules,⟨x.game.moves,aa⟩⟩,ho 0)else if x.game.moves=[]then(B x,ho (-2))else(B ⟨x.rules,⟨x.game.moves.dropLast,aa⟩⟩,ho 0):ja×oB).2 Q:=af;refine⟨_,Y,d,_,_,_,_,Y,hd,T.eO.1,T.hh,Y,g,_,_,Y,aI,Y,g,aB,nl,F,n,x,Y,fh,ep,kh,λO au fr ht=>⟨_,Y,?_⟩,λO a5=>⟨_,Y,?_⟩,λO a5 au fr ht=>⟨_,Y,?_⟩⟩
 .rw[aZ O]at af;exact hE ⟨g7,λl aq=>af.game hd k7 fr (λc a7=>.inl a7) ht ⟨ep.ef,ep.fD,λz=>absurd Y z⟩ nm (aic kU) (aw.new aq) aq b0⟩
 .rw[aL (by rw[O];simp),aZ a5]at af;exact gz ⟨g7,λl aq=>af.refuse de (aw.refl H) aq⟩
 rw[aL (by rw[O];simp),aL a5]at af;exact hE ⟨g7,λl aq=>af.game hd k7 fr (λc a7=>.inl a7) ht ep.back nm (by show x.game.moves.dropLast.length+50<=n+1;rw[ahZ];omega) (aw.new aq) aq b0⟩
theorem YY(z:Int)(l:List Nat):c8 (pF z [.list l]).nums=.int z::.int ((l.length:Nat):Int)::dB l:=by unfold pF ajI;simp only[mO,OZ,a11,hN];show V.int z::V.int _::c8 (a14 _)=_;rw[agq]
theorem YZ(T:Txt K a6 a):fY P w K a6 base cj 10 a.f6 "make" ["self","x","y"] (agv a):=by
 refine T.aaV.ok a8Z (λf _ A _ s H _ Q E ah h=>?_);obtain⟨d,F,n,x,u,v,rfl,de,kh,aH,hm,bD,af⟩:=h;refine⟨_,aC (e6 (dP (Ya T) (bg (J 0) Y) T.dm.1 ah bw (ao (J 1) (ao (J 2) az)))) (aX (bG (ct (HR T) ah.mono Y bw (ao (dV hD (bg (bg (J 0) Y) Y) (AN AO cb) (λ_ _=>rfl)) az)))),?_⟩;obtain⟨_,g,aB,nl,hd,k7,fh,ep,nm,_⟩:=de.game;obtain⟨_,_,_,_,_,aI⟩:=fh.obj;have hw:=ep.fD.wf ep.ef.g.b_ (nE ep.ef);have dU:=BA hw ep.ef.g.b_ (p7 hw ep.ef.g.b_ hm);refine⟨_,Y,d,_,_,_,_,Y,hd,T.eO.1,T.hh,Y,g,_,_,Y,aI,Y,_,Y,_,Y,g,aB,nl,F,n,x,u,v,Y,fh,ep,aH,hm,bD,kh,λai _ fr hf dJ=>?_⟩;have HD:=fr.fr.cF _ _ k7 hd;obtain⟨_,Ot,_,_,_,xA,_,_,M,_⟩:=id dJ;have tn:xA.length=x.game.moves.length+1:=by rw[M.ku];simp
 have c4:x.game.moves.length<xA.length:=by omega
 have vp:=f7 c4;have Z3:hb (xA.map V.ref) (-1)=B (.ref xA[x.game.moves.length]):=by
  have e:=take_snoc vp;rw[lB (by omega)]at e;conv=>lhs;rw[e,fH]
  exact QK _ _
 have ba:ai xA[x.game.moves.length]=B (.lst (dB (qj x.rules (x.game.moves++[(u,v)]) x.game.moves.length))):=(M.vr _ _ vp).1;generalize xA[x.game.moves.length]=t at Z3 ba;have agz:(qj x.rules (x.game.moves++[(u,v)]) x.game.moves.length).length<=200:=by rw[Sj];simp only[fQ];omega
 refine⟨_,Y,d,_,_,_,_,Y,HD,T.eO.1,T.hh,Y,g,_,_,_,_,Y,M.cf.obj,T.dm.1,T.tp,Y,_,Y,Ot,_,_,_,Y,Y,bp.of M.j6,Z3,t,_,Y,ba,(by rw[jv];omega),λl _ aq s2 aF=>?_⟩;refine af.game hd k7 fr hf dJ (ep.moved hm) nm (by show(x.game.moves++[(u,v)]).length+50<=n+1;rw[df,gu];omega) s2 aq ?_;rw[aF,jv];unfold y9;rw[YY]
theorem agA(T:Txt K a6 a):fY P w K a6 base cj 11 a.f6 "move" ["self","x","y"] (agw a):=by
 refine T.aaT.ok a8Y (λf _ A _ s H _ Q E ah h=>?_);obtain⟨d,F,n,x,u,v,rfl,de,kh,bD,af⟩:=h;refine⟨_,aC (d3 (c' nW (g5 (D9 T) (bg (J 0) Y) T.dm.1 ah.mono bw) (cK T.rR Y) (cq _)) (aX (bG (fv (ao (cK T.MF Y) az)))) d8) (aC (d3 (v_ (je (dP (aeU T) (bg (J 0) Y) T.dm.1 ah.mono bw (ao (J 1) (ao (J 2) az))))) (aX (bG (fv (ao (cK T.Gv Y) az)))) d8) (aX (bG (dP (YZ T) (J 0) T.eO.1 ah bw (ao (J 1) (ao (J 2) az)))))),?_⟩;obtain⟨_,g,aB,nl,hd,_,fh,ep,_,_⟩:=de.game;obtain⟨_,_,_,_,_,aI⟩:=fh.obj;have af:gV a H d F n (if x.rules.overOf x.game≠0 then(B x,ho (-4))else if(x.rules.moves (x.rules.after x.game.moves)).contains (u,v)=aJ then(B x,ho (-2))else y9 x (u,v):ja×oB).1 (if x.rules.overOf x.game≠0 then(B x,ho (-4))else if(x.rules.moves (x.rules.after x.game.moves)).contains (u,v)=aJ then(B x,ho (-2))else y9 x (u,v):ja×oB).2 Q:=af;refine⟨_,Y,d,_,_,_,_,Y,hd,T.eO.1,T.hh,Y,g,_,_,Y,aI,Y,g,aB,nl,F,n,x,Y,fh,ep,Y,_,Y,?_⟩;by_cases b9:x.rules.overOf x.game=0
 .obtain⟨aH,Ou⟩:=Lu b9;rw[aL (by rw[b9];decide)]at af;refine e7 (by rw[b9];decide) ?_;obtain⟨Y_,Ot,Y',Z0,Z1,_,q4,Z2,M,_⟩:=id fh;refine⟨_,Y,d,_,_,_,_,Y,hd,T.eO.1,T.hh,Y,g,_,_,Y,M.cf.obj,Y,_,Y,_,Y,g,aB,nl,Y_,Ot,Y',Z0,Z1,q4,_,x.rules,x.game.moves,Z2,u,v,Y,M.cf,ep.ef,ep.fD.wf ep.ef.g.b_ (nE ep.ef),Lv Ou,λ_ s2=>⟨_,Y,?_⟩⟩;cases a7:(x.rules.moves (x.rules.after x.game.moves)).contains (u,v)with|false=>rw[aZ a7]at af;exact hE ⟨g7,λl aq=>af.refuse de s2 aq⟩|true=>rw[aL (by rw[a7];decide)]at af;refine gz ?_;exact⟨_,Y,d,_,_,Y,s2 _ _ hd,Y,_,Y,_,Y,d,F,n,x,u,v,Y,de.same s2 (cO _),kh,aH,xD.mp a7,bD,af.after s2⟩
 rw[aZ b9]at af;exact eJ (Oq b9) ⟨g7,λl aq=>af.refuse de (aw.refl H) aq⟩
theorem Ov{u:Nat}:mD u X λ_ _ _=>False:=λ_ _ _ _ _ _ _ _ _ _ _ _ _ _ _ _ _ h=>h.elim
theorem agB(h:mi b=.ok r):fk s (.begin_ b)=(B ⟨r,.none_⟩,ho 0):=by
 show(match mi b with
  |.error (k,p)=>(s,PM (-6) k p)
  |.ok r=>(B ⟨r,.none_⟩,ho 0))=_
 rw[h]
theorem agC{p:Nat}(h:mi b=.error (k,p)):fk s (.begin_ b)=(s,PM (-6) k p):=by
 show(match mi b with
  |.error (k,p)=>(s,PM (-6) k p)
  |.ok r=>(B ⟨r,.none_⟩,ho 0))=_
 rw[h]
theorem agD{x:jM}(h:x.rules.overOf x.game≠0):fk (B x) (.say b)=(B x,ho (-4)):=by show(if x.rules.overOf x.game≠0 then(B x,ho (-4))else _:ja×oB)=_;rw[aZ h]
theorem agE{x:jM}(h:x.rules.overOf x.game=0)(ah:x.rules.readMove (x.rules.after x.game.moves) b=.error k):fk (B x) (.say b)=(B x,pF (-5) [.num k]):=by
 show(if x.rules.overOf x.game≠0 then(B x,ho (-4))else match x.rules.readMove (x.rules.after x.game.moves) b with
  |.error k=>(B x,pF (-5) [.num k])
  |.ok m=>y9 x m:ja×oB)=_
 rw[aL (by rw[h];decide),ah]
theorem agF{x:jM}{m:Nat×Nat}(h:x.rules.overOf x.game=0)(ah:x.rules.readMove (x.rules.after x.game.moves) b=.ok m):fk (B x) (.say b)=y9 x m:=by
 show(if x.rules.overOf x.game≠0 then(B x,ho (-4))else match x.rules.readMove (x.rules.after x.game.moves) b with
  |.error k=>(B x,pF (-5) [.num k])
  |.ok m=>y9 x m:ja×oB)=_
 rw[aL (by rw[h];decide),ah]
theorem agG{x:jM}(ah:x.rules.readGame b=.error k):fk (B x) (.read b)=(B x,pF (-5) [.num k]):=by
 show(match x.rules.readGame b with
  |.error p=>(B x,pF (-5) [.num p])
  |.ok g=>(B {x with game:=g},ho 0):ja×oB)=_
 rw[ah]
theorem agH{x:jM}{y:Tafl.Game}(ah:x.rules.readGame b=.ok y):fk (B x) (.read b)=(B ⟨x.rules,y⟩,ho 0):=by
 show(match x.rules.readGame b with
  |.error p=>(B x,pF (-5) [.num p])
  |.ok g=>(B {x with game:=g},ho 0):ja×oB)=_
 rw[ah]
def Z4(a:b5)(H:ak)(x:jM)(b:aS):dN:=λcls iN H'=>∃a3,∃k:Nat,cls=.ref a.u_/\iN=B a3/\x.rules.readMove (x.rules.after x.game.moves) b=.error k/\aw H H'/\H' a3=B (gm a3 [("place",.int (k:Int))])
def Z5(a:b5)(H:ak)(x:jM)(b:aS):dN:=λcls iN H'=>∃a3,∃k:Nat,cls=.ref a.m1/\iN=B a3/\x.rules.readGame b=.error k/\aw H H'/\H' a3=B (gm a3 [("place",.int (k:Int))])
def agI(a:b5):bF:=λvs H Q _=>∃d F n s aD b,vs=[.ref d,.ref aD]/\h6 a H d F n s/\800<=n/\H aD=B (.lst (cy b))/\gV a H d F n (fk s (.begin_ b)).1 (fk s (.begin_ b)).2 Q
def agJ(a:b5):bF:=λvs H Q _=>∃d F n x aD b,vs=[.ref d,.ref aD]/\h6 a H d F n (B x)/\n<=5000/\x.game.moves.length<900/\H aD=B (.lst (cy b))/\gV a H d F n (fk (B x) (.say b)).1 (fk (B x) (.say b)).2 Q
def agK(a:b5):bF:=λvs H Q _=>∃d F n x aD b,vs=[.ref d,.ref aD]/\h6 a H d F n (B x)/\800<=n/\H aD=B (.lst (cy b))/\b.length<=1500/\gV a H d F n (fk (B x) (.read b)).1 (fk (B x) (.read b)).2 Q
theorem gV.fresh{l:I}{v:V}{hL:List I}{y:jM}{z:Int}(af:gV a H d F n (B y) (ho z) Q)(O:H d=B (.ins a.f6 a3 [("game",v)]))(a5:d∉F)(aE:aw H ai)(hf:∀c∈hL,c∈F∨H c=aa)(aj:fZ a ai g aB nl hL m y)(hm:m<=n+1)(c8:Tf.Inv y)(aH:y.rules.name.length<=16)(bk:y.game.moves.length+50<=n+1)(aq:(av ai d (.ins a.f6 a3 [("game",.ref g)])) l=aa):Q (.ref l) (av (av ai d (.ins a.f6 a3 [("game",.ref g)])) l (.lst [.int z])):=by
 have Ow:d∉hL:=λz=>by
  obtain h|h:=hf d z
  .exact a5 h
  rw[O]at h;cases h
 have akR:l≠d:=λz=>by rw[z,b0]at aq;cases aq
 have m8:=aw.upd (o:=.lst [.int z]) (aw.refl (av ai d (.ins a.f6 a3 [("game",.ref g)]))) aq;have fr:Fr (d::F) H (av ai d (.ins a.f6 a3 [("game",.ref g)])):=(Fr.of aE).put (by simp);refine af l _ hL (fr.trans (Fr.of m8)) (fr.hK _ aq) hf ?_ b0;exact⟨a3,.ref g,m8 _ _ b0,Ow,g,aB,nl,Y,(fZ.same (aj.frame (S:=[d]) ((h5.refl _ _).put (by simp)) λc a7 z=>Ow (by rw[<-jL.mp z];exact a7)) m8).less hm,c8,aH,bk⟩
theorem agL(T:Txt K a6 a):fY P w K a6 base cj 11 a.f6 "begin" ["self","source"] (agI a):=by
 refine T.aaS.ok My (λf _ A _ s H _ Q E ah h=>?_);obtain⟨d,F,n,st,aD,b,rfl,de,_,fg,af⟩:=h;obtain⟨_,_,zU,_⟩:=id T.MT;refine⟨_,aC (Ga (i:=3) (t:=2) (u:=1) (E1:=λcls iN H'=>∃a3,∃ps pl:Nat,cls=.ref a.u'/\iN=B a3/\mi b=.error (ps,pl)/\aw H H'/\H' a3=B (gm a3 [("kind",.int (ps:Int)),("place",.int (pl:Int))])) (E2:=λ_ _ _=>False) (th:=λe=>oM (EH (eL (iB (.int (-6))) (eL (wK K (dr 3) "kind") (eL (wK K (dr 3) "place") gc))))) Y Y My.bh Y Y Y T.MS zU (λcZ bN c=>aX (cx (i:=2) My.bh (ct (ae7 T) ah.mono Y c.passes (ao (J 1) az)))) Ov (λe cZ bN c=>aX (bG (fv (ao (cK T.a9q Y) (ao (z3 (J 3) Y) (ao (z3 (J 3) Y) az))))))) (aC (dY (J 0) (pj (Ym T) ah Y T.dm.2 bw (ao (J 2) az)) Y) (aX (bG (fv (ao (cK T.Cg Y) az))))),⟨_,Y,aD,b,Y,fg,λr p nl ai bX NI t8 aE d1=>?_,λps pl bX a3 ai aE hd=>⟨a3,ps,pl,Y,Y,bX,aE,hd⟩⟩,λcls iN ai ⟨a3,ps,pl,aO,aT,bX,aE,hd⟩=>⟨aO,λe dT m aU aF _=>?_⟩⟩
 .have af:gV a H d F n (B ⟨r,.none_⟩) (ho 0) Q:=by rw[agB bX]at af;exact af
  have R:=Tf.judge_ok bX;obtain⟨a3,v,hd,k7,_⟩:=de;refine⟨_,Y,λg e' q6 Dk bV=>?_⟩;have s2:aw ai (av (av ai e' (.own g)) g (.ins a.Game e' [])):=aw.upd (aw.new Dk) (by rw[aN (ed bV)];exact q6);refine⟨g,e',p,nl,r,Y,b0,d1.same s2,R,λau _ fr hf fh=>⟨Y,?_⟩⟩;have Z6:aw H au:=aE.trans λc u q=>fr.cF c u (by simp only[jL];exact cU q q6) (s2 _ _ q);refine⟨_,Y,d,_,_,_,Y,Z6 _ _ hd,T.eO.1,T.hh,ql,g7,λl aq=>af.fresh hd k7 Z6 (λc a7=>.inr ?_) fh (by omega) (Tf.Inv.fresh R) (a6e bX) (by show 0+50<=n+1;omega) aq⟩;obtain h|h|h|h:=hf c a7
  .rw[h];exact aE.free q6
  .rw[h];exact NI
  .rw[h];exact t8
  exact aE.free (s2.free h)
 have af:gV a H d F n st (PM (-6) ps pl) Q:=by rw[agC bX]at af;exact af
 have ll:dT=a3:=by rw[aT]at aU;exact(gX aU).symm
 subst ll;refine⟨_,Y,e,_,_,_,dT,_,_,_,Y,zU,by simp,aF,hd,zI aF hd,Y,_,Y,e,_,_,_,dT,_,_,_,Y,zU,by simp,aF,hd,zI aF hd,Y,IZ,λl aq=>?_⟩;exact af.keep de (aw.upd aE aq) (aE.free aq) b0
theorem agM(T:Txt K a6 a):fY P w K a6 base cj 11 a.f6 "say" ["self","source"] (agJ a):=by
 refine T.aaU.ok Mz (λf _ A _ s H _ Q E ah h=>?_);obtain⟨d,F,n,x,aD,b,rfl,de,kh,bD,fg,af⟩:=h;obtain⟨_,_,XL,_⟩:=id T.Gz;refine⟨_,aC (d3 (c' nW (g5 (D9 T) (bg (J 0) Y) T.dm.1 ah.mono bw) (cK T.rR Y) (cq _)) (aX (bG (fv (ao (cK T.MF Y) az)))) d8) (aC (Ga (i:=3) (t:=1) (u:=1) (E1:=Z4 a H x b) (cu:=oP (mw (NT a) [] (Z4 a H x b) (eL (ji K (ji K (dr 0) "game") "rules") (eL (n5 a.Game "last_position" (NW a) [] pQ (ji K (dr 0) "game") gc) (eL (dr 1) gc)))) (mr 2)) (E2:=λ_ _ _=>False) (th:=λe=>oM (EH (eL (iB (.int (-5))) (eL (wK K (dr 3) "place") gc)))) Y Y Mz.bh Y Y Y T.MR XL (λcZ bN c=>aX (cx (i:=2) Mz.bh (ct (XX T) ah.mono Y c.passes (ao (bg (bg (J 0) Y) Y) (ao (g5 (Hz T) (bg (J 0) Y) T.dm.1 ah.mono bw) (ao (J 1) az)))))) Ov (λe cZ bN c=>aX (bG (fv (ao (cK T.Wj Y) (ao (z3 (J 3) Y) az)))))) (aX (bG (dP (YZ T) (J 0) T.eO.1 ah bw (ao (dV lN (J 2) cb (λ_ _=>rfl)) (ao (dV lN (J 2) cb (λ_ _=>rfl)) az)))))),?_⟩;obtain⟨_,g,aB,nl,hd,_,fh,ep,_,_⟩:=de.game;obtain⟨_,_,_,_,_,aI⟩:=fh.obj;refine⟨_,Y,d,_,_,_,_,Y,hd,T.eO.1,T.hh,Y,g,_,_,Y,aI,Y,g,aB,nl,F,n,x,Y,fh,ep,Y,_,Y,?_⟩;by_cases b9:x.rules.overOf x.game=0
 .obtain⟨aH,Ou⟩:=Lu b9;refine e7 (by rw[b9];decide) ?_;obtain⟨aV,bA,iJ,a_,c5,_,q4,aW,M,_⟩:=id fh;have b_:=ep.ef.g.b_;have hw:=ep.fD.wf b_ (nE ep.ef);refine⟨⟨_,Y,d,_,_,_,_,Y,hd,T.eO.1,T.hh,Y,g,_,_,_,_,Y,M.cf.obj,T.dm.1,T.pn,Y,_,Y,d,_,_,_,_,Y,hd,T.eO.1,T.hh,Y,g,_,_,Y,M.cf.obj,Y,g,aB,nl,aV,bA,iJ,a_,c5,q4,_,x.rules,x.game.moves,aW,Y,M.cf,λp ar=>⟨_,Y,aB,x.rules,_,p,aD,b,Y,M.cf.kr.at,ar,ep.ef.g,hw,Lv Ou,fg,λm t au iP s2 ba=>?_,λk iP m3 au s2 n6=>⟨m3,k,Y,Y,iP,s2,n6⟩⟩⟩,λ_ _ au ⟨m3,k,aO,aT,iP,aE,n6⟩=>⟨aO,λe dT m aU aF _=>?_⟩⟩
  .rw[agF b9 iP]at af;have sP:m∈x.rules.moves (x.rules.after x.game.moves):=by
    unfold E9 at iP;split at iP
    .next z aR=>cases iP;exact DD aR
    cases iP
   exact⟨_,Y,d,_,_,Y,s2 _ _ hd,Y,_,Y,t,_,_,_,Y,Y,dq.of ba,gr (j:=0) Y,_,Y,t,_,_,_,Y,Y,dq.of ba,gr (j:=1) Y,d,F,n,x,m.1,m.2,Y,de.same s2 (cO _),kh,aH,sP,bD,af.after s2⟩
  rw[agE b9 iP]at af;have ll:dT=m3:=by rw[aT]at aU;exact(gX aU).symm
  subst ll;refine⟨_,Y,e,_,_,_,dT,_,_,_,Y,XL,by simp,aF,n6,zI aF n6,Y,nL,λl aq=>?_⟩;exact af.keep de (aw.upd aE aq) (aE.free aq) b0
 rw[agD b9]at af;exact eJ (Oq b9) ⟨g7,λl aq=>af.refuse de (aw.refl H) aq⟩
theorem agN(T:Txt K a6 a):fY P w K a6 base cj 12 a.f6 "read" ["self","source"] (agK a):=by
 refine T.ab3.ok MB (λf _ A _ s H _ Q E ah h=>?_);obtain⟨d,F,n,x,aD,b,rfl,de,_,fg,HM,af⟩:=h;obtain⟨_,_,xm,_⟩:=id T.qO;refine⟨_,aC (Ga (i:=3) (t:=2) (u:=1) (E1:=Z5 a H x b) (cu:=oP (mw (YB a) [] (Z5 a H x b) (eL (ji K (ji K (dr 0) "game") "rules") (eL (dr 1) gc))) (mr 2)) (E2:=λ_ _ _=>False) (th:=λe=>oM (EH (eL (iB (.int (-5))) (eL (wK K (dr 3) "place") gc)))) Y Y MB.bh Y Y Y T.tm xm (λcZ bN c=>aX (cx (i:=2) MB.bh (ct (afP T (agb T)) ah Y c.passes (ao (bg (bg (J 0) Y) Y) (ao (J 1) az))))) Ov (λe cZ bN c=>aX (bG (fv (ao (cK T.Wj Y) (ao (z3 (J 3) Y) az)))))) (aC (dY (J 0) (J 2) Y) (aX (bG (fv (ao (cK T.Cg Y) az))))),?_⟩;obtain⟨_,g,aB,nl,hd,k7,fh,ep,nm,_⟩:=de.game;obtain⟨_,_,_,_,_,_,_,_,M,_,fe⟩:=id fh;refine⟨⟨_,Y,d,_,_,_,_,Y,hd,T.eO.1,T.hh,Y,g,_,_,_,_,Y,M.cf.obj,T.dm.1,T.pn,Y,_,Y,aB,nl,x.rules,aD,b,Y,fg,M.cf.kr,ep.ef,HM,λy _ au _ bl s2 hf ht agO _=>?_,λk aA m3 au s2 n6=>⟨m3,k,Y,Y,aA,s2,n6⟩⟩,λ_ _ au ⟨m3,k,aO,aT,aA,aE,n6⟩=>⟨aO,λe dT m aU aF _=>?_⟩⟩
 .rw[agH bl]at af;refine⟨_,Y,_,Y,d,_,_,_,Y,s2 _ _ hd,T.eO.1,T.hh,ql,g7,λl aq=>gV.fresh af hd k7 s2 (λc a7=>?_) ht (by omega) agO nm (by show y.moves.length+50<=n+1;omega) aq⟩;obtain h|h|h:=hf c a7
  .rw[h];exact .inl (fe aB (iw.mpr (.inr (.inl Y))))
  .rw[h];exact .inl (fe nl (iw.mpr (.inr (.inr (.inl Y)))))
  exact .inr h
 rw[agG aA]at af;have ll:dT=m3:=by rw[aT]at aU;exact(gX aU).symm
 subst ll;refine⟨_,Y,e,_,_,_,dT,_,_,_,Y,xm,by simp,aF,n6,zI aF n6,Y,nL,λl aq=>?_⟩;exact af.keep de (aw.upd aE aq) (aE.free aq) b0
theorem Z7{f:Nat->aS}{c:Nat}(h:∀i,(f i).length<=c):∀l:List Nat,(l.flatMap f).length<=c*l.length
 |[]=>cO _
 |x::l=>by rw[mO,df,fQ,aif];have:=h x;have:=Z7 h l;omega
theorem Ox(s:dh r)(q:gp):(r.line q).length<=600:=by
 have pU:=s.pU;have p5:=s.p5;unfold alX;rw[df];have:=Z7 (c:=42) (f:=λ(i:Nat)=>(if i=0 then[]else[47])++oC 0 (r.rowOf q (r.high-1-i))) (λi=>by
  rw[df];have e:(r.rowOf q (r.high-1-i)).length=r.wide:=by unfold IT;simp
  have:=FO (r.rowOf q (r.high-1-i)) 0 (by rw[e];omega);rw[e]at this;have:((if i=0 then[]else[47]:aS)).length<=1:=by split<;>simp
  omega) (eA r.high)
 rw[Ia]at this;simp only[fQ,tS];omega
theorem agP(R:Tf.Right r)(fD:Tf.Row r l):∀b∈iq r l,b.length<=30:=λb a0=>by
 unfold iq at a0;obtain⟨i,hi,rfl⟩:=fA.mp a0;have hi:=fR.mp hi;have e:l.take (i+1)=l.take i++[l[i]]:=by rw[tU,f7 hi];rfl
 have j1:=(fD.take (i+1)).last e;have hw:=j1.1.wf R.g.b_ (nE R);have:l.getD i (0,0)=l[i]:=by simp[A4,f7 hi]
 rw[this];exact NS R.g.b_ hw (p7 hw R.g.b_ j1.2)
theorem Z8{c:Nat}:∀l:List aS,(∀b∈l,b.length<=c)->l.flatten.length<=c*l.length
 |[],_=>cO _
 |x::l,h=>by rw[DB,df,fQ,aif];have:=h x iy;have:=Z8 l λb a0=>h b (ez _ a0);omega
theorem agQ{x:jM}{h k:aS}(c8:Tf.Inv x)(nm:x.rules.name.length<=16)(vt:x.game.moves.length<=900)(HH:h.length<=1500)(HI:k.length<=1500):(x.rules.gameText h k x.game).length<=40000:=by
 rw[T5];have afu:Tf.dJ.length=5:=by decide+kernel
 have afv:Tf.ht.length=7:=by decide+kernel
 have gT:=FU (FQ x.rules x.game) (FR x.rules x.game);have:=Z8 (c:=31) ((iq x.rules x.game.moves).map (·++[10])) λb a0=>by obtain⟨z,aR,rfl⟩:=fA.mp a0;have:=agP c8.ef c8.fD z aR;rw[df,gu];omega
 rw[cW,FP]at this;simp only[df,gu];refine dC (P1 (Nat.add_le_add_right (P1 this _) _) _) ?_;omega
theorem Oy(z:Int)(t:aS)(l:List Int):c8 (pF z (.text t::l.map .num)).nums=(.int z::.int ((t.length:Nat):Int)::cy t)++c8 l:=by
 have e:∀l:List Int,(l.map Tafl.Item.num).flatMap a11=l:=λl=>by induction l with|nil=>rfl|cons n l ih=>rw[i9,mO,ih];rfl
 unfold pF ajI;simp only[mO,a11,e];unfold c8 cy;simp
def agR(a:b5):bF:=λvs H Q _=>∃d F n x,∃k:Nat,vs=[.ref d,.int (k:Int)]/\h6 a H d F n (B x)/\k<=x.game.moves.length/\∀l H',H l=aa->aw H H'->H' l=B (.lst (.int 0::.int (((x.rules.line (x.rules.after (x.game.moves.take k))).length:Nat):Int)::cy (x.rules.line (x.rules.after (x.game.moves.take k)))))->Q (.ref l) H'
def agS(a:b5):bF:=λvs H Q _=>∃d F n x,vs=[.ref d]/\h6 a H d F n (B x)/\gV a H d F n (fk (B x) .now).1 (fk (B x) .now).2 Q
def agT(a:b5):bF:=λvs H Q _=>∃d F n x,∃k:Nat,vs=[.ref d,.int (k:Int)]/\h6 a H d F n (B x)/\gV a H d F n (fk (B x) (.at_ k)).1 (fk (B x) (.at_ k)).2 Q
def agU(a:b5):bF:=λvs H Q _=>∃d F n x,∃k:Nat,vs=[.ref d,.int (k:Int)]/\h6 a H d F n (B x)/\gV a H d F n (fk (B x) (.made k)).1 (fk (B x) (.made k)).2 Q
def agV(a:b5):bF:=λvs H Q _=>∃d F n x ar dH h k,vs=[.ref d,.ref ar,.ref dH]/\h6 a H d F n (B x)/\x.game.moves.length<=900/\H ar=B (.lst (cy h))/\H dH=B (.lst (cy k))/\h.length<=1500/\k.length<=1500/\gV a H d F n (fk (B x) (.text h k)).1 (fk (B x) (.text h k)).2 Q
theorem Z9(T:Txt K a6 a):fY P w K a6 base cj 4 a.f6 "line_at" ["self","k"] (agR a):=by
 refine T.ab0.ok a93 (λf b4 A _ s H _ Q E ah h=>?_);obtain⟨d,F,n,x,k,rfl,de,_,c7⟩:=h;have O:dn 1 (A.deeper (fB "Desk.line_at" (bo Mh) s.heap.objs.size f b4)):=ah.mono;refine⟨_,aX (bG (ct (HR T) O Y bw (ao (ct (rT T) O Y bw (ao (ct (aeH T) ah Y bw (ao (bg (bg (J 0) Y) Y) (ao (bg (dV hD (bg (bg (J 0) Y) Y) (J 1) (λ_ _=>rfl)) Y) az))) az)) az))),?_⟩;obtain⟨_,g,aB,_,hd,_,fh,ep,_,_⟩:=de.game;obtain⟨aV,_,_,_,c5,_,_,_,M,_⟩:=id fh;have c4:k<c5.length:=by rw[M.cf.ks];omega
 have Dm:=f7 c4;obtain⟨⟨_,ax⟩,ar⟩:=M.cf.r' k _ Dm;have j_:hb (c5.map λs=>V.ref s.1) (k:Int)=B (.ref c5[k].1):=gr (by rw[fP,Dm];rfl);have hw:=(ep.fD.take k).wf ep.ef.g.b_ (nE ep.ef);have bD:=Ox ep.ef.g.b_ (x.rules.after (x.game.moves.take k));refine⟨_,Y,d,_,_,_,_,Y,hd,T.eO.1,T.hh,Y,g,_,_,_,_,Y,M.cf.obj,T.dm.1,T.pn,Y,_,Y,d,_,_,_,_,Y,hd,T.eO.1,T.hh,Y,g,_,_,_,_,Y,M.cf.obj,T.dm.1,T.x4,Y,_,Y,aV,_,_,_,Y,Y,bp.of M.cf.iv,j_,c5[k].1,_,_,_,_,Y,ax,T.ny.1,T.zv,Y,aB,x.rules,_,c5[k].2,Y,M.cf.kr.at,ar,ep.ef.g.b_,hw,λ_ s1=>⟨_,Y,(by omega),λt _ _ s2 vz=>⟨t,_,Y,vz,(by rw[iu];omega),λl bc aq bE gT=>?_⟩⟩⟩;rw[iu]at gT;exact c7 l bc ((s1.trans s2).free aq) ((s1.trans s2).trans bE) gT
theorem agW(T:Txt K a6 a):fY P w K a6 base cj 5 a.f6 "now" ["self"] (agS a):=by
 refine T.aaY.ok MA (λf _ A _ s H _ Q E ah h=>?_);obtain⟨d,F,n,x,rfl,de,af⟩:=h;refine⟨_,aC (cx (i:=1) MA.bh (bg (J 0) Y)) (aC (cx (i:=2) MA.bh (fc i' Y T.hU ia (ao (bg (J 1) Y) az))) (aX (bG (da nZ (dP (Z9 T) (J 0) T.eO.1 ah bw (ao (J 2) az)) (fv (ao (J 2) (ao (g5 (D9 T) (J 1) T.dm.1 ah.mono bw) (ao (g5 (af9 T) (J 1) T.dm.1 ah.mono bw) (ao (bg (g5 (xo T) (J 1) T.dm.1 ah.mono bw) Y) az))))))))),?_⟩;obtain⟨_,g,aB,nl,hd,_,fh,ep,_,_⟩:=de.game;obtain⟨aV,bA,iJ,a_,_,ts,q4,_,M,_⟩:=id fh;have af:gV a H d F n (B x) (pF 0 [.text (x.rules.line (x.rules.after x.game.moves)),.num x.game.moves.length,.num (x.rules.overOf x.game),.num (x.rules.winner x.game),.num (x.rules.seen x.game.moves)]) Q:=af;have oq:((ts.map V.ref).length:Int)=((x.game.moves.length:Nat):Int):=by rw[cW,M.ku]
 have bD:=Ox ep.ef.g.b_ (x.rules.after x.game.moves);refine⟨_,Y,d,_,_,_,_,Y,hd,T.eO.1,T.hh,Y,_,Y,g,_,_,_,_,Y,M.cf.obj,T.dm.1,T.tp,Y,bA,_,Y,.inl (bp.of M.j6),?_⟩;rw[oq];refine⟨_,Y,d,_,_,Y,hd,Y,_,Y,d,F,n,x,x.game.moves.length,Y,de,cO _,λt ai _ s1 vz=>?_⟩;rw[j8]at vz;have s9:=M.keep (H':=ai) λc _ o q=>s1 c o q;have Za:=fh.same s1;obtain⟨hx,aO,⟨⟨_,ax⟩,_⟩,_⟩:=s9.cf.last;refine⟨_,Y,_,Y,g,_,_,Y,s9.cf.obj,Y,g,aB,nl,F,n,x,Y,Za,ep,_,Y,g,_,_,Y,s9.cf.obj,Y,g,aB,nl,F,n,x,Y,Za,ep,_,Y,g,_,_,Y,s9.cf.obj,Y,g,aB,aV,bA,iJ,a_,q4,_,_,_,Y,s9.cf.obj,s9.cf.iv,aO,hx.1,_,_,_,_,Y,ax,T.ny.1,T.GA,Y,(by show 4<=cM;decide),λgx hc=>?_⟩;have s2:=aw.upd (o:=.lst (c8 [((x.game.moves.length:Nat):Int),((x.rules.overOf x.game:Nat):Int),((x.rules.winner x.game:Nat):Int),((x.rules.seen x.game.moves:Nat):Int)])) (aw.refl ai) hc;refine⟨t,gx,_,_,Y,Y,s2 _ _ vz,b0,?_,λl aq=>?_⟩
 .exact hl (gy (by simp only[fQ,tS,iu];omega))
 refine af.keep de (s1.trans (aw.upd s2 aq)) ((s1.trans s2).free aq) ?_;rw[b0];exact f_ (λz=>B (dy.lst z)) (Oy 0 _ [((x.game.moves.length:Nat):Int),((x.rules.overOf x.game:Nat):Int),((x.rules.winner x.game:Nat):Int),((x.rules.seen x.game.moves:Nat):Int)]).symm
theorem agX(T:Txt K a6 a):fY P w K a6 base cj 5 a.f6 "at" ["self","k"] (agT a):=by
 refine T.aaZ.ok a92 (λf _ A _ s H _ Q E ah h=>?_);obtain⟨d,F,n,x,k,rfl,de,af⟩:=h;refine⟨_,aC (d3 (c' rx (J 1) (fc i' Y T.hU ia (ao (bg (bg (J 0) Y) Y) az)) (cq _)) (aX (bG (fv (ao (cK T.Gv Y) az)))) d8) (aX (bG (da nZ (dP (Z9 T) (J 0) T.eO.1 ah bw (ao (J 1) az)) (fv (ao (bg (dV hD (bg (bg (J 0) Y) Y) (J 1) (λ_ _=>rfl)) Y) az))))),?_⟩;obtain⟨_,g,_,_,hd,_,fh,ep,_,_⟩:=de.game;obtain⟨aV,bA,_,_,c5,ts,_,_,M,_⟩:=id fh;have af:gV a H d F n (B x) (if x.game.moves.length<k then ho (-2)else pF 0 [.text (x.rules.line (x.rules.after (x.game.moves.take k))),.num (x.rules.seen (x.game.moves.take k))]) Q:=af;have oq:((ts.map V.ref).length:Int)=((x.game.moves.length:Nat):Int):=by rw[cW,M.ku]
 refine⟨_,Y,_,Y,d,_,_,_,_,Y,hd,T.eO.1,T.hh,Y,g,_,_,_,_,Y,M.cf.obj,T.dm.1,T.tp,Y,bA,_,Y,.inl (bp.of M.j6),_,_,Y,Y,_,Y,?_⟩;rw[oq];by_cases aA:x.game.moves.length<k
 .rw[aZ aA]at af;exact eJ (eE (by omega)) ⟨g7,λl aq=>af.refuse de (aw.refl H) aq⟩
 rw[aL aA]at af;have bD:=Ox ep.ef.g.b_ (x.rules.after (x.game.moves.take k));refine e7 (λz=>aA (by have:=e3 z;omega)) ?_;refine⟨_,Y,d,_,_,Y,hd,Y,_,Y,d,F,n,x,k,Y,de,(by omega),λt ai _ s1 vz=>?_⟩;have s9:=M.keep (H':=ai) λc _ o q=>s1 c o q;have c4:k<c5.length:=by rw[M.cf.ks];omega
 have Dm:=f7 c4;obtain⟨⟨_,ax⟩,_⟩:=s9.cf.r' k _ Dm;have j_:hb (c5.map λs=>V.ref s.1) (k:Int)=B (.ref c5[k].1):=gr (by rw[fP,Dm];rfl);refine⟨_,Y,d,_,_,_,_,Y,s1 _ _ hd,T.eO.1,T.hh,Y,g,_,_,_,_,Y,s9.cf.obj,T.dm.1,T.x4,Y,_,Y,aV,_,_,_,Y,Y,bp.of s9.cf.iv,j_,c5[k].1,_,_,_,_,Y,ax,T.ny.1,T.GA,Y,g7,λgx hc=>?_⟩;have s2:=aw.upd (o:=.lst (c8 [((x.rules.seen (x.game.moves.take k):Nat):Int)])) (aw.refl ai) hc;refine⟨t,gx,_,_,Y,Y,s2 _ _ vz,b0,?_,λl aq=>?_⟩
 .exact hl (gy (by simp only[fQ,tS,iu];omega))
 refine af.keep de (s1.trans (aw.upd s2 aq)) ((s1.trans s2).free aq) ?_;rw[b0];exact f_ (λz=>B (dy.lst z)) (Oy 0 _ [((x.rules.seen (x.game.moves.take k):Nat):Int)]).symm
theorem agY(T:Txt K a6 a):fY P w K a6 base cj 2 a.f6 "made" ["self","k"] (agU a):=by
 refine T.ab1.ok a94 (λf _ A _ s H _ Q E ah h=>?_);obtain⟨d,F,n,x,k,rfl,de,af⟩:=h;refine⟨_,aC (d3 (c' EC (J 1) (fc i' Y T.hU ia (ao (bg (bg (J 0) Y) Y) az)) (cq _)) (aX (bG (fv (ao (cK T.Gv Y) az)))) d8) (aX (bG (ct (HR T) ah Y bw (ao (dV hD (bg (bg (J 0) Y) Y) (J 1) (λ_ _=>rfl)) az)))),?_⟩;obtain⟨_,g,_,_,hd,_,fh,ep,_,_⟩:=de.game;obtain⟨_,bA,_,_,_,ts,_,_,M,_⟩:=id fh;have af:gV a H d F n (B x) (if x.game.moves.length<=k then ho (-2)else pF 0 [.list (qj x.rules x.game.moves k)]) Q:=af;have oq:((ts.map V.ref).length:Int)=((x.game.moves.length:Nat):Int):=by rw[cW,M.ku]
 refine⟨_,Y,_,Y,d,_,_,_,_,Y,hd,T.eO.1,T.hh,Y,g,_,_,_,_,Y,M.cf.obj,T.dm.1,T.tp,Y,bA,_,Y,.inl (bp.of M.j6),_,_,Y,Y,_,Y,?_⟩;rw[oq];by_cases aA:x.game.moves.length<=k
 .rw[aZ aA]at af;exact eJ (eE (by omega)) ⟨g7,λl aq=>af.refuse de (aw.refl H) aq⟩
 rw[aL aA]at af;refine e7 (λz=>aA (by have:=e3 z;omega)) ?_;have c4:k<ts.length:=by rw[M.ku];omega
 have vp:=f7 c4;have j_:hb (ts.map V.ref) (k:Int)=B (.ref ts[k]):=gr (by rw[fP,vp];rfl);have agz:(qj x.rules x.game.moves k).length<=200:=by
  have yz:k<x.game.moves.length:=by omega
  have e:x.game.moves.take (k+1)=x.game.moves.take k++[x.game.moves[k]]:=by rw[tU,f7 yz];rfl
  have j1:=(ep.fD.take (k+1)).last e;have hw:=j1.1.wf ep.ef.g.b_ (nE ep.ef);have:=BA hw ep.ef.g.b_ (p7 hw ep.ef.g.b_ j1.2);unfold qj;have ll:x.game.moves.getD k (0,0)=x.game.moves[k]:=by simp[A4,f7 yz]
  rw[ll];simp only[fQ];omega
 refine⟨_,Y,d,_,_,_,_,Y,hd,T.eO.1,T.hh,Y,g,_,_,_,_,Y,M.cf.obj,T.dm.1,T.tp,Y,_,Y,bA,_,_,_,Y,Y,bp.of M.j6,j_,ts[k],_,Y,(M.vr k _ vp).1,(by rw[jv];omega),λl _ aq s2 gT=>?_⟩;refine af.keep de s2 aq ?_;rw[gT,jv,YY]
theorem agZ(T:Txt K a6 a):fY P w K a6 base cj 5 a.f6 "text" ["self","hunters_name","kings_name"] (agV a):=by
 refine T.ab2.ok a95 (λf _ A _ s H _ Q E ah h=>?_);obtain⟨d,F,n,x,ar,dH,a0,iR,rfl,de,vt,bU,aA,HH,HI,af⟩:=h;refine⟨_,aC (d3 (jc.pt (Eo (v_ (je (ct (W' T) ah Y bw (ao (J 1) az)))) (Je (v_ (je (ct (W' T) ah Y bw (ao (J 2) az))))))) (aX (bG (fv (ao (cK T.Wi Y) az)))) d8) (aX (bG (ct (HR T) ah.mono Y bw (ao (ct (aft T) ah Y bw (ao (bg (J 0) Y) (ao (J 1) (ao (J 2) az)))) az)))),?_⟩;obtain⟨_,g,aB,nl,hd,_,fh,ep,nm,_⟩:=de.game;have af:gV a H d F n (B x) (if rj a0=aJ∨rj iR=aJ then ho (-1)else pF 0 [.text (x.rules.gameText a0 iR x.game)]) Q:=af;have fin:∀au,aw H au->rj a0=a9->rj iR=a9->(oM (mw YX [] pQ (eL (mw (Yt a) [] pQ (eL (ji K (dr 0) "game") (eL (dr 1) (eL (dr 2) gc)))) gc))) {c6:=λ_ H'=>Q .bS H',ic:=Q} [B (.ref d),B (.ref ar),B (.ref dH)] au:=λau s2 aO aT=>by rw[aL (by rw[aO,aT];decide)]at af;refine⟨_,Y,d,_,_,_,_,Y,s2 _ _ hd,T.eO.1,T.hh,Y,_,Y,_,Y,g,aB,nl,F,n,x,ar,dH,a0,iR,Y,fh.same s2,ep,nm,vt,s2 _ _ bU,s2 _ _ aA,HH,HI,λt _ _ bE vz=>⟨t,_,Y,vz,(by rw[iu];have:=agQ ep nm vt HH HI;omega),λl _ aq s4 gT=>?_⟩⟩;refine af.keep de ((s2.trans bE).trans s4) ((s2.trans bE).free aq) ?_;rw[gT,iu];have:=Oy 0 (x.rules.gameText a0 iR x.game) [];rw[show c8 []=[]from Y,hN]at this;exact f_ (λz=>B (dy.lst z)) this.symm
 refine⟨_,Y,ar,a0,Y,bU,λ_ s1=>⟨_,Y,?_⟩⟩;dsimp only;cases aO:rj a0 with
 |false=>rw[aZ (.inl aO)]at af;exact hE (hE ⟨g7,λl aq=>af.refuse de s1 aq⟩)
 |true=>refine gz ⟨_,Y,dH,iR,Y,s1 _ _ aA,λau s2=>⟨_,Y,?_⟩⟩;cases aT:rj iR with|false=>rw[aZ (.inr aT)]at af;exact hE ⟨g7,λl aq=>af.refuse de (s1.trans s2) aq⟩|true=>exact gz (fin au (s1.trans s2) aO aT)
def Oz(H:ak)(l:I)(cH:List (List Int)):Prop:=∃fw:List I,H l=B (.lst (fw.map V.ref))/\fw.length=cH.length/\∀(i:Nat) q r,fw[i]? =B q->cH[i]? =B r->H q=B (.lst (c8 r))
def ah0(a:b5):bF:=λvs H Q _=>∃d F n s nl j1 p ns cH x,vs=[.ref d,.int p,.ref nl,.ref j1]/\h6 a H d F n s/\800<=n/\n<=5000/\H nl=B (.lst (c8 ns))/\Oz H j1 cH/\(∀r∈cH,r.length<=1500)/\Tf.Means ((p::ns)::cH) x/\(∀y,s=B y->y.game.moves.length<900)/\gV a H d F n (fk s x).1 (fk s x).2 Q
def ah1(a:b5):bF:=λvs H Q _=>∃d a3,vs=[.ref d]/\H d=B (.ins a.f6 a3 [])/\Q .bS (av H d (.ins a.f6 a3 [("game",.bS)]))
theorem Dn(b:aS):c8 (Tf.zs b)=cy b:=by unfold c8 Tf.zs cy;rw[ix];rfl
theorem Oz.at{l:I}{cH:List (List Int)}(h:Oz H l cH){r:List Int}(ah:cH[i]? =B r):∃q xs,H l=B (.lst xs)/\hb xs (i:Int)=B (.ref q)/\H q=B (.lst (c8 r)):=by
 obtain⟨fw,O,a5,aG⟩:=h;have hi:i<fw.length:=by rw[a5];exact(ec.mp ah).1
 have e:=f7 hi;exact⟨fw[i],_,O,gr (by rw[fP,e];rfl),aG i _ _ e ah⟩
theorem Dp{l:List Int}{z:Int}(h:l[i]? =B z):hb (c8 l) (i:Int)=B (.int z):=gr (by unfold c8;rw[fP,h];rfl)
theorem ah2(T:Txt K a6 a):ph P w K a6 base cj 1 a.f6 ["self"] (ah1 a):=by refine T.aaQ.ok a8W (λf _ A _ s H _ Q E _ h=>?_);obtain⟨x,_,rfl,ag,k⟩:=h;exact⟨_,aX (dY (J 0) AB Y),_,Y,x,_,_,_,Y,ag,T.eO.1,T.hh,by decide,k⟩
set_option maxHeartbeats 4000000 in
theorem ah3(T:Txt K a6 a):fY P w K a6 base cj 13 a.f6 "answer" ["self","call","numbers","rows"] (ah0 a):=by
 refine T.aaR.ok a8X (λf b4 A _ s H _ Q E ah h=>?_);obtain⟨d,F,n,st,nl,j1,p,_,_,x,rfl,de,HV,kh,tC,Dq,Dr,gL,k8,af⟩:=h;have i1:dn 11 (A.deeper (fB "Desk.answer" (bo zi) s.heap.objs.size f b4)):=ah.mono;have NC:dn 3 (A.deeper (fB "Desk.answer" (bo zi) s.heap.objs.size f b4)):=ah.mono;have nM:dn 2 (A.deeper (fB "Desk.answer" (bo zi) s.heap.objs.size f b4)):=ah.mono;have OA:dn 5 (A.deeper (fB "Desk.answer" (bo zi) s.heap.objs.size f b4)):=ah.mono;refine⟨_,aC (d3 (c' dz (J 1) (cK T.a9h Y) (cq _)) (aX (bG (dP (agL T) (J 0) T.eO.1 i1 bw (ao (dV hD (J 3) cb (λ_ _=>rfl)) az)))) d8) (aC (d3 (Jb (Q5 (bg (J 0) Y))) (aX (bG (fv (ao (cK T.a9p Y) az)))) d8) (aC (d3 (c' dz (J 1) (cK T.a9i Y) (cq _)) (aX (bG (dP (agA T) (J 0) T.eO.1 i1 bw (ao (dV hD (J 2) cb (λ_ _=>rfl)) (ao (dV hD (J 2) cb (λ_ _=>rfl)) az))))) d8) (aC (d3 (c' dz (J 1) (cK T.a9j Y) (cq _)) (aX (bG (dP (agM T) (J 0) T.eO.1 i1 bw (ao (dV hD (J 3) cb (λ_ _=>rfl)) az)))) d8) (aC (d3 (c' dz (J 1) (cK T.a9k Y) (cq _)) (aX (bG (dP (agx T) (J 0) T.eO.1 NC bw (ao (dV hD (J 2) cb (λ_ _=>rfl)) az)))) d8) (aC (d3 (c' dz (J 1) (cK T.a9l Y) (cq _)) (aX (bG (g5 (agy T) (J 0) T.eO.1 nM bw))) d8) (aC (d3 (c' dz (J 1) (cK T.a9m Y) (cq _)) (aX (bG (g5 (agW T) (J 0) T.eO.1 OA bw))) d8) (aC (d3 (c' dz (J 1) (cK T.AT Y) (cq _)) (aX (bG (dP (agX T) (J 0) T.eO.1 OA bw (ao (dV hD (J 2) cb (λ_ _=>rfl)) az)))) d8) (aC (d3 (c' dz (J 1) (cK T.a9n Y) (cq _)) (aX (bG (dP (agY T) (J 0) T.eO.1 nM bw (ao (dV hD (J 2) cb (λ_ _=>rfl)) az)))) d8) (aC (d3 (c' dz (J 1) (cK T.a9o Y) (cq _)) (aX (bG (dP (agZ T) (J 0) T.eO.1 OA bw (ao (dV hD (J 3) cb (λ_ _=>rfl)) (ao (dV hD (J 3) cb (λ_ _=>rfl)) az))))) d8) (aX (bG (dP (agN T) (J 0) T.eO.1 ah bw (ao (dV hD (J 3) cb (λ_ _=>rfl)) az))))))))))))),?_⟩;obtain⟨_,sa,hd,_,aY⟩:=id de;refine⟨_,Y,Y,_,Y,?_⟩;cases gL with
 |begin_ t=>obtain⟨q,xs,O,a5,aG⟩:=Dq.at (i:=0) Y;rw[Dn]at aG;exact i6 ⟨_,Y,d,_,_,Y,hd,Y,_,Y,j1,_,_,_,Y,Y,bp.of O,a5,d,F,n,st,q,t,Y,de,HV,aG,af⟩
 |move u v=>refine d6 ⟨_,Y,d,_,_,_,_,Y,hd,T.eO.1,T.hh,Y,_,Y,?_⟩;cases st with|none=>obtain rfl:sa=.bS:=aY;exact i6 ⟨g7,λl aq=>af.refuse de (aw.refl H) aq⟩|some y=>have k8:=k8 y Y;obtain⟨g,aB,nm,rfl,_⟩:=aY;refine e7 (λz=>nomatch (e3 z)) ?_;exact⟨_,Y,Y,_,Y,i6 ⟨_,Y,d,_,_,Y,hd,Y,_,Y,nl,_,_,_,Y,Y,bp.of tC,Dp (i:=0) Y,_,Y,nl,_,_,_,Y,Y,bp.of tC,Dp (i:=1) Y,d,F,n,y,u,v,Y,de,kh,k8,af⟩⟩
 |say t=>refine d6 ⟨_,Y,d,_,_,_,_,Y,hd,T.eO.1,T.hh,Y,_,Y,?_⟩;cases st with|none=>obtain rfl:sa=.bS:=aY;exact i6 ⟨g7,λl aq=>af.refuse de (aw.refl H) aq⟩|some y=>have k8:=k8 y Y;obtain⟨g,aB,nm,rfl,_⟩:=aY;refine e7 (λz=>nomatch (e3 z)) ?_;refine⟨_,Y,Y,_,Y,d6 ?_⟩;obtain⟨q,xs,O,a5,aG⟩:=Dq.at (i:=0) Y;rw[Dn]at aG;exact⟨_,Y,Y,_,Y,i6 ⟨_,Y,d,_,_,Y,hd,Y,_,Y,j1,_,_,_,Y,Y,bp.of O,a5,d,F,n,y,q,t,Y,de,kh,k8,aG,af⟩⟩
 |end_ h=>refine d6 ⟨_,Y,d,_,_,_,_,Y,hd,T.eO.1,T.hh,Y,_,Y,?_⟩;cases st with|none=>obtain rfl:sa=.bS:=aY;exact i6 ⟨g7,λl aq=>af.refuse de (aw.refl H) aq⟩|some y=>have k8:=k8 y Y;obtain⟨g,aB,nm,rfl,_⟩:=aY;refine e7 (λz=>nomatch (e3 z)) ?_;refine⟨_,Y,Y,_,Y,d6 ?_⟩;refine⟨_,Y,Y,_,Y,d6 ?_⟩;exact⟨_,Y,Y,_,Y,i6 ⟨_,Y,d,_,_,Y,hd,Y,_,Y,nl,_,_,_,Y,Y,bp.of tC,Dp (i:=0) Y,d,F,n,y,h,Y,de,af⟩⟩
 |back=>refine d6 ⟨_,Y,d,_,_,_,_,Y,hd,T.eO.1,T.hh,Y,_,Y,?_⟩;cases st with|none=>obtain rfl:sa=.bS:=aY;exact i6 ⟨g7,λl aq=>af.refuse de (aw.refl H) aq⟩|some y=>have k8:=k8 y Y;obtain⟨g,aB,nm,rfl,_⟩:=aY;refine e7 (λz=>nomatch (e3 z)) ?_;refine⟨_,Y,Y,_,Y,d6 ?_⟩;refine⟨_,Y,Y,_,Y,d6 ?_⟩;refine⟨_,Y,Y,_,Y,d6 ?_⟩;exact⟨_,Y,Y,_,Y,i6 ⟨_,Y,d,_,_,Y,hd,Y,d,F,n,y,Y,de,kh,af⟩⟩
 |now=>refine d6 ⟨_,Y,d,_,_,_,_,Y,hd,T.eO.1,T.hh,Y,_,Y,?_⟩;cases st with|none=>obtain rfl:sa=.bS:=aY;exact i6 ⟨g7,λl aq=>af.refuse de (aw.refl H) aq⟩|some y=>have k8:=k8 y Y;obtain⟨g,aB,nm,rfl,_⟩:=aY;refine e7 (λz=>nomatch (e3 z)) ?_;refine⟨_,Y,Y,_,Y,d6 ?_⟩;refine⟨_,Y,Y,_,Y,d6 ?_⟩;refine⟨_,Y,Y,_,Y,d6 ?_⟩;refine⟨_,Y,Y,_,Y,d6 ?_⟩;exact⟨_,Y,Y,_,Y,i6 ⟨_,Y,d,_,_,Y,hd,Y,d,F,n,y,Y,de,af⟩⟩
 |at_ k=>refine d6 ⟨_,Y,d,_,_,_,_,Y,hd,T.eO.1,T.hh,Y,_,Y,?_⟩;cases st with|none=>obtain rfl:sa=.bS:=aY;exact i6 ⟨g7,λl aq=>af.refuse de (aw.refl H) aq⟩|some y=>have k8:=k8 y Y;obtain⟨g,aB,nm,rfl,_⟩:=aY;refine e7 (λz=>nomatch (e3 z)) ?_;refine⟨_,Y,Y,_,Y,d6 ?_⟩;refine⟨_,Y,Y,_,Y,d6 ?_⟩;refine⟨_,Y,Y,_,Y,d6 ?_⟩;refine⟨_,Y,Y,_,Y,d6 ?_⟩;refine⟨_,Y,Y,_,Y,d6 ?_⟩;exact⟨_,Y,Y,_,Y,i6 ⟨_,Y,d,_,_,Y,hd,Y,_,Y,nl,_,_,_,Y,Y,bp.of tC,Dp (i:=0) Y,d,F,n,y,k,Y,de,af⟩⟩
 |made k=>refine d6 ⟨_,Y,d,_,_,_,_,Y,hd,T.eO.1,T.hh,Y,_,Y,?_⟩;cases st with|none=>obtain rfl:sa=.bS:=aY;exact i6 ⟨g7,λl aq=>af.refuse de (aw.refl H) aq⟩|some y=>have k8:=k8 y Y;obtain⟨g,aB,nm,rfl,_⟩:=aY;refine e7 (λz=>nomatch (e3 z)) ?_;refine⟨_,Y,Y,_,Y,d6 ?_⟩;refine⟨_,Y,Y,_,Y,d6 ?_⟩;refine⟨_,Y,Y,_,Y,d6 ?_⟩;refine⟨_,Y,Y,_,Y,d6 ?_⟩;refine⟨_,Y,Y,_,Y,d6 ?_⟩;refine⟨_,Y,Y,_,Y,d6 ?_⟩;exact⟨_,Y,Y,_,Y,i6 ⟨_,Y,d,_,_,Y,hd,Y,_,Y,nl,_,_,_,Y,Y,bp.of tC,Dp (i:=0) Y,d,F,n,y,k,Y,de,af⟩⟩
 |text t t'=>refine d6 ⟨_,Y,d,_,_,_,_,Y,hd,T.eO.1,T.hh,Y,_,Y,?_⟩;cases st with|none=>obtain rfl:sa=.bS:=aY;exact i6 ⟨g7,λl aq=>af.refuse de (aw.refl H) aq⟩|some y=>have k8:=k8 y Y;obtain⟨g,aB,nm,rfl,_⟩:=aY;refine e7 (λz=>nomatch (e3 z)) ?_;refine⟨_,Y,Y,_,Y,d6 ?_⟩;refine⟨_,Y,Y,_,Y,d6 ?_⟩;refine⟨_,Y,Y,_,Y,d6 ?_⟩;refine⟨_,Y,Y,_,Y,d6 ?_⟩;refine⟨_,Y,Y,_,Y,d6 ?_⟩;refine⟨_,Y,Y,_,Y,d6 ?_⟩;refine⟨_,Y,Y,_,Y,d6 ?_⟩;obtain⟨q,xs,O,a5,aG⟩:=Dq.at (i:=0) Y;rw[Dn]at aG;obtain⟨eQ,_,uz,Bi,Zb⟩:=Dq.at (i:=1) Y;rw[Dn]at Zb;have Ds:=Dr _ (iy);rw[Ll]at Ds;have Zc:=Dr _ (ez _ iy);rw[Ll]at Zc;exact⟨_,Y,Y,_,Y,i6 ⟨_,Y,d,_,_,Y,hd,Y,_,Y,j1,_,_,_,Y,Y,bp.of O,a5,_,Y,j1,_,_,_,Y,Y,bp.of uz,Bi,d,F,n,y,q,eQ,t,t',Y,de,hl k8,aG,Zb,Ds,Zc,af⟩⟩
 |read t=>refine d6 ⟨_,Y,d,_,_,_,_,Y,hd,T.eO.1,T.hh,Y,_,Y,?_⟩;cases st with|none=>obtain rfl:sa=.bS:=aY;exact i6 ⟨g7,λl aq=>af.refuse de (aw.refl H) aq⟩|some y=>have k8:=k8 y Y;obtain⟨g,aB,nm,rfl,_⟩:=aY;refine e7 (λz=>nomatch (e3 z)) ?_;refine⟨_,Y,Y,_,Y,d6 ?_⟩;refine⟨_,Y,Y,_,Y,d6 ?_⟩;refine⟨_,Y,Y,_,Y,d6 ?_⟩;refine⟨_,Y,Y,_,Y,d6 ?_⟩;refine⟨_,Y,Y,_,Y,d6 ?_⟩;refine⟨_,Y,Y,_,Y,d6 ?_⟩;refine⟨_,Y,Y,_,Y,d6 ?_⟩;refine⟨_,Y,Y,_,Y,d6 ?_⟩;obtain⟨q,xs,O,a5,aG⟩:=Dq.at (i:=0) Y;rw[Dn]at aG;have Ds:=Dr _ (iy);rw[Ll]at Ds;exact⟨_,Y,d,_,_,Y,hd,Y,_,Y,j1,_,_,_,Y,Y,bp.of O,a5,d,F,n,y,q,t,Y,de,HV,aG,Ds,af⟩
theorem Zd(s:aw H H'):h5 S H H':=λc u _ q=>s c u q
theorem h6.frame(h:h6 a H d F n s)(cF:h5 S H H')(hd:d∉S)(fe:∀c∈F,c∉S):h6 a H' d F n s:=by obtain⟨a3,v,O,a5,aG⟩:=h;refine⟨a3,v,cF _ _ hd O,a5,?_⟩;cases s with|none=>exact aG|some x=>obtain⟨g,aB,nl,aO,aT,dX⟩:=aG;exact⟨g,aB,nl,aO,aT.frame cF fe,dX⟩
theorem h6.most(h:h6 a H d F n s):∀y,s=B y->y.game.moves.length+50<=n:=λy e=>by subst e;obtain⟨_,_,_,_,_,_,_,_,_,kU⟩:=h.game;exact kU
theorem ah4(T:Txt K a6 a){p:Int}{ns:List Int}{cH:List (List Int)}{x:Ec}(h:Tf.Means ((p::ns)::cH) x):∃nX,hb ([.ref a.C5,.ref a.C6,.ref a.C7,.ref a.C8,.ref a.C9,.ref a.Ca,.ref a.Cb,.ref a.Cc,.ref a.Cd,.ref a.Ce]:List V) p=B (.ref nX)/\∀H,dq K H nX [.int ((ns.length:Nat):Int),.int ((cH.length:Nat):Int)]:=by cases h with|begin_ t=>exact⟨_,gr (j:=0) rfl,T.C5⟩|move u v=>exact⟨_,gr (j:=1) rfl,T.C6⟩|say t=>exact⟨_,gr (j:=2) rfl,T.C7⟩|end_ h=>exact⟨_,gr (j:=3) rfl,T.C8⟩|back=>exact⟨_,gr (j:=4) rfl,T.C9⟩|now=>exact⟨_,gr (j:=5) rfl,T.Ca⟩|at_ k=>exact⟨_,gr (j:=6) rfl,T.Cb⟩|made k=>exact⟨_,gr (j:=7) rfl,T.Cc⟩|text t u=>exact⟨_,gr (j:=8) rfl,T.Cd⟩|read t=>exact⟨_,gr (j:=9) rfl,T.Ce⟩
theorem ah5{c:List (List Int)}{x:Ec}(h:Tf.Means c x):∃p ns cH,c=(p::ns)::cH/\ns.length<=2/\cH.length<=2:=by cases h<;>exact⟨_,_,_,Y,by simp,by simp⟩
structure OB (a:b5) (H H':ak) (cl f d a_:I) (F:List I) (c2:List (List (List Int))) (xs:List Ec) (i:Nat) (s:ja) (T:List Int):Prop where
 aE:aw H H'
 fd:tO a H' f cl (hY (c2.take i)).length
 de:h6 a H' d F (800+i) s
 dU:H' a_=B (.lst (c8 T))
 bY:T++Tf.tell s (xs.drop i)=Tf.tell vT xs
 hf:H f=aa
 hd:H d=aa
 ba:H a_=aa
 fe:∀c∈F,H c=aa
 De:f∉F
 OC:a_∉F
def Dt(K:bj)(a:b5):bF:=λvs H Q _=>∃cl c2 xs,vs=[.ref cl]/\bp K H cl (c8 (hY c2))/\c2.length=xs.length/\(∀(i:Nat) c x,c2[i]? =B c->xs[i]? =B x->Tf.Means c x)/\(∀c∈c2,∀r∈c.drop 1,r.length<=1500)/\c2.length<=60/\(Tf.tell vT xs).length<=10000000/\∀a_ H',H a_=aa->aw H H'->H' a_=B (.lst (c8 (Tf.tell vT xs)))->Q (.ref a_) H'
set_option maxHeartbeats 2000000 in
theorem ah6{f:I}{fd:ka}(T:Txt K a6 a)(F:o4 K "answers" "answers" BS f fd):jD P w K a6 base cj 14 f fd ["calls"] (Dt K a):=by
 refine F.ok rQ (λvs H Q E h=>?_) (λb4 A _ s H vs Q E ah h=>?_)
 .obtain⟨cl,c2,xs,rfl,_⟩:=h;rfl
 obtain⟨cl,c2,xs,rfl,e_,_,ah7,Dr,_,_,k⟩:=h;have O:dn 1 (A.deeper (fB "answers" (bo BS) s.heap.objs.size f b4)):=ah.mono;have a5:dn 2 (A.deeper (fB "answers" (bo BS) s.heap.objs.size f b4)):=ah.mono;refine⟨_,aC (cx (i:=1) rQ.bh (pj (agn T) a5 Y T.m2.2 bw (ao (J 0) az))) (aC (cx (i:=2) rQ.bh (a8h (ah2 T) a5 Y T.eO.2 bw)) (aC (cx (i:=3) rQ.bh (fv az)) (aC (w0 oz (je (g5 (ago T) (J 1) T.m2.1 O bw)) (aC (cx (i:=4) rQ.bh (g5 (Oo T) (J 1) T.m2.1 O bw)) (aC (EZ (i:=5) (bY:=n5 a.iO "number" (YV K a) [] pQ (dr 1) gc) Y rQ.bh Y Y (E_ Y Y Y Y) (AI Y T.zy (ao (dV lN (dV lN (l' T.tj.1 Y) (J 4) (λ_ _=>rfl)) cb (λ_ _=>rfl)) az)) (o3 (own:=[("count",6)]) Y) (λ_ _ _ _ _=>g_ (i:=6) rQ.bh) (λ_ _ _ _ _=>qu) (λ_ _ _ _ _=>g5 (Oo T) (J 1) T.m2.1 O bw)) (aC (EZ (i:=7) (bY:=n5 a.iO "row" (YW K a) [] pQ (dr 1) gc) Y rQ.bh Y Y (E_ Y Y Y Y) (AI Y T.zy (ao (dV lN (dV lN (l' T.tj.1 Y) (J 4) (λ_ _=>rfl)) cb (λ_ _=>rfl)) az)) (o3 (own:=[("count",6)]) Y) (λ_ _ _ _ _=>g_ (i:=6) rQ.bh) (λ_ _ _ _ _=>qu) (λ_ _ _ _ _=>g5 (agp T) (J 1) T.m2.1 a5 bw)) (aC (cx (i:=8) rQ.bh (dP (ah3 T) (J 2) T.eO.1 ah bw (ao (J 4) (ao (J 5) (ao (J 7) az))))) (aC (e6 (pM oy tV vI sO (J 3) (ao (fc i' Y T.hU ia (ao (J 8) az)) az))) (aX (e6 (pM oy Pf a0f K0 (J 3) (ao (J 8) az)))))))))) (aX (bG (J 3)))))),_,Y,λeg kG OD Ze bV=>⟨eg,kG,cl,Y,b0,Y,?_⟩⟩;rw[iT];have m8:aw H (av (av H kG (.own eg)) eg (.ins a.iO kG (xy cl 0))):=aw.upd (aw.new Ze) (by rw[aN (ed bV)];exact OD);have OE:tO a (av (av H kG (.own eg)) eg (.ins a.iO kG (xy cl 0))) eg cl 0:=⟨kG,b0⟩;generalize av (av H kG (.own eg)) eg (.ins a.iO kG (xy cl 0))=ai at m8 OE ⊢;refine λd ex o9 Hi Zf=>⟨d,ex,Y,b0,Y,?_⟩;rw[iT];have kP:aw ai (av (av ai ex (.own d)) d (.ins a.f6 ex [("game",.bS)])):=aw.upd (aw.new Hi) (by rw[aN (ed Zf)];exact o9);have OF:h6 a (av (av ai ex (.own d)) d (.ins a.f6 ex [("game",.bS)])) d [] (800+0) vT:=⟨ex,.bS,b0,by simp,Y⟩;generalize av (av ai ex (.own d)) d (.ins a.f6 ex [("game",.bS)])=au at kP OF ⊢;refine⟨ek _,λa_ tM=>?_⟩;have HW:aw au (av au a_ (.lst [])):=aw.new tM;have OG:OB a H (av au a_ (.lst [])) cl eg d a_ [] c2 xs 0 vT []:=⟨(m8.trans kP).trans HW,let⟨z,q⟩:=OE;⟨z,HW _ _ (kP _ _ q)⟩,OF.same HW (cO _),b0,by simp,OD,m8.free o9,(m8.trans kP).free tM,by simp,by simp,by simp⟩;generalize av au a_ (.lst [])=bc at OG ⊢;clear tM HW OF kP OE m8 o9 Hi Zf bV Ze OD;refine⟨λm aM H'=>∃i st F r4 g6 fy hV nC z',aM=[B (.ref cl),B (.ref eg),B (.ref d),B (.ref a_),g6,fy,hV,nC,z']/\m=c2.length-i/\i<=c2.length/\OB a H H' cl eg d a_ F c2 xs i st r4,⟨_,0,_,_,_,aa,aa,aa,aa,aa,Y,Y,ek _,OG⟩,?_⟩;clear OG;rintro m aM H' ⟨i,st,F,r4,g6,fy,hV,nC,z',rfl,rfl,hi,L⟩;obtain⟨_,Du⟩:=id L.fd;have OH:=L.aE.seq e_;refine⟨_,Y,eg,_,_,Y,Du,Y,eg,cl,_,_,Y,L.fd,OH,_,Y,?_⟩;obtain c4|z7:=xI i c2.length
 .obtain⟨c,a7⟩:∃c,c2[i]? =B c:=⟨_,f7 c4⟩;obtain⟨x,ag⟩:∃x,xs[i]? =B x:=⟨_,f7 (by omega)⟩;have hm:=ah7 i c x a7 ag;have Lj:=Dr c (mQ a7);obtain⟨p,ns,cH,rfl,_,_⟩:=ah5 hm;obtain⟨nX,j_,z0⟩:=ah4 T hm;obtain⟨At,Zg⟩:=a5Y a7;have Zh:=L.fd;generalize aH:(hY (c2.take i)).length=n at At Zg Zh ⊢;have tC:=(ec.mp At.pl).1;have Zi:a_≠eg:=eV L.dU Du;obtain⟨_,_,Zj,_,_⟩:=id L.de;have Zk:d≠eg:=jK Zj Du (by show(1:Nat)≠2;decide);have HB:a_≠d:=eV L.dU Zj;refine eJ (eE tC) ⟨λcP au=>∃st F r4 g6 fy hV nC z',cP=[B (.ref cl),B (.ref eg),B (.ref d),B (.ref a_),g6,fy,hV,nC,z']/\OB a H au cl eg d a_ F c2 xs (i+1) st r4,λcP au ⟨st,F,r4,g6,fy,hV,nC,z',e,L⟩=>⟨c2.length-(i+1),by omega,i+1,st,F,r4,g6,fy,hV,nC,z',e,Y,c4,L⟩,?_⟩;refine⟨_,Y,eg,_,_,Y,Du,Y,eg,cl,n,_,p,Y,Zh,OH,At.pl,λai HP OI=>?_⟩;have b1:h5 [eg] H' ai:=λc u h q=>HP c u (λz=>h (by simp[z])) q;have lF:∀{c:I},c≠eg->c∉[eg]:=λh z=>h (jL.mp z);have x7:=Om Du HP OH;obtain⟨_,Zl⟩:=id OI;have OJ:∀{aj q9:ak}{e:I}{fs:List (a8×V)},aj eg=B (.ins a.iO e fs)->h5 [eg] aj q9->bp K aj cl (c8 (hY c2))->bp K q9 cl (c8 (hY c2)):=λO a5 aG=>Om O (λc u n q=>a5 c u (lF n) q) aG;refine⟨_,Y,a.tj,_,_,_,Y,Y,T.tj.2 _,j_,nX,_,_,_,Y,Y,z0 _,gr (j:=0) Y,_,Y,(by omega),(by omega),λaf d2=>?_⟩;rw[tP];have HX:af≠eg:=λz=>by obtain⟨q,h⟩:=OI;rw[z,h]at d2;cases d2
  refine Kp (lo:=0) (n:=ns.length) (λj au=>h5 [eg] ai au/\tO a au eg cl (n+1+j)/\au af=B (.lst (c8 (ns.take j)))) ⟨Zd (aw.new d2),let⟨q,h⟩:=OI;⟨q,by rw[aN (ed HX)];exact h⟩,b0⟩ (λj au bX aR=>?_) λau aR=>?_
  .obtain⟨cF,Dv,ah8⟩:=aR;obtain⟨ah9,HY⟩:=id Dv;have aR:=f7 bX;refine⟨Y,_,Y,eg,_,_,Y,HY,Y,eg,cl,_,_,ns[j],Y,Dv,OJ Zl cF x7,At.a5X j _ aR,λcT mc OK=>⟨_,mc _ _ HX ah8,?_,?_,?_,?_⟩⟩
   .rw[xx,k9];exact gy (by omega)
   .intro c u h q;rw[aN (cU q d2)];exact mc c u (λz=>h (by simp[z])) (cF c u h q)
   .obtain⟨q,h⟩:=OK;exact⟨q,by rw[aN (ed HX)];exact h⟩
   rw[b0,take_snoc aR];unfold c8;rw[fH];rfl
  obtain⟨b2,OL,rY⟩:=aR;rw[j8]at rY;refine⟨_,Y,a.tj,_,_,_,Y,Y,T.tj.2 _,j_,nX,_,_,_,Y,Y,z0 _,gr (j:=1) Y,_,Y,(by omega),(by omega),λR d1=>?_⟩;rw[tP];have OM:R≠eg:=λz=>by obtain⟨q,h⟩:=OL;rw[z,h]at d1;cases d1
  obtain⟨_,aha⟩:=id OL;have ahb:=OJ Zl b2 x7;refine Kp (lo:=0) (n:=cH.length) (λj bc=>h5 [eg] au bc/\tO a bc eg cl (n+1+ns.length+(jx (cH.take j)).length)/\∃fw:List I,bc R=B (.lst (fw.map V.ref))/\fw.length=j/\∀(i:Nat) q r,fw[i]? =B q->cH[i]? =B r->bc q=B (.lst (c8 r))/\q≠R)
   ⟨Zd (aw.new d1),let⟨q,h⟩:=OL;⟨q,by rw[aN (ed OM)];exact h⟩,[],b0,Y,λi q r h=>by simp at h⟩ (λj bc bX aR=>?_) λbc aR=>?_
  .obtain⟨cF,Dv,fw,Zm,HZ,ON⟩:=aR;obtain⟨ah9,HY⟩:=id Dv;have ah:=f7 bX;obtain⟨o1,o2,ahc⟩:=At.fD j _ ah;obtain⟨_,ahd⟩:=SN ah;refine⟨Y,_,Y,eg,_,_,Y,HY,Y,eg,cl,_,_,cH[j].length,Y,Dv,OJ aha cF ahb,o1,ahc,λq cT aQ mc OK ahe=>⟨_,mc _ _ OM Zm,?_,?_,?_,fw++[q],?_,?_,?_⟩⟩
   .rw[cW];exact gy (by omega)
   .intro c u h q;rw[aN (cU q d1)];exact mc c u (λz=>h (by simp[z])) (cF c u h q)
   .obtain⟨z,h⟩:=OK;refine⟨z,?_⟩;rw[aN (ed OM),h,ahd,<-ZT,<-ZT]
   .rw[b0,fH];rfl
   .rw[df,gu,HZ]
   intro i eQ r O a5;have Zn:q≠R:=λz=>by rw[z,Zm]at aQ;cases aQ
   obtain hi|hi:=xI i fw.length
   .rw[kV hi]at O;obtain⟨aG,cG⟩:=ON i eQ r O a5;exact⟨by rw[aN cG];exact mc _ _ (eV aG HY) aG,cG⟩
   rw[pz hi]at O;have kO:i=j:=by have:=(ec.mp O).1;rw[gu]at this;omega
   subst kO;rw[HZ,Z']at O;cases O;rw[ah]at a5;cases a5;exact⟨by rw[aN Zn,ahe,o2],Zn⟩
  obtain⟨lS,Zo,fw,ahf,HZ,ON⟩:=aR;rw[j8]at Zo;have OO:h5 [eg] H' bc:=(b1.trans b2).trans lS;have bE:aw H bc:=λc u q=>OO c u (lF (cU q L.hf)) (L.aE _ _ q);have OP:h6 a bc d F (800+i) st:=L.de.frame OO (lF Zk) λc a7=>lF λz=>L.De (z ▸ a7);have tD:=lS _ _ (lF HX) rY;have H_:=OO _ _ (lF Zi) L.dU;obtain⟨_,_,qJ,_⟩:=id OP;obtain⟨ahg,He⟩:=id Zo;refine⟨_,Y,d,_,_,Y,qJ,Y,_,Y,_,Y,_,Y,d,F,800+i,st,af,R,p,ns,cH,x,Y,OP,(by omega),(by omega),tD,⟨fw,ahf,HZ,λi q r O a5=>(ON i q r O a5).1⟩,Lj,hm,λy e=>(by have:=OP.most y e;omega),λl c_ Ol w3 rZ zO ahh Zp=>?_⟩;have ahi:l≠a_:=λz=>by rw[z,H_]at rZ;cases rZ
  have ahj:a_∉d::F:=λz=>by
   obtain z|z:=dx.mp z
   .exact HB z
   exact L.OC z
  have ahk:eg∉d::F:=λz=>by
   obtain z|z:=dx.mp z
   .exact Zk z.symm
   exact L.De z
  have Zq:=w3.cF _ _ ahj H_;have ahl:=w3.cF _ _ ahk He;have ex:xs.drop i=x::xs.drop (i+1):=by obtain⟨bx,cw⟩:=ec.mp ag;rw[<-cw];exact I4 bx
  have bY:r4++(((((fk st x).2.nums.length:Nat):Int)::(fk st x).2.nums)++Tf.tell (fk st x).1 (xs.drop (i+1)))=Tf.tell vT xs:=by have z:=L.bY;rw[ex]at z;exact z
  have ahm:=f_ tR bY;simp only[df,fQ]at ahm;have fV:aw H c_:=λc u q=>w3.cF c u (λz=>by
   obtain z|z:=dx.mp z
   .rw[z,L.hd]at q;cases q
   rw[L.fe c z]at q;cases q) (bE _ _ q)
  have big:(10000000:Nat)<cM:=by decide
  refine⟨_,Y,.inl ⟨Y,_,bp.of Zq⟩,_,Y,l,_,Y,.inl (bp.of Zp),a_,_,_,Y,Y,Zq,(by rw[xx];omega),?_⟩;have ahn:(av c_ a_ (.lst (c8 r4++[.int (((c8 (fk st x).2.nums).length:Nat):Int)]))) l=B (.lst (c8 (fk st x).2.nums)):=by rw[aN ahi];exact Zp
  refine⟨_,Y,.inl ⟨Y,_,bp.of b0⟩,_,Y,a_,l,_,_,Y,Y,b0,ahn,(by rw[df,xx,xx,gu];omega),?_⟩;rw[iT];refine⟨(fk st x).1,Ol,r4++((((fk st x).2.nums.length:Nat):Int)::(fk st x).2.nums),_,_,_,_,_,Y,?_⟩;have keep:∀{c:I}{u:dy},c≠a_->c_ c=B u->(av c_ a_ (.lst ((c8 r4++[.int (((c8 (fk st x).2.nums).length:Nat):Int)])++c8 (fk st x).2.nums))) c=B u:=λh q=>by rw[aN h];exact q
  refine⟨λc u q=>keep (cU q L.ba) (fV _ _ q),⟨ahg,?_⟩,ahh.frame (S:=[a_]) (λc u h q=>keep (λz=>h (by simp[z])) q) (λz=>HB (jL.mp z).symm) (λc a7 z=>?_),?_,by rw[lA];exact bY,L.hf,L.hd,L.ba,λc a7=>?_,λz=>?_,λz=>?_⟩
  .rw[keep (ed Zi) ahl,Zg]
  .rw[jL.mp z]at a7;obtain h|h:=zO a_ a7
   .exact L.OC h
   rw[H_]at h;cases h
  .rw[b0,xx];unfold c8;simp
  .obtain h|h:=zO c a7
   .exact L.fe c h
   exact bE.free h
  .obtain h|h:=zO eg z
   .exact L.De h
   rw[He]at h;cases h
  obtain h|h:=zO a_ z
  .exact L.OC h
  rw[H_]at h;cases h
 have kO:i=c2.length:=by omega
 subst kO;rw[j8];refine e7 (λz=>absurd (e3 z) (r9 _)) ⟨_,Y,?_⟩;have e:=L.bY;rw[Dz (by omega)]at e;have e:r4=Tf.tell vT xs:=by rw[<-e];simp[Tf.tell]
 exact k a_ H' L.ba L.aE (by rw[<-e];exact L.dU)
variable{aV:Array (Option ae)}
section
variable{h:br}{x m:a8}{f N:I}
theorem fi(X:K.In h)(aj:h.Ns mf a6){i:Int}{t:jy}(a:Pt K mf x=B (B (.int i t)):=by k_is):f5 a6 x i:=⟨t,kX X aj a⟩
theorem ov(X:K.In h)(aj:h.Ns mf a6){t:jy}(a:Pt K mf x=B (B (.str z t)):=by k_is):nx a6 x z:=⟨t,kX X aj a⟩
theorem hW{b6:Array ae}{od:Option I}(l:K.lookup C=B ⟨.type "tuple",od,.seq b6 n,aV⟩:=by k_is)(bk:cB xs b6.toList:=by repeat first|exact .nil|refine .cons ⟨_,rfl⟩ ?_|refine .cons rfl ?_)(aR:b6.size<=cM:=by decide):∀H,dq K H C xs:=λH=>.inr ⟨_,b6,n,l,Y,Y,aR,bk⟩
variable{kd fI iD iE d5 en:ae}{od i_:Option I}
theorem dO(X:K.In h)(aj:h.Ns mf a6)(a:Pt K mf x=B (B (.ref f)):=by k_is)(l:K.lookup f=B ⟨kd,od,.func (si x x (sZ st) (lP st) (bo st) .none fI iD iE i_ d5 en),aV⟩:=by k_is)(c:Ak K d5 x=a9:=by k_is)(k:nH K (.ref f)=a9:=by k_is):Laid K a6 x st:=⟨f,_,kX X aj a,F5 l c k⟩
theorem gs(a:qg K (.ref C) m=B (B (.ref f)):=by k_is)(i:Iy K (.ref f)=a9:=by k_is)(l:K.lookup f=B ⟨kd,od,.func (si m cm (sZ st) (lP st) (bo st) .none fI iD iE i_ d5 en),aV⟩:=by k_is)(c:Ak K d5 cm=a9:=by k_is)(k:nH K (.ref f)=a9:=by k_is):fx K C m cm st:=⟨f,_,⟨a,i,k⟩,F5 l c k⟩
theorem r5(mk:a0n K C=a9:=by k_is)(a:qg K (.ref C) "__init__" =B (B (.ref f)):=by k_is)(i:Iy K (.ref f)=a9:=by k_is)(eh:nH K (.ref C)=a9:=by k_is)(l:K.lookup f=B ⟨kd,od,.func (si "__init__" cm (sZ st) (lP st) (bo st) .none fI iD iE i_ d5 en),aV⟩:=by k_is)(c:Ak K d5 cm=a9:=by k_is)(k:nH K (.ref f)=a9:=by k_is):pk K C cm st:=⟨f,_,⟨mk,a,i,eh⟩,F5 l c k⟩
theorem r6(X:K.In h)(aj:h.Ns mf a6)(a:Pt K mf x=B (B (.ref C)):=by k_is)(qq:Iz K C Aj=a9:=by k_is)(hd:Pp K C=a9:=by k_is)(po:a0q K C=a9:=by k_is)(nX:qg K (.ref C) "__setattr__" =B (B (.builtin "object.__setattr__")):=by k_is):ij K C/\a6 x=B (.ref C):=⟨⟨qq,hd,po,nX⟩,kX X aj a⟩
theorem fz(a:qg K (.ref C) x=B aa:=by k_is):ew K C x:=a
def aho(b7:Array Pe):Bool:=b7.toList.all λe=>match e.key with|.str _ _=>a9|_=>aJ
theorem I0{nm q:a8}{bs:List ae}{sn:List a8}{sub:List ae}{ab:Bool}{col:Option Bool}{dd:Option I}{k0 cJ bL eb k5:Option ae}{ahp:ae}{ahq:Option I}{b7:Array Pe}{ahr:Array (Option ae)}(ahs:K.lookup C=B (pA nm q C N bs oa a9 sn sub ab col dd k0 cJ bL eb k5 "ValueError.__new__"))(O5:K.lookup N=B ⟨ahp,ahq,.dict b7 n,ahr⟩)(ax:aho b7=a9)(O:An b7 "__init__" =B (.ref f))(a5:An b7 "__setattr__" =aa)(aG:An b7 "__getattribute__" =aa)(cG:An b7 "__getattr__" =aa)(eZ:(cV.all λa=>(An b7 a).isNone)=a9)(bf:∀a∈cV,pC (.type "ValueError") a=pure aa)(eh:nH K (.ref C)=a9)(l:K.lookup f=B ⟨.type "function",od,.func (si "__init__" cm (sZ st) (lP st) (bo st) .none fI iD iE i_ d5 en),aV⟩)(c:Ak K d5 cm=a9)(k:nH K (.ref f)=a9):uX K C cm cV st:=by
 refine⟨f,_,⟨⟨nm,q,N,bs,sn,sub,ab,col,dd,k0,cJ,bL,eb,k5,λx=>An b7 x,ahs,λh X=>⟨_,b7,n,X _ _ O5,Y,λe aF=>?_,λ_=>rfl⟩,O,a5,aG,cG,λa hm=>?_⟩,⟨_,l,Y⟩,bf,eh⟩,F5 l c k⟩
 .have:=xC.mp ax e (ahB.mpr aF);split at this
  .next z=>exact⟨_,_,z⟩
  cases this
 have:=xC.mp eZ a hm;exact Option.isNone_iff_eq_none.mp this
end
theorem aht:pC (.type "ValueError") "place" =pure aa:=by rw[ajp,aj9];kernel_rfl
theorem ahu:pC (.type "ValueError") "kind" =pure aa:=by rw[ajp,aj9];kernel_rfl
theorem I1:∀a∈(["place"]:List a8),pC (.type "ValueError") a=pure aa:=λa h=>by rw[jL.mp h];exact aht
theorem Zr:∀a∈(["kind","place"]:List a8),pC (.type "ValueError") a=pure aa:=λa h=>by
 obtain h|h:=dx.mp h
 .rw[h];exact ahu
 exact I1 a h
theorem fin{eg:I}(T:Txt K a6 a)(hm:a6 "answers" =B (.ref eg)):∃fd:ka,(∀(s:ay)(us:List ae),us.length=(["calls"]:List a8).length->xN s fd ⟨us,[]⟩ ((["calls"]:List a8).zip us))/\∀base:br,K.In base->base.Ns mf a6->jD P w K a6 base cj 14 eg fd ["calls"] (Dt K a):=by obtain⟨f,fd,h,F⟩:=T.answers;cases hm.symm.trans h;refine⟨fd,?_,λbase _ _=>ah6 T F⟩;obtain⟨_,_,_,_,_,_,_,_,_,rfl,_,_⟩:=F.ex;exact λs us bz=>match us,bz with|[_],_=>.of_eq rfl
theorem Zs{bu:Type}(f:bu->Nat):∀(l:List bu)(n:Nat),n<=l.foldl (λn c=>n+f c) n
 |[],n=>cO _
 |x::l,n=>dC (r8 n (f x)) (Zs f l (n+f x))
theorem OQ{bu:Type}(f:bu->Nat):∀(l:List bu)(n:Nat)(x:bu),x∈l->f x<=l.foldl (λn c=>n+f c) n
 |y::l,n,x,h=>by
  obtain h|h:=dx.mp h
  .rw[h];exact dC (aia (f y) n) (Zs f l (n+f y))
  exact OQ f l (n+f y) x h
theorem ahv{l:List Int}(h:IL l=a9):(PD l).length<=10000000:=by unfold IL at h;cases a7:a0X l with|none=>rw[a7]at h;cases h|some c2=>rw[a7]at h;dsimp only at h;rw[i8,i8]at h;exact e3 h.2
theorem Zt{l:List Int}(bf:IL l=a9)(ax:bp K H p (l.map V.int))(iA:∀H' a_,H' a_=B (.lst ((PD l).map V.int))->Q (.ref a_) H'):Dt K a [.ref p] H Q E:=by
 obtain⟨c2,xs,A⟩:=a5m bf;refine⟨p,c2,xs,Y,?_,A.len,A.means,λc a7 r ah=>?_,A.most,?_,λa_ H' _ _ aF=>iA H' a_ ?_⟩
 .rw[<-A.put];exact ax
 .exact dC (OQ (λ(r:List Int)=>r.length) (c.drop 1) 0 r ah) (dC (OQ ajT c2 0 c a7) A.bytes)
 .rw[<-A.Ss];exact ahv bf
 rw[A.Ss];exact aF
end Hg
open PySem PySem.W PyProof.Rows
open Hg (Zt r6 fin fi ov r5 gs I0 dO fz Dt hW I1 Zr)
open L2 (cj KQ KR RI)
set_option maxRecDepth 100000 in
set_option maxHeartbeats 0 in
theorem PySem.Challenge.cw_hallgames_s01_answers_holds : PySem.Challenge.rw_hallgames_s01_answers.Holds := by
 w_on; k_headS; (case hw => exact ⟨[.list [.int 4]],by decide +kernel,by decide +kernel⟩)
 k_fillS
 refine RI (r:=alf) (k:=14) (CX:=cj) (aK:=["calls"]) (sp:=λK => Dt K ⟨36,71,92,240,356,384,478,583,652,672,693,819,938,19,15,16,17,18,461,588,589,628,629,630,631,632,633,634,635,781,771,772,773,774,775,776,777,778,779,780⟩) (by decide +kernel) Y Y ⟨Y,by decide,by decide⟩ (λw h Bp => kIn_of Bp) ?F ?S (λ_ _ _ _ z => z)
 case F =>
  intro w a6 eg h Bp bb aj KZ
  refine fin (a:=⟨36,71,92,240,356,384,478,583,652,672,693,819,938,19,15,16,17,18,461,588,589,628,629,630,631,632,633,634,635,781,771,772,773,774,775,776,777,778,779,780⟩) ?_ KZ
  exact ⟨fi bb aj,fi bb aj,fi bb aj,fi bb aj,fi bb aj,fi bb aj,fi bb aj,fi bb aj,fi bb aj,fi bb aj,fi bb aj,fi bb aj,fi bb aj,fi bb aj,fi bb aj,fi bb aj,fi bb aj,fi bb aj,fi bb aj,fi bb aj,fi bb aj,fi bb aj,fi bb aj,fi bb aj,fi bb aj,fi bb aj,fi bb aj,fi bb aj,fi bb aj,fi bb aj,fi bb aj,fi bb aj,fi bb aj,fi bb aj,fi bb aj,fi bb aj,fi bb aj,fi bb aj,fi bb aj,fi bb aj,fi bb aj,fi bb aj,fi bb aj,ov bb aj,ov bb aj,ov bb aj,ov bb aj,ov bb aj,ov bb aj,ov bb aj,ov bb aj,ov bb aj,ov bb aj,ov bb aj,ov bb aj,ov bb aj,⟨kX bb aj (by k_is),hW (C:=19)⟩,hW (C:=15),hW (C:=16),hW (C:=17),hW (C:=18),⟨kX bb aj (by k_is),hW (C:=461)⟩,⟨kX bb aj (by k_is),hW (C:=588)⟩,⟨kX bb aj (by k_is),hW (C:=589)⟩,⟨kX bb aj (by k_is),hW (C:=628)⟩,⟨kX bb aj (by k_is),hW (C:=629)⟩,⟨kX bb aj (by k_is),hW (C:=630)⟩,⟨kX bb aj (by k_is),hW (C:=631)⟩,⟨kX bb aj (by k_is),hW (C:=632)⟩,⟨kX bb aj (by k_is),hW (C:=633)⟩,⟨kX bb aj (by k_is),hW (C:=634)⟩,⟨kX bb aj (by k_is),hW (C:=635)⟩,⟨kX bb aj (by k_is),hW (C:=781)⟩,hW (C:=771),hW (C:=772),hW (C:=773),hW (C:=774),hW (C:=775),hW (C:=776),hW (C:=777),hW (C:=778),hW (C:=779),hW (C:=780),dO (f:=47) bb aj,dO (f:=54) bb aj,dO (f:=103) bb aj,dO (f:=108) bb aj,dO (f:=115) bb aj,dO (f:=122) bb aj,dO (f:=129) bb aj,dO (f:=136) bb aj,dO (f:=143) bb aj,dO (f:=148) bb aj,dO (f:=155) bb aj,dO (f:=162) bb aj,dO (f:=169) bb aj,dO (f:=176) bb aj,dO (f:=183) bb aj,dO (f:=188) bb aj,dO (f:=195) bb aj,dO (f:=202) bb aj,dO (f:=209) bb aj,dO (f:=216) bb aj,dO (f:=223) bb aj,dO (f:=248) bb aj,dO (f:=255) bb aj,dO (f:=262) bb aj,dO (f:=269) bb aj,dO (f:=276) bb aj,dO (f:=367) bb aj,dO (f:=394) bb aj,dO (f:=401) bb aj,dO (f:=408) bb aj,dO (f:=415) bb aj,dO (f:=422) bb aj,dO (f:=427) bb aj,dO (f:=434) bb aj,dO (f:=441) bb aj,dO (f:=448) bb aj,dO (f:=453) bb aj,dO (f:=460) bb aj,dO (f:=489) bb aj,dO (f:=496) bb aj,dO (f:=596) bb aj,dO (f:=601) bb aj,dO (f:=608) bb aj,dO (f:=615) bb aj,dO (f:=622) bb aj,dO (f:=627) bb aj,dO (f:=704) bb aj,dO (f:=711) bb aj,dO (f:=718) bb aj,dO (f:=725) bb aj,dO (f:=732) bb aj,dO (f:=739) bb aj,dO (f:=744) bb aj,dO (f:=749) bb aj,dO (f:=756) bb aj,dO (f:=763) bb aj,dO (f:=770) bb aj,dO (f:=830) bb aj,dO (f:=947) bb aj,r6 (C:=36) bb aj,fz,fz,fz,fz,fz,fz,fz,fz,fz,fz,fz,fz,fz,fz,fz,r5 (f:=33),r6 (C:=71) bb aj,fz,fz,r5 (f:=68),r6 (C:=92) bb aj,fz,fz,r5 (f:=89),kX bb aj (by k_is),I0 (f:=237) (N:=239) (by k_is) (by k_is) (by kernel_rfl) (by kernel_rfl) (by kernel_rfl) (by kernel_rfl) (by kernel_rfl) (by kernel_rfl) I1 (by k_is) (by k_is) (by k_is) (by k_is),r6 (C:=356) bb aj,fz,fz,r5 (f:=290),gs (f:=297),gs (f:=304),gs (f:=311),gs (f:=318),gs (f:=325),gs (f:=332),gs (f:=339),gs (f:=346),gs (f:=353),kX bb aj (by k_is),I0 (f:=381) (N:=383) (by k_is) (by k_is) (by kernel_rfl) (by kernel_rfl) (by kernel_rfl) (by kernel_rfl) (by kernel_rfl) (by kernel_rfl) I1 (by k_is) (by k_is) (by k_is) (by k_is),r6 (C:=478) bb aj,fz,fz,fz,r5 (f:=475),r6 (C:=583) bb aj,fz,fz,fz,fz,fz,fz,r5 (f:=510),gs (f:=517),gs (f:=524),gs (f:=531),gs (f:=538),gs (f:=545),gs (f:=552),gs (f:=559),gs (f:=566),gs (f:=573),gs (f:=580),kX bb aj (by k_is),I0 (f:=649) (N:=651) (by k_is) (by k_is) (by kernel_rfl) (by kernel_rfl) (by kernel_rfl) (by kernel_rfl) (by kernel_rfl) (by kernel_rfl) Zr (by k_is) (by k_is) (by k_is) (by k_is),r6 (C:=672) bb aj,fz,fz,fz,r5 (f:=669),r6 (C:=693) bb aj,fz,fz,fz,fz,fz,r5 (f:=690),r6 (C:=819) bb aj,fz,fz,r5 (f:=795),gs (f:=802),gs (f:=809),gs (f:=816),r6 (C:=938) bb aj,fz,r5 (f:=844),gs (f:=851),gs (f:=858),gs (f:=865),gs (f:=872),gs (f:=879),gs (f:=886),gs (f:=893),gs (f:=900),gs (f:=907),gs (f:=914),gs (f:=921),gs (f:=928),gs (f:=935),sj bb aj (by k_is),sj bb aj (by k_is),sj bb aj (by k_is),sj bb aj (by k_is),sj bb aj (by k_is),sj bb aj (by k_is),sj bb aj (by k_is),sj bb aj (by k_is),sj bb aj (by k_is),sj bb aj (by k_is),sj bb aj (by k_is)⟩
 case S =>
  intro K H xs a yI oW ahw ag
  cases ag with
  | cons O a5 =>
   cases a5
   cases O with
   | lst ax bf =>
    have e:=KR a.1 _ bf
    subst e
    exact Zt ahw ax λH' a_ aF => .lst (L2.bp.of aF) (KQ _)
