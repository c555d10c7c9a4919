import PyProof.Rows.All
import Open.SpecLaws
import KE.OsGo
import PyFlatLaws
import PySem.Challenge.RW_hallgames_s01_answers
set_option Elab.async false
set_option linter.all false
set_option compiler.extract_closed false
noncomputable section
set_option maxRecDepth 100000
set_option maxHeartbeats 0
structure PySem.W.Fast:Prop where(tw14836074650850161356 tw6102031786599564913 tw1116459437892459596 tw14192706110295867071 tw4435421394204515611 tw12691943906506702946 tw12544256817620836928 tw6505400148883583384 tw8479686402777554851 tw15291024708798401721 tw16537210909293163114 tw7053154686396812528 tw9620627580092330032 tw13807061424419190799 tw9493307185956880263 tw15324658498815530130 tw11954087425409555486 tw4142209100229140859 tw1484588488312774368 tw15654058947040767848 tw6325675986683464353 tw1835201335921387983 tw2424988045566436242 tw16109456028575089023 tw10019012548757998224 tw9201617497623189827 tw8356303796347215682 tw10861573186032746274 tw16766484511958638138 tw15214748959534726111 tw1937721966566455358 tw15676280014883224673 tw9757595895972200118 tw8743444353482975932 tw4740311737661911975 tw4778578598788473003 tw10551173667578312727 tw3144961221103979072 tw7322748291113730364 tw11673493167334670398 tw1972164579936704799 tw5832305185047221409 tw2785556982917274878 tw13284263994228856263 tw896239598344801917 tw8417759447790583765 tw5498123283257192965 tw12681666616541194006 tw9727464852744890877 tw467448935156912217 tw18375999264515656923 tw7107786331276476490 tw7405476570675247113 tw8060666987683057360 tw16061730576925561143 tw2078950565319712143 tw2997492091776894028 tw9553971096990549364 tw6208910965292489261 tw5487717013928043313 tw16871580299446076136 tw13225434792419705060 tw12435058653956393420 tw14801369171006070438 tw7557421358154311045 tw12750090774096387964 tw12717557048674177747 tw3433779192033484610 tw13366278800048369731 tw12773500944031208451 tw7414254361261656259 tw622995879521568732 tw13215348057498601715 tw4946147512530127568 tw7220529860990300233 tw8318101203651539667 tw1546806297415031771 tw13298828918039433023 tw5960047855520388891 tw4849480874435393781 tw8222940686941784037 tw1207101557538958131 tw5274481202262711730 tw7231845647793152400 tw447263597446747957 tw11066385474520676512 tw1979317910248211280 tw7538781388859322016 tw11180800956215176064 tw3049343062529576306 tw889792197375382467 tw16723463757517087524 tw14963028359598502718 tw4684226298888400098 tw6331431999304432861 tw11525993766095887173 tw4063829332388037331 tw3303267245142563540 tw10611411778653204182 tw10161179621583223854 tw9331231397406362311 tw17339309145561079191 tw16765560720781731146 tw7873786274422454737 tw11429584451438056573 tw6945566481307383155 tw13444670453868202053 tw8739830900816887780 tw9848817304349107530 tw9646623106273453227 tw4323258101793500111 tw11033627544408312984 tw13367945306605744095 tw15861351967447197489 tw14782954611325821827 tw18293242582946804979 tw16636501806038632012 tw4561898282857576226 tw9456574344343218679 tw1402340071739887797 tw3592811809046731828 tw4607425872040536859 tw14022695629967993375 tw2941924889016668590 tw8159993647027272844 tw4903002758410956813 tw6575520176995025181 tw15173544498738437827 tw12330612334027959195 tw8996207646774452837 tw15779231459743154856 tw12826555694032677247 tw8166255043249204926 tw17713387462200973399 tw4493901809537577575 tw6522051377940421278 tw4804111812005502284 tw11824586356888161845 tw4096221787609464999 tw8899516883271353254 tw10741264400317747893 tw8432719020341155521 tw4186743451310774866 tw10052031235695348791 tw17518593693041627797 tw6548459193220583526 tw7867829370405329436 tw15743010393045028110 tw12058884036946728934 tw17464319187374939960 tw18095796173783872564 tw10911716485165742097 tw11153126096140912846 tw14859695947638507448 tw18367749455379333440 tw8186657734068701312 tw1401067106901849026 tw14560624547652848805 tw9959121941294770655 tw2773992215795510196 tw11911167908941700269 tw4565167180653195659 tw8972062959192195235 tw643336161829623379 tw16260866306193365299 tw13257283266767686631 tw13160504802963445071 tw9536688357841153863 tw12512599876135997572 tw12747814925858328940 tw890339118813698166 tw17318462890700432884 tw12627051441459223148 tw14845619989558847073 tw5874822333441161849 tw4075453323654395381 tw14284835775768690865 tw10387345722656961088 tw9879335643197240621 tw16873086082458093902 tw3419001889969749887 tw15504105790966721872 tw16902085369446701243 tw6798380500665416597 tw2386784164831690217 tw3647752791723578311 tw28018229315631829 tw2213964242967304950 tw9402243437249704421 tw14594842627406614536 tw2694234056635809718 tw17334828202450815106 tw13674586047789940208 tw87601786513091389 tw11481637867367846703 tw17188069144378779261 tw4547051000311932777 tw10159399881129095643 tw8912161614967838395 tw1293241653719404408 tw8431482922422412695 tw4382473104129494423 tw18124618509676941091 tw7480016910919988345 tw2358075552688931204 tw4077048163395320219 tw2403389108928632939 tw1383625962624193546 tw13303234937177203706 tw2187251505897268136 tw4267111383703672358 tw8297923619242306668 tw9381626543082597023 tw6701911527682315725 tw14904681115217272601 tw5667099127317398114 tw16822532161544500889 tw640624198105042115 tw9860861378791804195 tw17137270108147033825 tw9689729476882780088 tw12138319994727072339 tw10294118229990073760 tw6408400580700104982 tw13032259773685033708 tw5622701340561072331 tw15127105006835628225 tw13055953723892786844 tw10988764466652934233 tw8002303944043701648 tw2015444344454546412 tw12670982853097334264 tw9972681490609642005 tw4512776594637900181 tw9950792792127014553 tw4436474186459923750 tw6851275008772768644 tw5467331546851215429 tw6649495121980407215 tw6278996535519779258 tw1950803216711332702 tw9510108024173832781 tw8909772338491405060 tw9630203353718772412 tw18248855084332350957 tw4211115844707057057 tw13073492499399858440 tw8171798328758944481 tw15764947353670896545 tw15499940227032437249 tw14577027041581768965 tw9947508896943372755 tw1495895850433845275 tw12155474939609683736 tw11766667032028208565 tw2595585439558603231 tw9592521066531166775 tw11408881796089955267 tw13053770412826190925 tw15763482434359817770 tw4313010194945074917 tw14842496431369740429 tw1725486776273817318 tw5221592684559293012 tw8422229294311615681 tw8219003486749837733 tw16839002366802243188 tw18101783494082082527 tw16203965252921439515 tw9768418358887946270 tw886431789805957861 tw3713540243193553862 tw5342471268416680606 tw2259672571474061568 tw14329579894275425762 tw13462424878891718212 tw1922157984580058403 tw17680797132471856694 tw15235614512728720 tw15790812503057606738 tw16753820520455620202 tw4884199854448574 tw1285854802380485468 tw2480015634913765671 tw2768188642542392010 tw9592300441314626372 tw2789304352393801511 tw17483705464198625004 tw9784134513789038367 tw14760874974797668852 tw14196522196718054806 tw18146532975450069615 tw13394580363473044415 tw8319933024895762948 tw16902440903046159558 tw5323657890516693427 tw2629151800749243262 tw16955839230299176341 tw908480701973217441 tw4548300405975405348 tw12269216009862288129 tw12314708539913122752 tw14424681132571578402 tw14819390147424179368 tw16298917771340976007 tw2228412568605170491 tw10539347186207431242 tw10028199592901333920 tw17659185236578331656 tw8428246938381088814 tw7217548393331319763 tw13861969467909019144 tw15565715512253457277 tw1342123614928995077 tw9433028549170029634 tw1467881925912835984 tw8760152093665844161 tw1840220198017710270 tw12431713363859531893 tw9317495090193701157 tw12132732476715806282 tw13465540834166320765 tw1181674027530198351 tw10026605065719503897 tw5462360663327728810 tw12064304430848566033 tw11402884983299125971 tw9215358943560890414 tw5649666937502919571 tw16212330677787901120 tw15910123707662034135 tw5388589039460942527 tw306047672372848657 tw8833496514701923757 tw2983494736656345032 tw13053394406489344094 tw424408320835691240 tw14081431093454284249 tw2132029292895624192 tw2333105410213810865:True)
theorem dQ{p:Prop}(h:p:=by decide+kernel):p:=h
section
open PySem PySem.W PyProof.Rows PySem.Challenge
abbrev RV:OpenRow:=⟨⟨pw_hallgames_s01_answers,nm_hallgames_s01_answers,[],[.list .int],.bool,.lit (.bool true),.lit (.bool true),[],[],[],true,none,⟨true,true,true⟩,⟨true,true,true⟩,false,[],[]⟩,true,false,[]⟩
open_top hd for RV
theorem br:rw_hallgames_s01_answers.prog.bare:=⟨rfl,rfl,rfl,rfl,rfl,hd._proof_3⟩
theorem ws:rw_hallgames_s01_answers.wellSaid=true:=by
 have h:=hd._proof_1;unfold OpenRow.wellSaid OpenRow.partSaid at h;unfold OpenSpec.wellSaid;simp only[Bool.and_eq_true]at h⊢;exact⟨⟨⟨⟨⟨h.1.1.1.1.1.1.1.1.1.1.1.1.1.1.1,h.1.2⟩,h.2⟩,dQ⟩,dQ⟩,dQ⟩
theorem tS{q l N rl d k T}{h:Hook}{r:OpenSpec}{n:Value→List Value→Sem Value}(_:WalkO q l (XL q []) h.says rl d k n→T)(a:LeftO r.prog q l (λs=>xlAt q [] s&&recOk [] s) h.obs h.val N)(b:defOf q r.name=some (d,k))(e:r.prog.theDef r.name=some (d.params,d.body,d.scope))(f:kwWritten? d.params.kwonlyargs d.params.kw_defaults=some k)(g:r.wellSaid=true)(i:(chainsOk q&&opensWell r.prog)=true)(j:r.prog.bare)(m:∃a,r.pre a=true∧WData.layableAll a=true)(c:WalkOS q l (XL q []) h.says r d k λf v=>PySem.call f v):r.Holds:=holds_os a h.of h.keeps (λs e=>xl_of s (Bool.and_eq_true_iff.mp e).1) XL.keeps b e f (λs e=>recFacts_of (Bool.and_eq_true_iff.mp e).2) os_shapes g i j m c
def hZ:=λc=>tS (r:=rw_hallgames_s01_answers) (N:=13544) hd (LeftO.of_pieces (boot_open hd._proof_4 (by decide) hd._proof_5) hd._proof_1076 hd._proof_1074 (by decide) λw=>funext λo=>hd._proof_1107 w o) (by kernel_rfl) (by kernel_rfl) (by kernel_rfl) ws (Bool.and_eq_true_iff.mp hd._proof_2).1 br ⟨[.list [.int 4]],dQ,dQ⟩ c
end
local macro_rules|`(tactic|trivial)=>`(tactic|first|exact Or.inl rfl|exact Or.inr rfl)
local macro_rules|`($x⁻¹)=>`($(x).heap.objs.size)
open Array renaming getElem?_setIfInBounds_ne->Px,length_toList->a0t,toList->a0u,getElem?_eq_getElem->aip,getElem?_eq_none->aiq,getElem?_eq_some_iff->air,getElem?_toList->ais,mem_toList_iff->ait,replicate->aiu
open Bool renaming true->a9,false->aK,eq_iff_iff->hT,false_ne_true->i6,and_eq_true->j3,noConfusion->oM,false_eq_true->qu,or_eq_true->sE,false_or->E4,true_and->E5,false_and->IH,and_eq_true_iff->Py,or_true->Pz,true_eq_false->a0v,and_false->aiv,or_false->aiw,true_or->aix
open Classical renaming byContradiction->a0w
open Except renaming ok->x',bind->aiy,error->aiz,map->aiA
open Except.error renaming inj->alT
open Except.ok renaming inj->qv
open False renaming elim->hu
open ForInStep renaming yield->PA
open Int renaming toNat_natCast->u9,ofNat_le->aiB,toNat->aiC
open List renaming length_map->cX,length_append->dh,mem_cons->dz,getElem?_eq_some_iff->ei,mem_cons_of_mem->eH,range->eI,getElem?_eq_getElem->ff,mem_map->fG,map_append->fO,getElem?_map->fW,length_cons->fX,mem_range->fY,length_singleton->gy,append_nil->hU,replicate->hV,map_cons->ir,map_map->iL,mem_cons_self->iM,size_toArray->j4,mem_filter->jk,take_length->jl,mem_singleton->jY,length_take->ko,mem_append->kN,getElem?_append_left->l9,append_assoc->lP,take_of_length_le->lQ,flatMap_cons->mZ,length_drop->m_,mem_of_getElem?->n0,cons_append->oN,mem_append_right->oO,getElem?_append_right->pR,filter_cons->qw,getElem?_eq_none->qx,length_set->qy,not_mem_nil->rv,find?_cons->sF,mem_append_left->sG,getD_eq_getElem?_getD->ua,length->ub,length_nil->uc,map_congr_left->ud,take_add_one->ue,filterMap_cons->vW,foldl_cons->vX,length_filter_le->vY,map_nil->vZ,mem_filterMap->v_,all_eq_true->y0,contains_iff_mem->y1,find?_eq_none->y2,lookup->y3,range_succ->y4,take_append_of_le_length->y5,any_cons->Aw,any_eq_true->Ax,filter_append->Ay,flatMap_append->Az,getD->AA,getElem?_drop->AB,getElem?_of_mem->AD,getElem?_set_ne->AE,lookup_cons->AF,mem_flatMap->AG,replicate_succ->AH,take_append_drop->AI,drop_drop->E6,drop_of_length_le->E7,drop_zero->E8,flatten_cons->E9,length_replicate->Ea,mem_of_find?_eq_some->Eb,nil_append->Ec,pairwise_cons->Ed,dropLast_concat->II,drop_eq_getElem_cons->IJ,ext_getElem?->IK,filter_congr->IL,filter_map->IM,filter_nil->IP,getElem?_set_self->IQ,length_range->IS,map_drop->IT,of_mem_zip->IU,sum_cons->IV,all_cons->PB,contains_cons->PC,drop_left->PD,drop_succ_cons->PE,find?_some->PF,flatMap_nil->PG,getElem?_take_of_lt->PH,length_filterMap_le->PI,nodup_cons->PJ,all_map->a0x,any_eq_false->a0y,exists_cons_of_ne_nil->a0A,filter_eq_nil_iff->a0B,findSome?_eq_none_iff->a0C,foldl->a0D,foldl_append->a0E,foldr_cons->a0F,forIn_nil->a0G,getElem?_toArray->a0H,length_pos_iff->a0I,map->a0J,map_id->a0K,mem_map_of_mem->a0L,nodup_append->a0M,pairwise_lt_range->a0N,pairwise_map->a0O,range_succ_eq_map->a0P,take_succ_cons->a0Q,drop->aiF,dropLast_concat_getLast->aiG,drop_eq_nil_iff->aiH,filterMap_append->aiI,filterMap_nil->aiJ,find?_eq_some_iff_getElem->aiK,forIn_cons->aiL,getElem?_range->aiM,getElem?_replicate->aiN,getElem?_take->aiO,getElem_mem->aiP,length_dropLast->aiQ,map_take->aiR,nodup_nil->aiS,reverse_reverse->aiT,take->aiU,takeWhile_cons->aiV,toList_toArray->aiW,zip_cons_cons->aiX
open List.Pairwise renaming filterMap->aiD,imp_of_mem->aiE,and->alU,filter->alV,imp->alW
open List.cons renaming injEq->a0z
open Nat renaming le_refl->cP,le_trans->dE,zero_le->es,ne_of_lt->h3,le_of_lt->hv,lt_of_lt_of_le->la,lt_of_le_of_lt->lR,le_add_right->rx,lt_irrefl->ry,le_succ->sH,lt_or_ge->y6,min_eq_left->y7,ne_of_gt->y8,le_of_eq->AJ,lt_succ_self->AK,not_lt->AL,add_zero->Ee,min_le_right->Ef,pos_of_ne_zero->Eg,add_mul->IW,lt_trans->IX,add_le_add_left->PK,le_of_succ_le->PL,log2_le_self->PM,lt_succ_of_lt->PN,mod_lt->PO,add_assoc->a0R,add_sub_cancel_left->a0S,le_max_left->a0T,le_mul_of_pos_right->a0U,max_le->a0V,mul_assoc->a0W,mul_le_mul->a0X,pow_succ->a0Y,sub_self->a0Z,zero_add->a10,add_comm->aiY,add_le_add->aiZ,eq_of_testBit_eq->aj0,le_add_left->aj1,le_antisymm->aj2,le_succ_of_le->aj3,lt_of_not_le->aj4,max_assoc->aj5,mul_succ->aj6,not_lt_zero->aj7,pow_add->aj8,succ_ne_self->aj9
open Ne renaming symm->ej
open Option renaming some->B,none->aa,isSome_iff_exists->PQ,map_some->PR,getD_none->aja,isSome_some->ajb
open Option.some renaming inj->h4,injEq->alX
open Or renaming inl->v',inr->a11
open Prod renaming fst->a12
open PyFlat renaming put->i7,putRows->jK,put1->IY,putRow->IZ,told->a13,played->ajc
open PyProof renaming noPylong_small->aji
open PyProof.Rows renaming envOfC->fH,IntsAre->sI,boot_ord->w0,AllBare->y9,IsTup->Eh,callWith_type1->Ei,Call_->I_,Constant_none->a14,boot_max->a15,boot_str->a16,iadd_int->ajd,lt_int->aje,slot_tupleiter_next->ajf,subscriptTail->ajg,subscriptTail_builtinR->ajh,callWith_builtin1->alY,join_list->alZ,join_tuple->am0,notIn_str->am1,sortedAll_at->am2,sortedAll_old->am3,sorted_ints->am4
open PySem renaming Addr->I,Str->a8,Value->ae,Shared->ay,wpAny->b7,model->bp,Heap->bq,wpAny_bind->bB,Stmt->bD,World->bG,Obj->bH,Expr->bO,Program->bP,sizeLine->cN,Around->da,Env->eC,wpAny_pure->eJ,starEach->fI,Sem->hX,Scope->i8,boot_len->iu,cellsFrom->iv,rawInt->iN,Tok->jL,wpAny_field->jM,FuncData->kp,compEnvC->kO,backTo->lS,argBest->mx,codeAny->my,mainGlobals->mz,wpAny_mono->mB,call->n4,compareOp->n5,NameKind->nO,wpAny_loadPart_at->nR,mem_of_lookup->oR,excClassObj->pS,pyNext->pT,typeLookup->pU,rule->qA,field->rA,holding->rB,wpAny_holding->rC,wpAny_passesOwn->rD,wpAny_standAt->rE,assignEach->sL,binaryOp->sM,swapsWith->sN,Model->ug,backToKw->uj,cLine->uk,keywordEach->um,noteFrame->uo,pushCells->uq,standAt->ur,sysModules->uu,wpAny_setField->uv,wpAny_truthy_bool->uw,Builtin->w1,Params->w4,Result->w5,codeAny_mono->w8,getMethod->w9,wpAny_Call_Name_kw->wa,wpAny_execs_nil->wb,wpAny_seqItems->wc,BindsTo->ya,CmpOp->yc,assign->yg,atKey->yh,attributeBase->yi,bindArgs->yj,bindC->yk,bindL->yl,callWith->ym,intItems->yn,notedBy->yo,raiseStmt->yp,wpAny_newObj_type->yq,IsPair->AN,behindInMarks->AS,foldedSetIterable->AU,nsFind->AV,seqItems?->AW,setAttr->AX,setFlight->AY,sliceBounds->AZ,wpAny_call->A_,IsZip->Ek,Within->Er,again->Es,bootBuiltins->Et,callerA->Eu,compPost->Ew,leaving->Ex,pyIter->Ey,tupleKind->Ez,valueAt->EA,wpAny_callSpecial?_slot->EB,wpAny_call_entry->EC,wpAny_letGo->ED,wpAny_typeLookup_exc->EE,Drawn->I',GenState->J0,IsEnum->J2,Keyword->J3,Operator->J5,call_meets->Ja,getAttr->Jb,inplaceOp->Jc,letOwnedTupleGo->Jd,newExc->Je,pushCells_keeps->Jf,raiseNew->Jg,strIterType->Jh,wpAny_isSubtype_exc->Ji,wpAny_pyIter_enum->Jj,wpAny_pyIter_tuple->Jk,DictEntry->PX,IsRangeIter->P',codeAny_builtin->Q9,firstArgMember->Qa,plainId_quiet->Qb,sizeLine_eq->Qc,typeIs_str->Qe,wpAny_pyIter_zip->Qg,wpAny_rule->Qh,wpAny_tryCatch->Qi,PassesOwn->a1k,ZipApart->a1t,arm_exec_Try->a1u,builtinsNs->a1v,codeAny_call_function->a1w,codeAny_func->a1x,codeAny_handlers_test->a1y,comprehension->a1z,handleBy->a1A,isInstance->a1B,isSubtype_stop->a1C,recursionLimit->a1D,richCompare->a1E,seqIndex_of->a1F,setField->a1G,storeName->a1H,typeIs_int->a1I,wpAny_Name->a1J,wpAny_attempt->a1K,wpAny_excMatches_sub_self->a1L,wpAny_execs_cons->a1M,wpAny_handleBy_cons->a1N,wpAny_isInstance->a1O,wpAny_nameGoes->a1P,wpAny_newFunctionEnv_cells->a1Q,wpAny_of_eq->a1R,wpAny_pyIter_list->a1S,wpAny_setField_rec->a1T,wpAny_throw->a1U,wpAny_tryStmt_except->a1V,wpAny_updateSeq->a1W,arm_exec_Raise->ajX,assignInOrder->ajY,builtinLookup_eq_fast->ajZ,checkBuiltinCall->ak0,codeAny_call_builtin->ak1,codeAny_compStart_list->ak2,codeAny_forLoop_any->ak3,codeAny_handlers_suite_as->ak4,evalPart_none->ak5,eval_ListComp->ak6,intBits_le_64->ak7,newFunctionEnv->ak8,passOn->ak9,pastItsLine_dict->aka,plainObj_wpAny_Assign_Attribute->akb,slot_list_getitem->akc,slot_listiter_next->akd,tupleKind_room_in1->ake,typeLookup_type->akf,wpAny_Assign_Name->akg,wpAny_assign_Name->akh,wpAny_comprehension_free->aki,wpAny_handled->akj,wpAny_isTrue_Compare1->akk,wpAny_letOwnedTupleGo_enum->akl,wpAny_letOwnedTupleGo_zip->akm,wpAny_loadName_cell->akn,wpAny_loadName_local->ako,wpAny_lookBehind->akp,wpAny_onRaise->akq,wpAny_pyIter_ascii->akr,wpAny_pyIter_range->aks,wpAny_pyIter_rangeiter->akt,wpAny_pyIter_tupleiter->aku,wpAny_pyNext_range_end->akv,wpAny_pyNext_tuple_item->akw,wpAny_pyNext_zip_item->akx
open PySem.Around renaming under->a17,under_plainId->a18
open PySem.AutoSeq1 renaming wpAny_loadPart'->PS
open PySem.Builtin renaming iter->fq,bitAnd->a1b
open PySem.Builtin.Builtins renaming bindParams->ajj
open PySem.Builtin.List renaming listTooLong->PT
open PySem.Builtin.Range renaming rangeSize->a19,small->am5
open PySem.Builtin.SmallTypes renaming nextOf->yb,ownedTupleIsFree->ajk
open PySem.Builtin.Str renaming strSliceIndices->w2,tooLong->a1a
open PySem.Builtin.Tuple renaming tupleCompareSizes->am6
open PySem.Calls renaming callWith_builtin->PU,spliced_cons->PV,evalArgs_plain->a1c,spliced_nil->a1d,Name_function_global->ajl
open PySem.Challenge renaming pw_hallgames_s01_answers->am7,rw_hallgames_s01_answers->am8
open PySem.CmpOp renaming In->ajm,NotIn->ajn
open PySem.Code renaming isFrame->a1e,frames->ajo,quiet_builtin->ajp
open PySem.Data renaming seq->PW,dict->ajq
open PySem.EntryCells renaming newEntry->ajr
open PySem.EqMixed renaming eq_bool_str->am9,eq_int_str->ama,eq_str_bool->amb,eq_str_int->amc,ne_bool_str->amd,ne_int_str->ame,ne_str_bool->amf,ne_str_int->amg
open PySem.EqNone renaming eq_bool_none->amh,eq_int_none->ami,eq_none_bool->amj,eq_none_int->amk,eq_none_none->aml,eq_none_str->amm,eq_str_none->amn,ne_bool_none->amo,ne_int_none->amq,ne_none_bool->amr,ne_none_int->ams,ne_none_none->amt,ne_none_str->amu,ne_str_none->amv
open PySem.F renaming plainAttrs_list->oP,slot_list_append->uf,type_list_append->w3,plain_min_loop->AM,slot_list_extend->PY,slot_list_pop->PZ,slot_tuple_iterator_next->P_,slot_dict_get->a1f,type_list_extend->a1g,type_list_pop->a1h,args_dict_get_3->ajs,entry_dict_get->ajt,excBase_ValueError->aju,slot_int_rmul->ajv,slot_str_ascii_iterator_next->ajw,slot_zip_next->ajx
open PySem.Heap renaming lt_size->dI,get?_push_of_some->ef,get?_push_size->hW,size_push->n1,get?_update_other->nN,get?_update_self->rz,SameBut->Ej,ExtBut->J1,get?_update_ne->ajA
open PySem.Heap.IsSliceOf renaming new->amw
open PySem.Heap.Ns1 renaming of_empty->ajy
open PySem.Heap.SameBut renaming update->ajz
open PySem.IsRange renaming new->ajB
open PySem.NameKind renaming free->El,cell->a1i
open PySem.Obj renaming mapFields->kq,data_mapFields->uh,isFreed_of_fields->AO,mapSeq->J4,cls_mapFields->Q0
open PySem.Paired renaming length->a1j,snoc->ajC
open PySem.PassesOwn renaming never->oQ,leaving->AP
open PySem.SeqAt renaming EqAt->a1l
open PySem.SeqAt.EqAt renaming int_int->ajD,int_str->ajE,str_int->ajF,bool_bool->amx,bool_int->amy,bool_none->amz,bool_str->amA,int_bool->amB,int_none->amC,none_bool->amD,none_int->amE,none_str->amF,same->amG,str_bool->amH,str_none->amI,str_str->amJ
open PySem.Str renaming ofString->n2,empty->AQ,join->a1m
open PySem.StrLaws renaming sliceText->Em,occ_head->ajG,found_one->amK,sliceText_nat->amL,strSliceIndices_plain->amM
open PySem.Txt renaming find->En,join->Eo
open PySem.Value renaming ref->dO,none->eS,bool->n3,type->ui,int->w6,builtin->J6,str->Q1,bytes->ajH,float->ajI,isInt->ajJ,isStrOf->ajK
open PySem.Value.type renaming inj->ajL
open PySem.W renaming Frag->bb,WData->jm,mg_of->lb,fnOf->nP,keepIn->nQ,findIn->qz,mg_none_of->sJ,emptyDict->w7,WellAll->yd,callWith_K->ye,instObj->yf,codeIn->AR,isFn->J8,plainGet->J9,cellsFrom_some->Q4,hasDictIn->Q5,lookIn->Q6,methodCall_KW->Q7,nsIn->Q8,codeRec_of->a1n,makesIn->a1o,methodObj->a1p,plainGet_of->a1q,plainOver->a1r,takerIn->a1s,WRecords->ajO,WalkOS->ajP,callWith_K0->ajQ,handedIn->ajR,ktu_apart->ajS,length_le_weightAllW->ajT
open PySem.W.Codec renaming encAll->Ep,app->J7,denoteAll->Q2,withinAll->ajM
open PySem.W.Looks renaming here->amN
open PySem.W.WData renaming weightAll->Q3,int->ajN
open PySem.Walks renaming list->ajU,range->ajV
open PySem.Within renaming cons->ajW
open PyWqacdb renaming answers_asked->Jl,answers->Qj,calls->a1X,whole->a1Y
open Sum renaming inl->yr,inr->yt
open Tafl renaming Bytes->aS,common->cj,prefix_->du,lit->eD,cellName->eK,Cur->eV,Rules->f5,Pos->gv,ascii->hx,says->hy,WAYS->hH,LF->lg,Piece->lh,STRIDE->mC,judge->mD,endLine->n6,word->n7,rowIn->nS,Answer->oS,rowLine->oT,rowsIn->oU,some_->oV,grammar->pV,setFrom->pW,tells->pX,nameIn->qB,wrongs->rF,cellsIn->ux,digitsOf->uy,number->uz,pick->uA,Ending->we,begins->yy,numberFrom->yz,nat?->A',Kind->EF,isLetter->EK,sooner->EL,HOW->Jm,TAKEN->Jr,WHO->Js,isDigit->Jt,oneOf->Ju,openEnds->Jv,endingNo->Qq,fault->Qr,kindSign->Qs,pieceByte->Qt,pieceSign->Qu,ENMITY->a20,asInts->a25,hates->akI
open Tafl.Answer renaming nums->aky
open Tafl.Cur renaming next->a1Z
open Tafl.Game renaming none_->a21
open Tafl.Item renaming nums->a22
open Tafl.Kind renaming wall->EG
open Tafl.Piece renaming none->EH,king->Qk,hunter->a23,man->akz
open Tafl.Pos renaming on->yu,shifted->Ql
open Tafl.Rules renaming kingWay->yv,manWay->yw,overOf->yx,overBy->EI,readMove->EJ,ended->Jn,free->Jo,over->Jp,rowOf->Jq,against->Qm,kindAt->Qn,kings->Qo,winner->Qp,standing->a24,asWritten->akA,lines->akB,moves->akC,movesIn->akD,neighbours->akE,next->akF,seats->akG,seen->akH,helps->amO,line->amP,onGoal->amQ
open TaflGames renaming step->ft,State->jn,Play->jZ,toldMade->qC,isName->rG,start->wg,moved->yA,Call->EM,endingOf->Qv
open TaflGames.Call renaming move->amR,text->amS
open TaflGamesNeutral renaming step->EN,asked1->akJ,bytesOf->akK,asked->amT,callOf->amU
open True renaming intro->B0
open UInt8 renaming ofNat->n8,toNat->yB,toNat_inj->a26
def aL:=@if_neg
def aZ:=@if_pos
def e7:=@of_decide_eq_true
def eL:=@decide_eq_true
def g5:=@congrArg
def gW:=@decide_eq_false
def i9:=@beq_iff_eq
def jN:=@if_false
def jO:=@if_true
def mE:=@decide_eq_true_iff
def nT:=@eq_false_of_ne_true
def qD:=@or_false
def yC:=@not_or
def B1:=@false_and
def EO:=@beq_eq_false_iff_ne
def EP:=@decide_eq_decide
def Qw:=@beq_self_eq_true
def Qx:=@true_and
universe u
def Y{α:Sort u}{a:α}:a=a:=rfl
abbrev sl:=List
abbrev Iw:=Option
namespace L2
open PySem PySem.Spec PyProof.Rows
theorem gd:1<=cN:=by decide
theorem nU:2<=cN:=by decide
theorem Jw:3<=cN:=by decide
theorem qE:1<1000:=by decide
theorem sO:2<1000:=by decide
theorem Qy:3<1000:=by decide
theorem Qz:4<1000:=by decide
theorem B2:5<1000:=by decide
theorem Jx:6<1000:=by decide
theorem pY:15<1000:=by decide
abbrev Key:=Sum Int a8
noncomputable def yD:Key->ae->Bool
 |.inl k,v=>ajJ k v
 |.inr x,v=>ajK x v
def a27(w:bG):Key->Int
 |.inl k=>hashInt k
 |.inr x=>hashStr w x
theorem sP:∀{k:Key}{v:ae},yD k v=a9->(∃i t,k=yr i/\v=w6 i t)∨(∃x t,k=yt x/\v=Q1 x t)
 |.inl i,v,h=>by obtain⟨t,e⟩:=Value.isInt_shape (k:=i) (v:=v) h;exact .inl ⟨i,t,Y,e⟩
 |.inr x,v,h=>by obtain⟨t,e⟩:=Value.isStrOf_shape (x:=x) (v:=v) h;exact .inr ⟨x,t,Y,e⟩
theorem a28(i:Int)(t:jL):yD (.inl i) (.int i t)=a9:=by simp[yD,ajJ]
theorem a29(x:a8)(t:jL):yD (.inr x) (.str x t)=a9:=by simp[yD,ajK]
theorem a2a(a b:Int):decide ((yr a:Key)=yr b)=(a==b):=by
 by_cases e:a=b
 .subst e;simp
 have h:¬(yr a:Key)=yr b:=λq=>e (Sum.inl.inj q);rw[gW h];exact(EO.mpr e).symm
theorem a2b(a b:a8):decide ((yt a:Key)=yt b)=decide (a=b):=by
 by_cases e:a=b
 .subst e;simp
 have h:¬(yt a:Key)=yt b:=λq=>e (Sum.inr.inj q);rw[gW h,gW e]
theorem a2c(a:Int)(b:a8):decide ((yr a:Key)=yt b)=aK:=gW (λq=>nomatch q)
theorem a2d(a:a8)(b:Int):decide ((yt a:Key)=yr b)=aK:=gW (λq=>nomatch q)
def n9(prog:bP)(w:bG):PySem.KeyKind prog w Key where
 is:=yD
 hash:=a27 w
 inj:=λv a b bf a0=>by
  obtain⟨i,t,rfl,rfl⟩|⟨x,t,rfl,rfl⟩:=sP bf
  .obtain⟨j,u,rfl,e⟩|⟨y,u,rfl,e⟩:=sP a0
   .injection e with aO _;rw[aO]
   exact nomatch e
  obtain⟨j,u,rfl,e⟩|⟨y,u,rfl,e⟩:=sP a0
  .exact nomatch e
  injection e with aO _;rw[aO]
 byValue:=λk v h=>by rcases sP h with⟨i,t,rfl,rfl⟩|⟨x,t,rfl,rfl⟩<;>rfl
 pyHash:=λbk h=>by
  obtain⟨i,t,rfl,rfl⟩|⟨x,t,rfl,rfl⟩:=sP bk
  .exact wpAny_pyHash_int h
  exact wpAny_pyHash_str h
 eqBool:=λbx bk h=>by
  obtain⟨i,t,rfl,rfl⟩|⟨x,t,rfl,rfl⟩:=sP bx
  .obtain⟨j,u,rfl,rfl⟩|⟨y,u,rfl,rfl⟩:=sP bk
   .rw[a2a]at h;exact wpAny_eqBool_int h
   rw[a2c]at h;exact ajE i t y u _ _ _ _ h
  obtain⟨j,u,rfl,rfl⟩|⟨y,u,rfl,rfl⟩:=sP bk
  .rw[a2d]at h;exact ajF x t j u _ _ _ _ h
  rw[a2b]at h;exact wpAny_eqBool_str h
 «strs»:=λk x t v h=>by
  obtain⟨i,u,rfl,e⟩|⟨y,u,rfl,e⟩:=sP h
  .exact nomatch e
  injection e with aO _;subst aO;cases v<;>rfl
theorem a2e(prog:bP)(w:bG)(i:Int)(t:jL):(n9 prog w).is (.inl i) (.int i t)=a9:=a28 i t
theorem a2f(prog:bP)(w:bG)(x:a8)(t:jL):(n9 prog w).is (.inr x) (.str x t)=a9:=a29 x t
inductive V where
 |bR|c3 (b:Bool)|int (i:Int)|str (x:a8)|lT (b:Array UInt8)|B3 (b:UInt64)|ref (a:I)|ty (n:String)
 deriving DecidableEq
def RelV:V->ae->Prop
 |.bR,u=>u=eS
 |.c3 b,u=>u=n3 b
 |.int i,u=>∃t,u=w6 i t
 |.str x,u=>∃t,u=Q1 x t
 |.lT b,u=>∃t,u=ajH b t
 |.B3 b,u=>∃t,u=ajI b t
 |.ref a,u=>u=dO a
 |.ty n,u=>u=ui n
abbrev cC:sl V->sl ae->Prop:=Paired RelV
variable{xs:sl V}{us:sl ae}
theorem cC.length(r:cC xs us):xs.length=us.length:=a1j r
theorem cC.get:∀{xs:sl V}{us:sl ae}{i:Nat}{x:V},cC xs us->xs[i]? =B x->∃u,us[i]? =B u/\RelV x u
 |_,_,_,_,.nil,e=>by simp at e
 |_,_,0,_,.cons r _,e=>by simp at e;subst e;exact⟨_,Y,r⟩
 |_,_,i+1,x,.cons _ t,e=>by obtain⟨u,O,a5⟩:=cC.get (i:=i) (x:=x) t (by simpa using e);exact⟨u,by simpa using O,a5⟩
variable{u:ae}
theorem cC.set{x:V}(r:RelV x u):∀{xs:sl V}{us:sl ae}(i:Nat),cC xs us->cC (xs.set i x) (us.set i u)
 |_,_,_,.nil=>.nil
 |_,_,0,.cons _ t=>.cons r t
 |_,_,i+1,.cons q t=>.cons q (cC.set r i t)
theorem cC.append:∀{xs ys:sl V}{us dk:sl ae},cC xs us->cC ys dk->cC (xs++ys) (us++dk)
 |_,_,_,_,.nil,s=>s
 |_,_,_,_,.cons r t,s=>.cons r (cC.append t s)
theorem cC.take:∀{xs:sl V}{us:sl ae}(n:Nat),cC xs us->cC (xs.take n) (us.take n)
 |_,_,0,_=>.nil
 |_,_,_+1,.nil=>.nil
 |_,_,n+1,.cons r t=>.cons r (cC.take n t)
theorem cC.drop:∀{xs:sl V}{us:sl ae}(n:Nat),cC xs us->cC (xs.drop n) (us.drop n)
 |_,_,0,r=>r
 |_,_,_+1,.nil=>.nil
 |_,_,n+1,.cons _ t=>cC.drop n t
def j_:Iw V->Iw ae->Prop
 |some v,B u=>RelV v u
 |none,aa=>True
 |_,_=>False
def kP{fu:Type}:sl (fu×V)->sl (fu×ae)->Prop:=Paired λ(p:fu×V)(q:fu×ae)=>p.1=q.1/\RelV p.2 q.2
def ey:Key->V
 |.inl i=>.int i
 |.inr x=>.str x
inductive dA where
 |lst (xs:sl V)
 |tup (xs:sl V)
 |oW (aW:sl (Key×V))|gf (aW:sl (sl Key×V))
 |set (S:Int->Bool) (n:Nat)
 |ins (C a3:I) (fs:sl (a8×V))
 |own (x:I)
 |Jy (fs:sl (a8×V))
 |met (f x:I)
 |Jz (lo hi:Int)
 |kQ (o:bH) (u:dA)
 |wh (aJ:Array ae)
 |ext (yE:bq->Prop)
abbrev ag:=I->Iw dA
noncomputable def av(H:ag)(a:I)(o:dA):ag:=λb=>if b=a then B o else H b
variable{H:ag}{a:I}{o:dA}
theorem b3:av H a o a=B o:=by unfold av;rw[aZ Y]
variable{b:I}
theorem aM(h:b≠a):av H a o b=H b:=by unfold av;rw[aL h]
theorem j5{u:dA}:av (av H a o) a u=av H a u:=by funext b;unfold av;split<;>rfl
theorem JA{u:dA}(h:H a=B o)(h':H b=B u)(d:o≠u):a≠b:=by intro e;subst e;rw[h]at h';exact d (h4 h')
theorem cV(h:H a=B o)(h':H b=aa):a≠b:=by intro e;subst e;rw[h]at h';cases h'
section
variable(P:bP)(w:bG)
def hj(H:ag)(h:bq)(a:I):dA->Prop
 |.lst xs=>xs.length<=cN/\∃(b6:sl ae)(n:Nat),cC xs b6/\h.get? a=B {cls:=.type "list",data:=.seq b6.toArray n}
 |.tup xs=>xs.length<=cN/\∃b6:sl ae,cC xs b6/\Eh h a b6.toArray
 |.oW aW=>aW.length<=cN/\(a==uu)=aK/\∃vs,kP aW vs/\h.DictOf (n9 P w) a vs
 |.gf aW=>aW.length<=cN/\(a==uu)=aK/\∃xs:sl (sl Key×I×ae),
   Paired (λ(p:sl Key×V)(q:sl Key×I×ae)=>p.1=q.1/\H q.2.1=B (.tup (p.1.map ey))/\RelV p.2 q.2.2) aW xs/\∃o b5 fZ,h.get? a=B o/\o.ExactDict/\o.data=.dict b5 fZ/\b5.toList=xs.map (entryOfKey (Ez (n9 P w)))/\(xs.map (·.1)).Nodup
 |.set S n=>h.SetOf (intKind P w) a S n
 |.ins C a3 fs=>H a3=B (.own a)/\fs.length<=1000/\a3≠a/\h.get? a=B (yf C a3)/\
   ∃mA,h.Ns1 a3 mA/\(∀f,j_ (fs.lookup f) (mA f))/\Er mA (fs.map (·.1))
 |.own _=>∃o,h.get? a=B o
 |.Jy fs=>∃mA,h.Ns1 a mA/\∀f,j_ (fs.lookup f) (mA f)
 |.Jz lo hi=>∃t u v,h.get? a=B {cls:=.type "range",data:=.fields #[.int lo t,.int hi u,.int 1 v]}
 |.kQ o u=>h.get? a=B o/\hj H h a u
 |.wh aJ=>h.get? a=B {cls:=.none,data:=.fields aJ}
 |.met f x=>h.get? a=B (a1p (.ref f) (.ref x))
 |.ext yE=>yE h/\(∃o,h.get? a=B o)/\∀O a5:bq,yE O->(∀o,O.get? a=B o->a5.get? a=B o)->yE a5
def g6(H:ag)(h:bq):Prop:=∀a o,H a=B o->hj P w H h a o
end
variable{P:bP}{w:bG}{H':ag}{h h':bq}
theorem hj.lt(x:hj P w H h a o):a<h.objs.size:=by cases o with|lst xs=>obtain⟨_,_,_,_,e⟩:=x;exact dI e|tup xs=>obtain⟨_,_,_,p⟩:=x;exact p.lt|oW aW=>obtain⟨_,_,_,_,o,_,_,e,_⟩:=x;exact dI e|gf aW=>obtain⟨_,_,_,_,o,_,_,e,_⟩:=x;exact dI e|set S n=>obtain⟨o,_,_,_,e,_⟩:=x;exact dI e|ins C a3 fs=>obtain⟨_,_,_,e,_⟩:=x;exact dI e|own y=>obtain⟨_,e⟩:=x;exact dI e|Jy fs=>obtain⟨_,⟨_,_,_,e,_⟩,_⟩:=x;exact dI e|Jz lo hi=>obtain⟨_,_,_,e⟩:=x;exact dI e|kQ cG u=>obtain⟨e,_⟩:=x;exact dI e|wh aJ=>exact dI (show h.get? a=B _ from x)|met f y=>exact dI (show h.get? a=B _ from x)|ext yE=>obtain⟨_,⟨_,e⟩,_⟩:=x;exact dI e
theorem Paired.JB{br hz:Type}{F aj:br->hz->Prop}:∀{QA:sl br}{QB:sl hz},Paired F QA QB->(∀a b,F a b->aj a b)->Paired aj QA QB
 |_,_,.nil,_=>.nil
 |_,_,.cons r t,f=>.cons (f _ _ r) (Paired.JB t f)
theorem hj.rH(x:hj P w H h a o)(k:∀b u,(b=a∨H b=B (.own a))->h.get? b=B u->h'.get? b=B u)(aU:∀b,H b=B (.own a)->H' b=B (.own a))(b9:∀b xs,H b=B (.tup xs)->H' b=B (.tup xs)):hj P w H' h' a o:=by induction o with|lst xs=>obtain⟨z,b6,n,r,e⟩:=x;exact⟨z,b6,n,r,k _ _ (.inl Y) e⟩|tup xs=>obtain⟨z,b6,r,cG,e,c⟩:=x;exact⟨z,b6,r,cG,k _ _ (.inl Y) e,c⟩|oW aW=>obtain⟨z,y,vs,r,cG,b5,fZ,e,c⟩:=x;exact⟨z,y,vs,r,cG,b5,fZ,k _ _ (.inl Y) e,c⟩|gf aW=>obtain⟨z,y,xs,r,cG,b5,fZ,e,c⟩:=x;exact⟨z,y,xs,Paired.JB r λp q z=>⟨z.1,b9 _ _ z.2.1,z.2.2⟩,cG,b5,fZ,k _ _ (.inl Y) e,c⟩|set S n=>obtain⟨cG,b5,fZ,t,e,c⟩:=x;exact⟨cG,b5,fZ,t,k _ _ (.inl Y) e,c⟩|ins C a3 fs=>obtain⟨d,z,ne,e,mA,⟨od,b5,fZ,aT,c⟩,r⟩:=x;exact⟨aU _ d,z,ne,k _ _ (.inl Y) e,mA,⟨od,b5,fZ,k _ _ (.inr d) aT,c⟩,r⟩|own y=>obtain⟨cG,e⟩:=x;exact⟨cG,k _ _ (.inl Y) e⟩|Jy fs=>obtain⟨mA,⟨od,b5,fZ,e,c⟩,r⟩:=x;exact⟨mA,⟨od,b5,fZ,k _ _ (.inl Y) e,c⟩,r⟩|Jz lo hi=>obtain⟨t,u,v,e⟩:=x;exact⟨t,u,v,k _ _ (.inl Y) e⟩|kQ cG u ih=>obtain⟨e,q⟩:=x;exact⟨k _ _ (.inl Y) e,ih q⟩|wh aJ=>have e:h.get? a=B {cls:=.none,data:=.fields aJ}:=x;show h'.get? a=B {cls:=.none,data:=.fields aJ};exact k a _ (.inl Y) e|met f y=>have e:h.get? a=B (a1p (.ref f) (.ref y)):=x;show h'.get? a=B (a1p (.ref f) (.ref y));exact k a _ (.inl Y) e|ext yE=>obtain⟨p,⟨o,e⟩,st⟩:=x;exact⟨st _ _ p λo q=>k _ _ (.inl Y) q,⟨o,k _ _ (.inl Y) e⟩,st⟩
theorem g6.lt(x:g6 P w H h)(e:H a=B o):a<h.objs.size:=(x a o e).lt
theorem g6.fresh(x:g6 P w H h)(e:h.objs.size<=a):H a=aa:=by cases q:H a with|none=>rfl|some u=>exact absurd (la (x.lt q) e) (ry _)
theorem g6.kept(x:g6 P w H h)(k:∀b u,h.get? b=B u->h'.get? b=B u):g6 P w H h':=λa o e=>(x a o e).rH (λb u _ q=>k b u q) (λ_ q=>q) λ_ _ q=>q
theorem g6.laid(x:g6 P w H h)(k:∀b u,h.get? b=B u->h'.get? b=B u)(aq:h.objs.size<=a)(new:hj P w (av H a o) h' a o):g6 P w (av H a o) h':=λb u e=>by
 have aH:=x.fresh aq;by_cases a0:b=a
 .subst a0;rw[b3]at e;cases e;exact new
 rw[aM a0]at e;exact(x b u e).rH (λc v _ q=>k c v q) (λc q=>by rw[aM (cV q aH)];exact q) λc _ q=>by rw[aM (cV q aH)];exact q
def fg(H:ag)(a:I)(u:dA):Prop:=H a=B u∨∃o,H a=B (.kQ o u)
theorem fg.ok{u:dA}(r:fg H a u)(x:g6 P w H h):hj P w H h a u:=by
 obtain r|⟨o,r⟩:=r
 .exact x a u r
 obtain⟨_,q⟩:=x a _ r;exact q
def rI:Iw dA->Prop
 |some (.lst _)=>True
 |some (.oW _)=>True
 |some (.gf _)=>True
 |some (.set _ _)=>True
 |some (.ins _ _ _)=>True
 |some (.ext _)=>True
 |_=>False
section
variable{x e:I}{h5:dA}
theorem g6.write(ok:g6 P w H h)(j6:rI (H x))(aF:e=x∨H e=B (.own x))(k:∀b u,b≠e->h.get? b=B u->h'.get? b=B u)(yF:∃u,h'.get? e=B u)(new:hj P w (av H x h5) h' x h5):g6 P w (av H x h5) h':=λb u q=>by
 have QC:∀c y,H c=B (.own y)->c≠x:=λc y r z=>by subst z;rw[r]at j6;exact j6
 have a2g:∀c xs,H c=B (.tup xs)->c≠x:=λc xs r z=>by subst z;rw[r]at j6;exact j6
 by_cases a0:b=x
 .subst a0;rw[b3]at q;cases q;exact new
 rw[aM a0]at q;by_cases wi:b=e
 .have eW:H b=B (.own x):=by
   obtain z|z:=aF
   .exact absurd (wi.trans z) a0
   rw[wi];exact z
  rw[q]at eW;cases eW;obtain⟨v,bk⟩:=yF;exact⟨v,by rw[wi];exact bk⟩
 refine(ok b u q).rH (λc v a7 r=>k c v ?_ r) (λc r=>by rw[aM (QC c b r)];exact r) λc xs r=>by rw[aM (a2g c xs r)];exact r
 obtain rfl|a7:=a7
 .exact wi
 rintro rfl;obtain z|z:=aF
 .exact QC c b a7 z
 rw[a7]at z;cases z;exact a0 Y
end
structure j7 (fs ex:sl I) (H H':ag) (h h':bq):Prop where
 keep:∀b o,h.get? b=B o->H b=aa->b∉fs->b∉ex->h'.get? b=B o
 slot:∀b o,h.get? b=B o->H b=aa->b∈fs->b∉ex->∃aV,h'.get? b=B {o with slots:=aV}
 free:∀b o,h.get? b=B o->H b=aa->b∉ex->H' b=aa
 there:∀b o,h.get? b=B o->b∉ex->∃h5,h'.get? b=B h5
 sQ:∀b xs,H b=B (.tup xs)->H' b=B (.tup xs)
 rJ:∀b o u,H b=B (.kQ o u)->H' b=B (.kQ o u)
 sR:∀b aJ,H b=B (.wh aJ)->∃more,H' b=B (.wh (aJ++more))
section
variable{fs h6 ex akL:sl I}{ai au:ag}{O a5:bq}{x e:I}
theorem j7.any(u:j7 fs ex H ai h O){cG:bH}(q:h.get? b=B cG)(n:H b=aa)(ah:b∉ex):∃aV,O.get? b=B {cG with slots:=aV}:=by
 by_cases a0:b∈fs
 .exact u.slot b cG q n a0 ah
 exact⟨cG.slots,u.keep b cG q n a0 ah⟩
theorem j7.kept(k:∀b u,h.get? b=B u->h'.get? b=B u):j7 fs ex H H h h':=
 ⟨λb cG q _ _ _=>k b cG q,λb cG q _ _ _=>⟨cG.slots,k b cG q⟩,λ_ _ _ n _=>n,λb cG q _=>⟨cG,k b cG q⟩,λ_ _ q=>q,λ_ _ _ q=>q,λ_ _ q=>⟨#[],by rw[q];simp⟩⟩
theorem j7.refl:j7 fs ex H H h h:=j7.kept λ_ _ q=>q
theorem j7.laid(k:∀b u,h.get? b=B u->h'.get? b=B u)(aq:h.objs.size<=a)(aH:H a=aa):j7 fs ex H (av H a o) h h' where
 keep:=λb u q _ _ _=>k b u q
 slot:=λb u q _ _ _=>⟨u.slots,k b u q⟩
 free:=λb u q n _=>by rw[aM (h3 (la (dI q) aq))];exact n
 there:=λb u q _=>⟨u,k b u q⟩
 sQ:=λb xs q=>by rw[aM (cV q aH)];exact q
 rJ:=λb u xs q=>by rw[aM (cV q aH)];exact q
 sR:=λb _ q=>⟨#[],by rw[aM (cV q aH),q];simp⟩
theorem j7.write(j6:rI (H x))(aF:e=x∨H e=B (.own x))(k:∀b u,b≠e->h.get? b=B u->h'.get? b=B u)(yF:∃u,h'.get? e=B u):j7 fs ex H (av H x o) h h':=by
 have ah:∀b,H b=aa->b≠x:=λb n z=>by subst z;rw[n]at j6;exact j6
 have a0:∀b,H b=aa->b≠e:=λb n z=>by
  subst z;obtain r|r:=aF
  .exact ah b n r
  rw[n]at r;cases r
 have hm:∀b u,H b=B u->¬rI (B u)->b≠x:=λb u q nm z=>by subst z;rw[q]at j6;exact nm j6
 refine⟨λb u q n _ _=>k b u (a0 b n) q,λb u q n _ _=>⟨u.slots,k b u (a0 b n) q⟩,λb u q n _=>by rw[aM (ah b n)];exact n,λb u q _=>?_,
  λb xs q=>by rw[aM (hm b _ q λz=>z)];exact q,λb u xs q=>by rw[aM (hm b _ q λz=>z)];exact q,λb _ q=>⟨#[],by rw[aM (hm b _ q λz=>z),q];simp⟩⟩
 by_cases wi:b=e
 .subst wi;exact yF
 exact⟨u,k b u wi q⟩
end
def wj(h:bq)(H:ag):sl I:=(eI h.objs.size).filter λa=>(H a).isSome
def sS(h:bq)(H:ag):bq:=PySem.W.hideAll h (wj h H)
theorem a2h(h:bq)(H:ag):(sS h H).objs.size=h.objs.size:=PySem.W.hideAll_size _ _
theorem a2i{o:bH}(e:h.get? b=B o)(n:H b=aa):(sS h H).get? b=B o:=
 PySem.W.hideAll_get _ e λhm=>by have q:(H b).isSome=a9:=(jk.mp hm).2;rw[n]at q;simp at q
theorem a2j{o:bH}(e:(sS h H).get? b=B o):h.get? b=B o/\H b=aa:=by have d8:h.get? b=B o:=PySem.W.of_hideAll (wj h H) e;refine⟨d8,?_⟩;cases q:H b with|none=>rfl|some x=>have hm:b∈wj h H:=jk.mpr ⟨fY.mpr (dI d8),by simp[q]⟩;have z:(sS h H).get? b=aa:=PySem.W.hideAll_none (wj h H) hm;rw[z]at e;cases e
structure Mod (K:bb) (a6:a8->Iw ae) (base:bq):Prop where
 hY:K.In base
 glob:base.Ns mz a6
 blt:∃kr,base.Ns a1v kr/\∀x:a8,x≠"__name__"->kr x=Et x
 nolimit:base.NoLimit
structure bA where
 prog:bP
 w:bG
 K:bb
 a6:a8->Iw ae
 base:bq
 A:da
 N:sl a8
 gz:ay
 B4:ag
 env:eC
 outer:sl eC
 stack:sl eC
 ex:sl I
 fn:a8->Bool
 calm:Bool
 c_:sl (I×bH)
 bL:ae->ay->Prop
def mF(l:sl eC):sl I:=l.filterMap (·.frame)
abbrev bA.fs(X:bA):sl I:=mF X.outer
def yG(f6:i8)(x:a8):Prop:=f6.names.lookup x=B .local∨f6.names.lookup x=B .cell∨f6.names.lookup x=B .free
def Loc(f6:i8)(x:a8):Prop:=f6.names.lookup x=B .local∨f6.names.lookup x=B .cell
def Look(env:eC)(h:bq)(m:a8->Iw ae)(x:a8)(u:ae):Prop:=
 (env.kindOf x=B .local/\m x=B u)∨((env.kindOf x=B .cell∨env.kindOf x=B .free)/\∃c,env.cells.lookup x=B c/\h.IsCell c (B u))
structure bA.Ok (X:bA):Prop where
 mod:Mod X.K X.a6 X.base
 kind:X.env.scope.kind=.function
 glob:X.env.globals=mz
 blt:X.env.builtins=a1v
 above:X.gz⁻¹<=X.env.locals
 inj:∀x y c,X.env.cells.lookup x=B c->X.env.cells.lookup y=B c->x=y
 has:∀x,(X.env.kindOf x=B .cell∨X.env.kindOf x=B .free)->∃c,X.env.cells.lookup x=B c
 sT:∀x c,X.fn x=a9->X.env.cells.lookup x=B c->X.gz⁻¹<=c
 hd:X.calm=a9->X.A.handled=aa
 frames:X.A.frames=B X.stack
 uB:X.stack=X.outer∨(X.stack=X.env::X.outer/\X.env.frame=B X.env.locals)
 rK:∀b∈X.ex,b≠X.env.locals/\∀x c,X.env.cells.lookup x=B c->c≠b
 bs:∀b o,X.base.get? b=B o->X.gz.heap.get? b=B o/\X.B4 b=aa
 mG:X.base.objs.size<=X.gz⁻¹
 sU:∀b o,X.base.get? b=B o->b∉X.ex
 rL:∀b∈X.ex,b∉X.fs
 lj:X.gz.heap.FunFrames X.base X.outer
 oX:∀b∈X.fs,X.B4 b=aa
structure Inv (X:bA) (a4:sl (I×bH)) (G:sl (Iw V)) (H:ag) (s:ay):Prop where
 ok:X.Ok
 os:s.os=X.gz.os
 bare:y9 s.gens
 base:j7 X.fs X.ex X.B4 H X.gz.heap s.heap
 loc:∃m,s.heap.Ns X.env.locals m/\∀(i:Nat)(x:a8)(v:V),X.N[i]? =B x->G[i]? =B (B v)->yG X.env.scope x->∃u,RelV v u/\Look X.env s.heap m x u
 cell:∀x c,X.env.cells.lookup x=B c->∃v,s.heap.IsCell c v
 free:H X.env.locals=aa
 ll:∀x c,X.env.cells.lookup x=B c->H c=aa
 pin:∀p∈X.c_++a4,s.heap.get? p.1=B p.2/\H p.1=aa/\p.1≠X.env.locals/\p.1∉X.fs/\∀v,p.2.data≠ .cell v
 bQ:g6 X.prog X.w H s.heap
 len:G.length=X.N.length
variable{X:bA}{a4:sl (I×bH)}{s:ay}{t' i:Nat}{x:a8}{A:da}{E:ae->ay->Prop}{v:V}
section
variable{G:sl (Iw V)}
theorem bA.Ok.ER(ok:X.Ok){o:bH}(e:X.base.get? b=B o):b∉X.fs:=λa0=>by have:=(ok.lj.mem a0).1;rw[e]at this;cases this
theorem Inv.bs(D:Inv X a4 G H s):∀b o,X.base.get? b=B o->s.heap.get? b=B o/\H b=aa:=λb o e=>⟨D.base.keep b o (D.ok.bs b o e).1 (D.ok.bs b o e).2 (D.ok.ER e) (D.ok.sU b o e),D.base.free b o (D.ok.bs b o e).1 (D.ok.bs b o e).2 (D.ok.sU b o e)⟩
theorem Inv.gK(D:Inv X a4 G H s):∀b o,X.base.get? b=B o->s.heap.get? b=B o:=λb o e=>(D.bs b o e).1
theorem Inv.mod(D:Inv X a4 G H s):Mod X.K X.a6 X.base:=D.ok.mod
theorem Inv.gX(D:Inv X a4 G H s):X.K.In s.heap:=D.ok.mod.hY.keeps D.gK
theorem Inv.fr(D:Inv X a4 G H s):∃m,Fr X.base X.env.locals s.heap m:=
 let⟨m,aH,_⟩:=D.loc
 ⟨m,aH,D.gK,dE D.ok.mG D.ok.above⟩
theorem Inv.lt(D:Inv X a4 G H s):X.env.locals<s⁻¹:=let⟨_,aH,_⟩:=D.loc;aH.lt
theorem Inv.lp(D:Inv X a4 G H s):X.gz⁻¹<=s⁻¹:=dE D.ok.above (hv D.lt)
theorem Inv.a2k(D:Inv X a4 G H s)(h:s⁻¹<=a):a∉X.fs:=λa0=>by obtain⟨_,o,aU,_⟩:=D.ok.lj.mem a0;exact absurd (la (dI aU) (dE D.lp h)) (ry _)
theorem Inv.uC(D:Inv X a4 G H s):∀x c,X.env.cells.lookup x=B c->c≠X.env.locals:=λx c e z=>by obtain⟨v,o,aU,hd⟩:=D.cell x c e;obtain⟨m,⟨_,_,_,mH,ES,_⟩,_⟩:=D.loc;rw[z,mH]at aU;cases aU;rw[ES]at hd;cases hd
theorem Inv.lj(D:Inv X a4 G H s):s.heap.FunFrames X.base X.outer:=by
 have all:∀(l:sl eC),(∀b∈mF l,b∈X.fs)->X.gz.heap.FunFrames X.base l->s.heap.FunFrames X.base l:=by intro l;induction l with|nil=>intro _ _;trivial|cons env r ih=>intro ax ar;obtain⟨aA,⟨L,o,hf,aH,aU,hd⟩,ak⟩:=ar;have di:L∈X.fs:=ax L (by unfold mF;rw[vW,hf];exact iM);obtain⟨_,e⟩:=D.base.slot L o aU (D.ok.oX L di) di λz=>D.ok.rL L z di;exact⟨aA,⟨L,_,hf,aH,e,hd⟩,ih (λb a0=>ax b (by unfold mF;rw[vW,hf];exact eH _ a0)) ak⟩
 exact all X.outer (λ_ a0=>a0) D.ok.lj
theorem Inv.stack(D:Inv X a4 G H s):s.heap.FunFrames X.base X.stack:=by
 obtain e|⟨e,hf⟩:=D.ok.uB
 .rw[e];exact D.lj
 rw[e];obtain⟨m,aH,_⟩:=D.loc;refine .cons (by rw[D.ok.kind];decide) hf aH ?_ D.lj;exact Heap.get?_none_of_le (dE D.ok.mG D.ok.above)
theorem Inv.JC(D:Inv X a4 G H s):∀b∈mF X.stack,b∈X.env.locals::X.fs:=λb a0=>by
 obtain e|⟨e,hf⟩:=D.ok.uB
 .rw[e]at a0;exact eH _ a0
 rw[e]at a0;unfold mF at a0;rw[vW,hf]at a0;exact a0
theorem Inv.JD(D:Inv X a4 G H s):∀b∈mF X.stack,H b=aa:=λb a0=>by
 obtain e|a0:=dz.mp (D.JC b a0)
 .rw[e];exact D.free
 obtain⟨_,o,aU,_⟩:=D.ok.lj.mem a0;exact D.base.free b o aU (D.ok.oX b a0) λz=>D.ok.rL b z a0
theorem Inv.step{g':Array J0}{d':I'}{ch:sl I}(D:Inv X a4 G H s)(rM:∀b∈ch,(b∈X.ex∨X.gz⁻¹<=b)/\b≠X.env.locals/\(∀x c,X.env.cells.lookup x=B c->c≠b)/\∀p∈X.c_++a4,p.1≠b)(keep:∀b o,b≠X.env.locals->b∉X.fs->b∉ch->s.heap.get? b=B o->H b=aa->h'.get? b=B o)(slot:∀b o,b≠X.env.locals->b∈X.fs->b∉ch->s.heap.get? b=B o->H b=aa->∃aV,h'.get? b=B {o with slots:=aV})(free:∀b o,b∉ch->s.heap.get? b=B o->H b=aa->H' b=aa)(there:∀b o,b∉ch->s.heap.get? b=B o->∃h5,h'.get? b=B h5)(sQ:∀b xs,H b=B (.tup xs)->H' b=B (.tup xs))(rJ:∀b o u,H b=B (.kQ o u)->H' b=B (.kQ o u))(sR:∀b aJ,H b=B (.wh aJ)->∃more,H' b=B (.wh (aJ++more)))(ns:∀m,s.heap.Ns X.env.locals m->h'.Ns X.env.locals m)(bQ:g6 X.prog X.w H' h')(aI:y9 g'):Inv X a4 G H' {s with heap:=h',gens:=g',drawn:=d',toks:=t'}:=by
 have QD:∀b o,X.gz.heap.get? b=B o->b≠X.env.locals:=λb o e=>h3 (la (dI e) D.ok.above);have ET:∀b o,X.gz.heap.get? b=B o->b∉X.ex->b∉ch:=λb o e ah a0=>by
  rcases(rM b a0).1 with z|z
  .exact ah z
  exact absurd (la (dI e) z) (ry _)
 have QE:∀x c,X.env.cells.lookup x=B c->∀v,s.heap.IsCell c v->h'.IsCell c v:=λx c e v ⟨o,aU,hd⟩=>by
  have B5:c∉ch:=λz=>(rM c z).2.2.1 x c e Y;by_cases a7:c∈X.fs
  .obtain⟨aV,q⟩:=slot c o (D.uC x c e) a7 B5 aU (D.ll x c e);exact⟨_,q,hd⟩
  exact⟨o,keep c o (D.uC x c e) a7 B5 aU (D.ll x c e),hd⟩
 refine⟨D.ok,D.os,aI,⟨λb o e n a0 ah=>?_,λb o e n a0 ah=>?_,λb o e n ah=>?_,λb o e ah=>?_,λb xs e=>sQ b xs (D.base.sQ b xs e),λb o xs e=>rJ b o xs (D.base.rJ b o xs e),λb aJ e=>?_⟩,?_,λx c e=>?_,?_,λx c e=>?_,λp aq=>?_,bQ,D.len⟩
 .exact keep b o (QD b o e) a0 (ET b o e ah) (D.base.keep b o e n a0 ah) (D.base.free b o e n ah)
 .obtain⟨aV,aO⟩:=D.base.slot b o e n a0 ah;obtain⟨a2l,aT⟩:=slot b _ (QD b o e) a0 (ET b o e ah) aO (D.base.free b o e n ah);exact⟨a2l,aT⟩
 .obtain⟨h5,aO⟩:=D.base.there b o e ah;exact free b h5 (ET b o e ah) aO (D.base.free b o e n ah)
 .obtain⟨h5,aO⟩:=D.base.there b o e ah;exact there b h5 (ET b o e ah) aO
 .obtain⟨hA,aO⟩:=D.base.sR b aJ e;obtain⟨nV,aT⟩:=sR b _ aO;exact⟨hA++nV,by rw[aT,Array.append_assoc]⟩
 .obtain⟨m,aH,ar⟩:=D.loc;refine⟨m,ns m aH,λi x v aO aT e1=>?_⟩;obtain⟨u,r,l⟩:=ar i x v aO aT e1;refine⟨u,r,?_⟩;obtain l|⟨k,c,e,z⟩:=l
  .exact .inl l
  exact .inr ⟨k,c,e,QE x c e _ z⟩
 .obtain⟨v,z⟩:=D.cell x c e;exact⟨v,QE x c e v z⟩
 .obtain⟨m,⟨o,_,_,aU,_⟩,_⟩:=D.loc;exact free _ o (λz=>(rM _ z).2.1 Y) aU D.free
 .obtain⟨v,o,aU,hd⟩:=D.cell x c e;exact free c o (λz=>(rM c z).2.2.1 x c e Y) aU (D.ll x c e)
 obtain⟨e,n,ne,lU,d⟩:=D.pin p aq;have B5:p.1∉ch:=λz=>(rM p.1 z).2.2.2 p aq Y;exact⟨keep p.1 p.2 ne lU B5 e n,free p.1 p.2 B5 e n,ne,lU,d⟩
theorem Inv.un(D:Inv X a4 G H s)(u:j7 X.fs [] H H' s.heap h')(bQ:g6 X.prog X.w H' h'):Inv X a4 G H' {s with heap:=h',toks:=t'}:=by obtain⟨m,⟨o,_,_,aU,r⟩,_⟩:=id D.loc;obtain⟨_,di⟩:=u.any aU D.free (by simp);exact D.step (g':=s.gens) (d':=s.drawn) (ch:=[]) (λ_ z=>nomatch z) (λb o _ a0 _ e n=>u.keep b o e n a0 (by simp)) (λb o _ a0 _ e n=>u.slot b o e n a0 (by simp)) (λb o _ e n=>u.free b o e n (by simp)) (λb o _ e=>u.there b o e (by simp)) u.sQ u.rJ u.sR (λ_ hm=>by obtain⟨_,JE,JF,mH,g7⟩:=hm;rw[aU]at mH;cases mH;exact⟨_,JE,JF,di,g7⟩) bQ D.bare
theorem Inv.call{g':Array J0}{d':I'}{ch:sl I}(D:Inv X a4 G H s)(u:j7 (mF X.stack) ch H H' s.heap h')(bQ:g6 X.prog X.w H' h')(aI:y9 g')(rM:∀b∈ch,(b∈X.ex∨X.gz⁻¹<=b)/\b≠X.env.locals/\(∀x c,X.env.cells.lookup x=B c->c≠b)/\∀p∈X.c_++a4,p.1≠b):Inv X a4 G H' {s with heap:=h',gens:=g',drawn:=d',toks:=t'}:=by obtain⟨m,⟨o,_,_,aU,r⟩,_⟩:=id D.loc;obtain⟨_,di⟩:=u.any aU D.free λz=>(rM _ z).2.1 Y;exact D.step (ch:=ch) rM (λb o di a0 a7 e n=>u.keep b o e n (λz=>(dz.mp (D.JC b z)).elim di a0) a7) (λb o _ _ a7 e n=>u.any e n a7) (λb o a7 e n=>u.free b o e n a7) (λb o a7 e=>u.there b o e a7) u.sQ u.rJ u.sR (λ_ hm=>by obtain⟨_,JE,JF,mH,g7⟩:=hm;rw[aU]at mH;cases mH;exact⟨_,JE,JF,di,g7⟩) bQ aI
theorem Inv.turned{b0:I}(D:Inv X a4 G H s)(k:∀b o,b≠b0->s.heap.get? b=B o->h'.get? b=B o)(aH:H b0=aa)(di:b0≠X.env.locals)(O:b0∈X.ex∨X.gz⁻¹<=b0)(a5:∀x c,X.env.cells.lookup x=B c->c≠b0)(aG:∀p∈X.c_++a4,p.1≠b0):Inv X a4 G H {s with heap:=h',toks:=t'}:=by
 have uD:∀b u,H b=B u->b≠b0:=λb u e z=>by rw[z,aH]at e;cases e
 refine D.step (g':=s.gens) (d':=s.drawn) (ch:=[b0]) (λb a0=>?_) (λb o _ _ a7 e _=>k b o (λz=>a7 (by simp[z])) e) (λb o _ _ a7 e _=>⟨o.slots,k b o (λz=>a7 (by simp[z])) e⟩) (λ_ _ _ _ n=>n)
  (λb o a7 e=>⟨o,k b o (λz=>a7 (by simp[z])) e⟩) (λ_ _ e=>e) (λ_ _ _ e=>e) (λb _ e=>⟨#[],by rw[e];simp⟩) (λm hm=>?_) (λb u e=>?_) D.bare
 .have e:b=b0:=by simpa using a0
  subst e;exact⟨O,di,a5,aG⟩
 .obtain⟨o,b5,fZ,aU,r⟩:=hm;exact⟨o,b5,fZ,k _ o (ej di) aU,r⟩
 refine(D.bQ b u e).rH (λc v a7 q=>k c v ?_ q) (λ_ q=>q) λ_ _ q=>q;obtain z|z:=a7
 .rw[z];exact uD b u e
 exact uD c _ z
theorem Inv.tok(D:Inv X a4 G H s)(t:Nat):Inv X a4 G H {s with toks:=t}:=D.un (h':=s.heap) (t':=t) j7.refl D.bQ
theorem Inv.kept(D:Inv X a4 G H s)(k:∀b u,s.heap.get? b=B u->h'.get? b=B u):Inv X a4 G H {s with heap:=h',toks:=t'}:=D.un (j7.kept k) (D.bQ.kept k)
theorem Inv.laid(D:Inv X a4 G H s)(k:∀b u,s.heap.get? b=B u->h'.get? b=B u)(aq:s⁻¹<=a)(new:hj X.prog X.w (av H a o) h' a o):Inv X a4 G (av H a o) {s with heap:=h',toks:=t'}:=D.un (j7.laid k aq (D.bQ.fresh aq)) (D.bQ.laid k aq new)
theorem Inv.write{x e:I}(D:Inv X a4 G H s)(j6:rI (H x))(aF:e=x∨H e=B (.own x))(k:∀b u,b≠e->s.heap.get? b=B u->h'.get? b=B u)(yF:∃u,h'.get? e=B u)(new:hj X.prog X.w (av H x o) h' x o):Inv X a4 G (av H x o) {s with heap:=h',toks:=t'}:=D.un (j7.write j6 aF k yF) (D.bQ.write j6 aF k yF new)
theorem Inv.weak{aN:sl (Iw V)}(D:Inv X a4 G H s)(ar:aN.length=G.length)(w:∀(i:Nat) v,aN[i]? =B (B v)->G[i]? =B (B v)):Inv X a4 aN H s:=
 ⟨D.ok,D.os,D.bare,D.base,let⟨m,aH,j8⟩:=D.loc;⟨m,aH,λi x v aO aT e1=>j8 i x v aO (w i v aT) e1⟩,D.cell,D.free,D.ll,D.pin,D.bQ,ar.trans D.len⟩
theorem Inv.QF{rN:sl (I×bH)}(D:Inv X a4 G H s)(h:∀p∈rN,s.heap.get? p.1=B p.2/\H p.1=aa/\p.1≠X.env.locals/\p.1∉X.fs/\∀v,p.2.data≠ .cell v):Inv X rN G H s:=
 ⟨D.ok,D.os,D.bare,D.base,D.loc,D.cell,D.free,D.ll,λp aq=>(kN.mp aq).elim (λz=>D.pin p (sG _ z)) (h p),D.bQ,D.len⟩
theorem JG{N:sl a8}(dF:N.Nodup){j:Nat}(a:N[i]? =B x)(b:N[j]? =B x):i=j:=by obtain⟨O,aO⟩:=ei.mp a;obtain⟨_,aT⟩:=ei.mp b;exact(List.getElem_inj dF).mp (aO.trans aT.symm)
theorem QG{M:ug}{Q:Unit->ay->Prop}(D:Inv X a4 G H s)(dF:X.N.Nodup)(hi:X.N[i]? =B x)(ah:Loc X.env.scope x)(r:RelV v u)(h:∀a_,Inv X a4 (G.set i (B v)) H a_->(∃a,Ej a s.heap a_.heap/\(a=X.env.locals∨X.env.cells.lookup x=B a))->Q () a_)(hf:X.fn x=a9∨X.env.scope.names.lookup x=B .local:=by trivial):b7 M A (a1H X.env x u) Q E s:=by
 obtain⟨m,aH,ar⟩:=id D.loc;have a2m:(X.env.scope.kind== .class||(X.env.scope.kind== .module&&X.env.locals !=X.env.globals))=aK:=by rw[D.ok.kind];rfl
 have QH:i<G.length:=by rw[D.len];exact(ei.mp hi).1
 have uC:=D.uC;have QI:∀{a:I}{h':bq},(∃o,s.heap.get? a=B o/\H a=aa)->Ej a s.heap h'->g6 X.prog X.w H h':=fun{a h'} bf ax b cG e=>by
  obtain⟨_,_,uE⟩:=bf;refine(D.bQ b cG e).rH (λc jo a7 q=>(ax.2 c ?_).trans q) (λ_ q=>q) λ_ _ q=>q;rintro rfl;obtain rfl|a7:=a7
  .rw[uE]at e;cases e
  rw[uE]at a7;cases a7
 obtain aA|aA:=ah
 .refine wpAny_storeName_local aA aH (λh' EU ax=>?_) a2m;obtain⟨a2n,_,_,a2o,_⟩:=id aH;refine h _ ⟨D.ok,D.os,D.bare,⟨λb o e n a0 ah=>?_,λb o e n a0 ah=>?_,D.base.free,λb o e ah=>?_,D.base.sQ,D.base.rJ,D.base.sR⟩,⟨_,EU,λj y kR aO aT e1=>?_⟩,λy c e=>?_,D.free,D.ll,λp aq=>?_,QI ⟨a2n,a2o,D.free⟩ ax,by simpa using D.len⟩ ⟨_,ax,.inl Y⟩
  .exact(ax.2 b (h3 (la (dI e) D.ok.above))).trans (D.base.keep b o e n a0 ah)
  .obtain⟨aV,aO⟩:=D.base.slot b o e n a0 ah;exact⟨aV,(ax.2 b (h3 (la (dI e) D.ok.above))).trans aO⟩
  .obtain⟨h5,aO⟩:=D.base.there b o e ah;exact⟨h5,(ax.2 b (h3 (la (dI e) D.ok.above))).trans aO⟩
  .by_cases bY:j=i
   .subst bY;rw[hi]at aO;cases aO;rw[IQ QH]at aT;cases aT;exact⟨u,r,.inl ⟨aA,by simp⟩⟩
   rw[AE (ej bY)]at aT;obtain⟨wk,g7,q⟩:=ar j y kR aO aT e1;refine⟨wk,g7,?_⟩;obtain⟨k,e⟩|⟨k,c,e,z⟩:=q
   .refine .inl ⟨k,?_⟩;have:y≠x:=λe=>bY (JG dF aO (e ▸ hi));simp[this,e]
   exact .inr ⟨k,c,e,z.sameBut ax (uC y c e)⟩
  .obtain⟨jo,z⟩:=D.cell y c e;exact⟨jo,z.sameBut ax (uC y c e)⟩
  obtain⟨e,n,ne,lU,d⟩:=D.pin p aq;exact⟨(ax.2 p.1 ne).trans e,n,ne,lU,d⟩
 have JH:X.fn x=a9:=by
  obtain z|z:=hf
  .exact z
  rw[z]at aA;cases aA
 obtain⟨c,a7⟩:=D.ok.has x (.inl aA);obtain⟨jo,z⟩:=D.cell x c a7;refine wpAny_storeName_cell D.ok.kind aA a7 z (λh' oY ax=>?_);obtain⟨ks,QJ,a2p⟩:=id z;refine h {s with heap:=h'} ⟨D.ok,D.os,D.bare,⟨λb o e n a0 ah=>?_,λb o e n a0 ah=>?_,D.base.free,λb o e ah=>?_,D.base.sQ,D.base.rJ,D.base.sR⟩,⟨m,aH.sameBut ax (ej (uC x c a7)),λj y kR aO aT e1=>?_⟩,λy e8 e=>?_,D.free,D.ll,λp aq=>?_,QI ⟨ks,QJ,D.ll x c a7⟩ ax,by simpa using D.len⟩ ⟨c,ax,.inr a7⟩
 .exact(ax.2 b (h3 (la (dI e) (D.ok.sT x c JH a7)))).trans (D.base.keep b o e n a0 ah)
 .obtain⟨aV,aO⟩:=D.base.slot b o e n a0 ah;exact⟨aV,(ax.2 b (h3 (la (dI e) (D.ok.sT x c JH a7)))).trans aO⟩
 .obtain⟨h5,aO⟩:=D.base.there b o e ah;exact⟨h5,(ax.2 b (h3 (la (dI e) (D.ok.sT x c JH a7)))).trans aO⟩
 .by_cases bY:j=i
  .subst bY;rw[hi]at aO;cases aO;rw[IQ QH]at aT;cases aT;exact⟨u,r,.inr ⟨.inl aA,c,a7,oY⟩⟩
  rw[AE (ej bY)]at aT;obtain⟨wk,g7,q⟩:=ar j y kR aO aT e1;refine⟨wk,g7,?_⟩;obtain q|⟨k,e8,e,mI⟩:=q
  .exact .inl q
  refine .inr ⟨k,e8,e,mI.sameBut ax ?_⟩;rintro rfl;exact bY (JG dF aO (D.ok.inj _ _ _ e a7 ▸ hi))
 .by_cases EV:e8=c
  .subst EV;exact⟨_,oY⟩
  obtain⟨oZ,g8⟩:=D.cell y e8 e;exact⟨oZ,g8.sameBut ax EV⟩
 obtain⟨e,n,ne,lU,d⟩:=D.pin p aq;refine⟨(ax.2 p.1 ?_).trans e,n,ne,lU,d⟩;intro q;rw[q,QJ]at e;have eW:ks=p.2:=h4 e;exact d jo (by rw[<-eW];exact a2p)
theorem yH{M:ug}{Q:Unit->ay->Prop}(D:Inv X a4 G H s)(dF:X.N.Nodup)(hi:X.N[i]? =B x)(ah:Loc X.env.scope x)(r:RelV v u)(h:∀a_,Inv X a4 (G.set i (B v)) H a_->Q () a_)(hf:X.fn x=a9∨X.env.scope.names.lookup x=B .local:=by trivial):b7 M A (a1H X.env x u) Q E s:=
 QG D dF hi ah r (λa_ et _=>h a_ et) hf
theorem Inv.EW{a_:ay}{ch:sl I}(D:Inv X a4 G H s)(aU:a_.os=s.os)(u:j7 (mF X.stack) ch H H' s.heap a_.heap)(bQ:g6 X.prog X.w H' a_.heap)(aI:y9 a_.gens)(rM:∀b∈ch,(b∈X.ex∨X.gz⁻¹<=b)/\b≠X.env.locals/\(∀x c,X.env.cells.lookup x=B c->c≠b)/\∀p∈X.c_++a4,p.1≠b):Inv X a4 G H' a_:=by obtain⟨_,g',d',t',h5⟩:=a_;have e:h5=s.os:=aU;subst e;exact D.call (g':=g') (t':=t') (d':=d') u bQ aI rM
end
abbrev cW:=ae->Iw I->ag->Prop
abbrev St:=sl (Iw V)
abbrev c2:=V->ag->Prop
abbrev bZ:=St->ag->c2->Prop
abbrev TT:=St->ag->(Bool->ag->Prop)->Prop
abbrev gA:=St->ag->(sl V->ag->Prop)->Prop
structure Ends where
 c8:St->ag->Prop
 iw:c2
 gK:St->ag->Prop:=λ_ _=>False
 dX:St->ag->Prop:=λ_ _=>False
abbrev ez:=Ends->St->ag->Prop
inductive h_ (X:bA) (a4:sl (I×bH)) (G:St) (Q:c2) (u:ae) (a_:ay):Prop
 |mk v H':Inv X a4 G H' a_->RelV v u->Q v H'->h_ X a4 G Q u a_
inductive EX (X:bA) (a4:sl (I×bH)) (G:St) (Q:Bool->ag->Prop) (b:Bool) (a_:ay):Prop
 |mk H':Inv X a4 G H' a_->Q b H'->EX X a4 G Q b a_
inductive QK (X:bA) (a4:sl (I×bH)) (G:St) (Q:sl V->ag->Prop) (us:sl ae) (a_:ay):Prop
 |mk vs H':Inv X a4 G H' a_->cC vs us->Q vs H'->QK X a4 G Q us a_
def nc(X:bA)(a4:sl (I×bH))(af:Ends)(f:Flow)(a_:ay):Prop:=
 match f with
 |.next=>∃aN H',Inv X a4 aN H' a_/\af.c8 aN H'
 |.brk=>∃aN H',Inv X a4 aN H' a_/\af.gK aN H'
 |.cont=>∃aN H',Inv X a4 aN H' a_/\af.dX aN H'
 |.ret u=>∃v aN H',Inv X a4 aN H' a_/\RelV v u/\af.iw v H'
def bS(X:bA)(e:bO)(t:bZ):Prop:=
 ∀(a4:sl (I×bH))(s:ay)(G:St)(H:ag)(Q:c2),Inv X a4 G H s->t G H Q->b7 (bp X.prog X.w) X.A (eval e X.env) (h_ X a4 G Q) X.bL s
def nd(X:bA)(e:bO)(t:TT):Prop:=
 ∀(a4:sl (I×bH))(s:ay)(G:St)(H:ag)(Q:Bool->ag->Prop),Inv X a4 G H s->t G H Q->b7 (bp X.prog X.w) X.A (isTrue e X.env (eval e X.env)) (EX X a4 G Q) X.bL s
def jq(X:bA)(e:bO)(t:TT):Prop:=
 ∀(whole:hX ae)(a4:sl (I×bH))(s:ay)(G:St)(H:ag)(Q:Bool->ag->Prop),Inv X a4 G H s->t G H Q->b7 (bp X.prog X.w) X.A (isTrue e X.env whole) (EX X a4 G Q) X.bL s
variable{e:bO}
theorem jq.pt{t:TT}(h:jq X e t):nd X e t:=h _
def hI(X:bA)(b5:sl bO)(t:gA):Prop:=
 ∀(pos:Pos)(a4:sl (I×bH))(s:ay)(G:St)(H:ag)(Q:sl V->ag->Prop),Inv X a4 G H s->t G H Q->b7 (bp X.prog X.w) X.A (spliced (lS pos (fI b5 X.env))) (QK X a4 G Q) X.bL s
def jr(X:bA)(st:bD)(t:ez):Prop:=
 ∀(a4:sl (I×bH))(s:ay)(G:St)(H:ag)(af:Ends),Inv X a4 G H s->t af G H->b7 (bp X.prog X.w) X.A (exec st X.env) (nc X a4 af) X.bL s
def ix(X:bA)(st:sl bD)(t:ez):Prop:=
 ∀(a4:sl (I×bH))(s:ay)(G:St)(H:ag)(af:Ends),Inv X a4 G H s->t af G H->b7 (bp X.prog X.w) X.A (execs st X.env) (nc X a4 af) X.bL s
theorem bW{br:Type}{t:hX br}{Q e9:br->ay->Prop}{M:ug}(h:b7 M A t Q E s)(iO:∀a s,Q a s->e9 a s):b7 M A t e9 E s:=mB h iO λ_ _ x=>x
variable{c1 cf:bZ}{G:St}{pos:Pos}{Q:ae->ay->Prop}{op:yc}{c:bO}
section
theorem bin{a b:bO}(bf:bS X a c1)(a0:bS X b cf){R:V->V->ag->Prop}(D:Inv X a4 G H s)(h:c1 G H λx ai=>cf G ai λy au=>R x y au){br:Type}{Q:br->ay->Prop}{f:ae->ae->hX br}(hf:∀v u s2 x y au,Inv X a4 G au s2->RelV x v->RelV y u->R x y au->b7 (bp X.prog X.w) X.A (f v u) Q X.bL s2):b7 (bp X.prog X.w) X.A (eval a X.env) (λv dw=>b7 (bp X.prog X.w) X.A (eval b X.env) (λu j9=>b7 (bp X.prog X.w) X.A (f v u) Q X.bL j9) X.bL dw) X.bL s:=by refine bW (bf a4 s G H _ D h) λv s1 ⟨x,ai,aP,cx,bw⟩=>?_;refine bW (a0 a4 s1 G ai _ aP bw) λu s2 ⟨y,au,cM,dT,cy⟩=>?_;exact hf v u s2 x y au cM cx dT cy
def dc(i:Nat):bZ:=λG H Q=>match G[i]? with
 |some (B v)=>Q v H
 |_=>False
theorem nf{Q:c2}(h:dc i G H Q):∃v,G[i]? =B (B v)/\Q v H:=by
 unfold dc at h;split at h
 .exact⟨_,‹_›,h⟩
 cases h
theorem o_{Q:c2}(e:G[i]? =B (B v))(h:Q v H):dc i G H Q:=by unfold dc;rw[e];exact h
def iP(v:V):bZ:=λ_ H Q=>Q v H
theorem a2q(dF:X.N[i]? =B x)(bk:yG X.env.scope x)(hd:(x==("__debug__" :a8))=aK:=by decide)(lq:(x==("__classdict__" :a8))=aK:=by decide):bS X (.Name x pos) (dc i):=by
 intro a4 s G H Q D h;obtain⟨v,e,h⟩:=nf h;obtain⟨m,aH,ar⟩:=D.loc;obtain⟨u,r,l⟩:=ar i x v dF e bk;have fin:h_ X a4 G Q u s:=⟨v,H,D,r,h⟩;obtain⟨aA,hm⟩|⟨aA,c,a7,nW⟩:=l
 .exact a1J (ako D.ok.kind aA aH hm fin) hd
 obtain aA|aA:=aA
 .exact a1J (akn D.ok.kind aA a7 nW fin) hd
 exact a1J (wpAny_loadName_free D.ok.kind aA a7 nW fin lq) hd
theorem cg{i j pos}:bS X (.Constant (.int i) j pos) (iP (.int i)):=λ_ _ _ H _ D h=>wpAny_Constant_int ⟨.int i,H,D.tok _,⟨_,Y⟩,h⟩
theorem qF{b j pos}:bS X (.Constant (.bool b) j pos) (iP (.c3 b)):=λ_ _ _ H _ D h=>Constant_bool ⟨.c3 b,H,D,Y,h⟩
theorem B6{j pos}:bS X (.Constant .none j pos) (iP .bR):=λ_ _ _ H _ D h=>a14 ⟨.bR,H,D,Y,h⟩
theorem ek{x j pos}:bS X (.Constant (.str x) j pos) (iP (.str x)):=λ_ _ _ H _ D h=>Calls.Constant_str ⟨.str x,H,D.tok _,⟨_,Y⟩,h⟩
def hJ(X:bA)(x:a8):Prop:=X.env.kindOf x=B .globalImplicit
theorem o'(D:Inv X a4 G H s)(aI:hJ X x)(hm:X.a6 x=B u)(h:Q u s)(hd:(x==("__debug__" :a8))=aK:=by decide):b7 (bp X.prog X.w) X.A (eval (.Name x pos) X.env) Q E s:=
 ajl D.ok.kind aI (Calls.loadGlobal_global (by rw[D.ok.glob];exact D.mod.glob.keeps D.gK) hm h) hd
theorem wm(D:Inv X a4 G H s)(aI:hJ X x)(hm:X.a6 x=aa)(bk:Et x=B u)(h:Q u s)(aH:x≠"__name__" :=by decide)(hd:(x==("__debug__" :a8))=aK:=by decide):b7 (bp X.prog X.w) X.A (eval (.Name x pos) X.env) Q E s:=by obtain⟨_,O,a5⟩:=D.mod.blt;exact ajl D.ok.kind aI (Calls.loadGlobal_builtin (by rw[D.ok.glob];exact D.mod.glob.keeps D.gK) hm (by rw[D.ok.blt];exact O.keeps D.gK) ((a5 x aH).trans bk) h) hd
variable{a b:bO}
def JI(X:bA)(op:yc)(a b:bO)(t:bZ):Prop:=
 ∀(a4:sl (I×bH))(s:ay)(G:St)(H:ag)(Q:c2),Inv X a4 G H s->t G H Q->b7 (bp X.prog X.w) X.A (eval a X.env) (λv dw=>b7 (bp X.prog X.w) X.A (eval b X.env) (λu j9=>b7 (bp X.prog X.w) X.A (n5 op v u) (h_ X a4 G Q) X.bL j9) X.bL dw) X.bL s
theorem a2r(b:bO)(h:op≠ .In)(a5:op≠ .NotIn):AS op b=aK:=by
 have aO:(op==ajm)=aK:=by cases op<;>first|rfl|exact absurd Y h
 have aT:(op==ajn)=aK:=by cases op<;>first|rfl|exact absurd Y a5
 cases b<;>simp[AS,aO,aT]
def a2s(c1:bZ):bZ:=λG H Q=>c1 G H λx ai=>Q (.c3 (decide (x=.bR))) ai
def a2t(c1:bZ):bZ:=λG H Q=>c1 G H λx ai=>Q (.c3 (!decide (x=.bR))) ai
theorem RelV.QL{x:V}{v:ae}(r:RelV x v):(v==eS)=decide (x=.bR):=by cases x with|bR=>cases r;rfl|c3 _=>cases r;rfl|int _=>obtain⟨t,rfl⟩:=r;rfl|str _=>obtain⟨t,rfl⟩:=r;rfl|lT _=>obtain⟨t,rfl⟩:=r;rfl|B3 _=>obtain⟨t,rfl⟩:=r;rfl|ref _=>cases r;rfl|ty _=>cases r;rfl
theorem QM{j ja}(bf:bS X a c1):JI X .Is a (.Constant .none j ja) (a2s c1):=by intro a4 s G H Q D h;refine bW (bf a4 s G H _ D h) λv _ ⟨x,ai,aP,cx,bw⟩=>?_;exact a14 (is_none_gen ⟨.c3 _,ai,aP,by rw[cx.QL];rfl,bw⟩)
theorem a2u{j ja}(bf:bS X a c1):JI X .IsNot a (.Constant .none j ja) (a2t c1):=by intro a4 s G H Q D h;refine bW (bf a4 s G H _ D h) λv _ ⟨x,ai,aP,cx,bw⟩=>?_;exact a14 (isnot_none_gen ⟨.c3 _,ai,aP,by rw[cx.QL];rfl,bw⟩)
inductive QN (Q:Bool->ag->Prop) (x:V) (ai:ag):Prop
 |mk c:x=.c3 c->Q c ai->QN Q x ai
def p0(t:bZ):TT:=λG H Q=>t G H (QN Q)
theorem JJ{t:bZ}(h:JI X op a b t)(O:AS op b=aK:=by first|exact a2r _ dQ dQ|rfl):nd X (.Compare a [op] [b] pos) (p0 t):=by intro a4 s G H Q D hw;refine akk (bW (h a4 s G H _ D hw) λv _ O=>bW O λu _ a5=>bW a5 λc _ ⟨x,ai,aP,cx,bw⟩=>?_) O;obtain⟨d,rfl,q⟩:=bw;cases cx;exact uw ⟨ai,aP,q⟩
theorem js{t:bZ}(h:bS X e t)(aF:∀whole,isTrue e X.env whole=(do let v <-whole;ur e.pos;rB [v] (truthy v)):=by intro _;rfl):nd X e (p0 t):=by intro a4 s G H Q D hw;refine isTrue_plain (bW (h a4 s G H _ D hw) λv _ ⟨x,ai,aP,cx,bw⟩=>?_) (aF _);obtain⟨d,rfl,q⟩:=bw;cases cx;exact uw ⟨ai,aP,q⟩
variable{pZ EY:TT}{rest:sl bO}
def JK(t u:TT):TT:=λG H Q=>t G H λc ai=>if c=a9 then u G ai Q else Q aK ai
def JL(t u:TT):TT:=λG H Q=>t G H λc ai=>if c=a9 then Q a9 ai else u G ai Q
def a2v(t:TT):TT:=λG H Q=>t G H λc ai=>Q (!c) ai
theorem p_(bf:nd X a pZ):jq X (.BoolOp .And [a] pos) pZ:=by intro _ a4 s G H Q D h;refine isTrue_and (bW (bf a4 s G H Q D h) λc _ e=>?_);cases c with|true=>exact isTrue_and_nil e|false=>exact e
theorem JM(bf:nd X a pZ):jq X (.BoolOp .Or [a] pos) pZ:=by intro _ a4 s G H Q D h;refine isTrue_or (bW (bf a4 s G H Q D h) λc _ e=>?_);cases c with|false=>exact isTrue_or_nil e|true=>exact e
theorem nX(bf:nd X a pZ)(a0:jq X (.BoolOp .And (b::rest) pos) EY):jq X (.BoolOp .And (a::b::rest) pos) (JK pZ EY):=by intro B7 a4 s G H Q D h;refine isTrue_and (bW (bf a4 s G H _ D h) λc s1 ⟨ai,aP,bw⟩=>?_);cases c with|true=>exact a0 B7 a4 s1 G ai Q aP bw|false=>exact⟨ai,aP,bw⟩
theorem EZ(bf:nd X a pZ)(a0:jq X (.BoolOp .Or (b::rest) pos) EY):jq X (.BoolOp .Or (a::b::rest) pos) (JL pZ EY):=by intro B7 a4 s G H Q D h;refine isTrue_or (bW (bf a4 s G H _ D h) λc s1 ⟨ai,aP,bw⟩=>?_);cases c with|true=>exact⟨ai,aP,bw⟩|false=>exact a0 B7 a4 s1 G ai Q aP bw
theorem wo(bf:nd X a pZ):nd X (.UnaryOp .Not a pos) (a2v pZ):=by intro a4 s G H Q D h;exact isTrue_not (bW (bf a4 s G H (λc ai=>Q (!c) ai) D h) λ_ _ ⟨ai,aP,q⟩=>⟨ai,aP,q⟩)
inductive QO (cf:bZ) (G:L2.St) (Q:c2) (x:V) (ai:ag):Prop
 |mk c:x=.c3 c->(if c=a9 then cf G ai Q else Q (.c3 aK) ai)->QO cf G Q x ai
def a2w(c1 cf:bZ):bZ:=λG H Q=>c1 G H (QO cf G Q)
inductive QP (cf:bZ) (G:L2.St) (Q:c2) (x:V) (ai:ag):Prop
 |mk c:x=.c3 c->(if c=a9 then Q (.c3 a9) ai else cf G ai Q)->QP cf G Q x ai
def QQ(c1 cf:bZ):bZ:=λG H Q=>c1 G H (QP cf G Q)
theorem p'{op}{t:bZ}(h:bS X a t):bS X (.BoolOp op [a] pos) t:=λa4 s G H Q D hw=>BoolOp_one (h a4 s G H Q D hw)
theorem E_(bf:bS X a c1)(a0:bS X (.BoolOp .And (b::rest) pos) cf):bS X (.BoolOp .And (a::b::rest) pos) (a2w c1 cf):=by intro a4 s G H Q D h;refine BoolOp_and (bW (bf a4 s G H _ D h) λv s1 ⟨x,ai,aP,cx,bw⟩=>?_);obtain⟨c,rfl,bw⟩:=bw;cases cx;refine uw ?_;cases c with|true=>exact a0 a4 s1 G ai Q aP bw|false=>exact⟨.c3 aK,ai,aP,rfl,bw⟩
theorem p1(bf:bS X a c1)(a0:bS X (.BoolOp .Or (b::rest) pos) cf):bS X (.BoolOp .Or (a::b::rest) pos) (QQ c1 cf):=by intro a4 s G H Q D h;refine BoolOp_or (bW (bf a4 s G H _ D h) λv s1 ⟨x,ai,aP,cx,bw⟩=>?_);obtain⟨c,rfl,bw⟩:=bw;cases cx;refine uw ?_;cases c with|false=>exact a0 a4 s1 G ai Q aP bw|true=>exact⟨.c3 a9,ai,aP,rfl,bw⟩
def QR(t:TT)(c1 cf:bZ):bZ:=λG H Q=>t G H λc ai=>if c=a9 then c1 G ai Q else cf G ai Q
theorem QS(a7:nd X c pZ)(bf:bS X a c1)(a0:bS X b cf):bS X (.IfExp c a b pos) (QR pZ c1 cf):=by intro a4 s G H Q D h;refine wpAny_IfExp (bW (a7 a4 s G H _ D h) λd s1 ⟨ai,aP,bw⟩=>?_);cases d with|true=>exact bf a4 s1 G ai Q aP bw|false=>exact a0 a4 s1 G ai Q aP bw
end
def bo(K:bb)(H:ag)(a:I)(xs:sl V):Prop:=
 fg H a (.lst xs)∨∃(o:bH)(b6:Array ae)(n:Nat),K.lookup a=B o/\o.cls=.type "list"/\o.dict=aa/\o.data=.seq b6 n/\b6.size<=cN/\cC xs b6.toList
def dt(K:bb)(H:ag)(a:I)(xs:sl V):Prop:=
 fg H a (.tup xs)∨∃(o:bH)(b6:Array ae)(n:Nat),K.lookup a=B o/\o.cls=.type "tuple"/\o.data=.seq b6 n/\b6.size<=cN/\cC xs b6.toList
noncomputable def a2x:ae->Iw V
 |.none=>B .bR
 |.bool b=>B (.c3 b)
 |.int i _=>B (.int i)
 |.str x _=>B (.str x)
 |.bytes b _=>B (.lT b)
 |.float b _=>B (.B3 b)
 |.ref a=>B (.ref a)
 |.type n=>B (.ty n)
 |_=>aa
theorem RelV.abs{x:V}(r:RelV x u):a2x u=B x:=by cases x with|bR=>cases r;rfl|c3 _=>cases r;rfl|int _=>obtain⟨t,rfl⟩:=r;rfl|str _=>obtain⟨t,rfl⟩:=r;rfl|lT _=>obtain⟨t,rfl⟩:=r;rfl|B3 _=>obtain⟨t,rfl⟩:=r;rfl|ref _=>cases r;rfl|ty _=>cases r;rfl
theorem RelV.inj{x y:V}(r:RelV x u)(q:RelV y u):x=y:=h4 (r.abs.symm.trans q.abs)
theorem cC.inj:∀{xs ys:sl V}{us:sl ae},cC xs us->cC ys us->xs=ys
 |_,_,_,.nil,.nil=>rfl
 |_,_,_,.cons r t,.cons g7 t'=>by rw[r.inj g7,cC.inj t t']
variable{K:bb}
section
variable{ys:sl V}
theorem bo.of(h:H a=B (.lst xs)):bo K H a xs:=.inl (.inl h)
theorem dt.of(h:H a=B (.tup xs)):dt K H a xs:=.inl (.inl h)
theorem Inv.list(D:Inv X a4 G H s)(h:bo X.K H a xs):∃b6:sl ae,cC xs b6/\PlainL s.heap a b6.toArray/\xs.length<=cN:=by
 obtain h|⟨o,b6,n,aA,a7,hd,ax,aR,r⟩:=h
 .obtain⟨z,b6,n,r,e⟩:=h.ok D.bQ;exact⟨b6,r,⟨_,n,e,Y,Y,Y⟩,z⟩
 refine⟨b6.toList,r,⟨o,n,D.gX a o aA,a7,hd,by simpa using ax⟩,?_⟩;have e:=r.length;simp only[a0t]at e
 lia
theorem Inv.tuple(D:Inv X a4 G H s)(h:dt X.K H a xs):∃b6:sl ae,cC xs b6/\Eh s.heap a b6.toArray/\xs.length<=cN:=by
 obtain h|⟨o,b6,n,aA,a7,ax,aR,r⟩:=h
 .obtain⟨z,b6,r,p⟩:=h.ok D.bQ;exact⟨b6,r,p,z⟩
 refine⟨b6.toList,r,⟨o,D.gX a o aA,a7,n,by simpa using ax⟩,?_⟩;have e:=r.length;simp only[a0t]at e
 lia
theorem Inv.yI(D:Inv X a4 G H s)(h:bo X.K H a xs)(h':bo X.K H a ys):xs=ys:=by
 obtain⟨b6,r,⟨o,n,e,_,_,d⟩,_⟩:=D.list h;obtain⟨ng,g7,⟨_,_,d8,_,_,d'⟩,_⟩:=D.list h';rw[e]at d8;cases d8;rw[d]at d';injection d' with p2 _;have:b6=ng:=by simpa using g5 a0u p2
 subst this;exact r.inj g7
theorem Inv.a2y(D:Inv X a4 G H s)(h:dt X.K H a xs)(h':dt X.K H a ys):xs=ys:=by
 obtain⟨b6,r,⟨o,e,_,n,d⟩,_⟩:=D.tuple h;obtain⟨ng,g7,⟨_,d8,_,_,d'⟩,_⟩:=D.tuple h';rw[e]at d8;cases d8;rw[d]at d';injection d' with p2 _;have:b6=ng:=by simpa using g5 a0u p2
 subst this;exact r.inj g7
end
noncomputable abbrev bA.rP(X:bA)(E:ae->ay->Prop):bA:={X with bL:=E}
abbrev bA.B8(X:bA):bA:=X.rP λ_ _=>False
theorem bA.Ok.rP(ok:X.Ok)(E:ae->ay->Prop):(X.rP E).Ok:=
 ⟨ok.mod,ok.kind,ok.glob,ok.blt,ok.above,ok.inj,ok.has,ok.sT,ok.hd,ok.frames,ok.uB,ok.rK,ok.bs,ok.mG,ok.sU,ok.rL,ok.lj,ok.oX⟩
theorem bA.Ok.uF(ok:(X.rP E).Ok):X.Ok:=
 ⟨ok.mod,ok.kind,ok.glob,ok.blt,ok.above,ok.inj,ok.has,ok.sT,ok.hd,ok.frames,ok.uB,ok.rK,ok.bs,ok.mG,ok.sU,ok.rL,ok.lj,ok.oX⟩
variable{af:Ends}
theorem Inv.rP(D:Inv X a4 G H s)(E:ae->ay->Prop):Inv (X.rP E) a4 G H s:=⟨D.ok.rP E,D.os,D.bare,D.base,D.loc,D.cell,D.free,D.ll,D.pin,D.bQ,D.len⟩
theorem Inv.uF(D:Inv (X.rP E) a4 G H s):Inv X a4 G H s:=⟨D.ok.uF,D.os,D.bare,D.base,D.loc,D.cell,D.free,D.ll,D.pin,D.bQ,D.len⟩
theorem nc.uF{f:Flow}{a_:ay}(h:nc (X.rP E) a4 af f a_):nc X a4 af f a_:=by cases f with|next=>obtain⟨aN,H',D,q⟩:=h;exact⟨aN,H',D.uF,q⟩|brk=>obtain⟨aN,H',D,q⟩:=h;exact⟨aN,H',D.uF,q⟩|cont=>obtain⟨aN,H',D,q⟩:=h;exact⟨aN,H',D.uF,q⟩|ret u=>obtain⟨v,aN,H',D,r,q⟩:=h;exact⟨v,aN,H',D.uF,r,q⟩
theorem ix.B8{st:sl bD}{t:ez}(h:ix X.B8 st t):ix X st t:=λa4 s G H af D hw=>mB (h a4 s G H af (D.rP _) hw) (λ_ _ q=>q.uF) λ_ _ z=>hu z
variable{b_:bZ}
section
variable{st:bD}{rest:sl bD}{t u:ez}
def B9:ez:=λaf G H=>af.c8 G H
def nY(t u:ez):ez:=λaf G H=>t {af with c8:=u af} G H
theorem d9:ix X [] B9:=λ_ _ G H _ D h=>wb ⟨G,H,D,h⟩
theorem aC(O:jr X st t)(a5:ix X rest u):ix X (st::rest) (nY t u):=by intro a4 s G H af D h;refine a1M (bW (O a4 s G H {af with c8:=u af} D h) λf s1 q=>?_);cases f with|next=>obtain⟨aN,H',et,q⟩:=q;exact a5 a4 s1 aN H' af et q|ret v=>exact q|brk=>exact q|cont=>exact q
theorem aX(O:jr X st t):ix X [st] t:=by intro a4 s G H af D h;refine a1M (bW (O a4 s G H af D h) λf _ q=>?_);cases f with|next=>exact wb q|ret v=>exact q|brk=>exact q|cont=>exact q
def a2z:ez:=λaf G H=>af.gK G H
theorem QT:jr X (.Break pos) a2z:=λ_ _ G H _ D h=>wpAny_Break ⟨G,H,D,h⟩
theorem Inv.quiet(D:Inv X a4 G H s):interactive X.env=aK:=by simp[interactive,D.ok.kind]
def Ba(b_:bZ):ez:=λaf G H=>b_ G H λ_ ai=>af.c8 G ai
theorem ea(aF:bS X e b_)(ax:sN e aa pos.line X.env=pure aK:=by rfl):jr X (.Expr e pos) (Ba b_):=by intro a4 s G H _ D h;exact wpAny_Expr_any (bW (aF a4 s G H _ D h) λv _ ⟨x,ai,aP,_,bw⟩=>⟨G,ai,aP,bw⟩) D.quiet ax
def p3(b_:bZ):ez:=λaf G H=>b_ G H af.iw
theorem bF(aF:bS X e b_):jr X (.Return (B e) pos) (p3 b_):=by intro a4 s G H _ D h;exact wpAny_Return_some (bW (aF a4 s G H _ D h) λv _ ⟨x,ai,aP,cx,bw⟩=>⟨x,G,ai,aP,cx,bw⟩)
def JN(c:TT)(t u:ez):ez:=λaf G H=>c G H λb ai=>if b=a9 then t af G ai else u af G ai
theorem d4{a b:sl bD}{kS:TT}(a7:nd X c kS)(bf:ix X a t)(a0:ix X b u):jr X (.If c a b pos) (JN kS t u):=by intro a4 s G H af D h;refine wpAny_If (bW (a7 a4 s G H _ D h) λd s1 ⟨ai,aP,bw⟩=>?_);cases d with|true=>exact bf a4 s1 G ai af aP bw|false=>exact a0 a4 s1 G ai af aP bw
end
abbrev h7:=V->St->ag->(St->ag->Prop)->Prop
abbrev uG:=sl V->St->ag->(St->ag->Prop)->Prop
def p4(X:bA)(yJ:bO)(t:h7):Prop:=
 ∀(a4:sl (I×bH))(s:ay)(G:St)(H:ag)(v:V)(u:ae)(Q:St->ag->Prop),Inv X a4 G H s->RelV v u->t v G H Q->b7 (bp X.prog X.w) X.A (yg yJ X.env u) (λ_ a_=>∃aN H',Inv X a4 aN H' a_/\Q aN H') X.bL s
def Bb(X:bA)(ts:sl bO)(t:uG):Prop:=
 ∀(a4:sl (I×bH))(s:ay)(G:St)(H:ag)(vs:sl V)(us:sl ae)(Q:St->ag->Prop),Inv X a4 G H s->cC vs us->t vs G H Q->b7 (bp X.prog X.w) X.A (ajY ((sL ts X.env).map (·.2)) us) (λ_ a_=>∃aN H',Inv X a4 aN H' a_/\Q aN H') X.bL s
abbrev JO:=V->V->V->ag->(ag->Prop)->Prop
def QU(X:bA)(t:JO):Prop:=
 ∀(a4:sl (I×bH))(s:ay)(G:St)(H:ag)(o i v:V)(fP cb u:ae)(Q:ag->Prop),Inv X a4 G H s->RelV o fP->RelV i cb->RelV v u->t o i v H Q->b7 (bp X.prog X.w) X.A (setItem fP cb u) (λ_ a_=>∃H',Inv X a4 G H' a_/\Q H') X.bL s
abbrev JP:=V->V->ag->c2->Prop
def a2A(X:bA)(op:J5)(t:JP):Prop:=
 ∀(a4:sl (I×bH))(s:ay)(G:St)(H:ag)(x y:V)(v u:ae)(Q:c2),Inv X a4 G H s->RelV x v->RelV y u->t x y H Q->b7 (bp X.prog X.w) X.A (Jc op v u) (h_ X a4 G Q) X.bL s
variable{b5:sl bO}{k:Nat}{tg:bO}
def mJ(i:Nat):h7:=λv G H Q=>Q (G.set i (B v)) H
theorem h8(dF:X.N.Nodup)(hi:X.N[i]? =B x:=by rfl)(ah:Loc X.env.scope x:=by trivial)(hf:X.fn x=a9∨X.env.scope.names.lookup x=B .local:=by trivial):p4 X (.Name x pos) (mJ i):=by intro _ s G H v u Q D r h;exact akh (yH D dF hi ah r (λ_ et=>⟨_,H,et,h⟩) hf)
def a2B:uG:=λvs G H Q=>vs=[]/\Q G H
inductive QV (t:h7) (u:uG) (vs:sl V) (G:L2.St) (H:ag) (Q:L2.St->ag->Prop):Prop
 |mk v r:vs=v::r->(t v G H λaN H'=>u r aN H' Q)->QV t u vs G H Q
theorem JQ:Bb X [] a2B:=by intro _ s G H _ _ Q D r h;obtain⟨e,h⟩:=h;subst e;cases r;exact assignInOrder_nil ⟨G,H,D,h⟩
theorem yK{t:h7}{u:uG}(O:p4 X e t)(a5:Bb X b5 u)(ax:(sL (e::b5) X.env).map (·.2)=yg e X.env::(sL b5 X.env).map (·.2):=by rfl):Bb X (e::b5) (QV t u):=by intro a4 s G H _ _ Q D r h;obtain⟨v,_,aO,h⟩:=h;subst aO;cases r with|cons r iQ=>rw[ax];refine assignInOrder_cons (bW (O a4 s G H _ _ _ D r h) λ_ s1 ⟨yL,ai,aP,bw⟩=>?_);exact a5 a4 s1 yL ai _ _ Q aP iQ bw
inductive JR (K:bb) (n:Nat) (t:uG) (v:V) (G:L2.St) (H:ag) (Q:L2.St->ag->Prop):Prop
 |mk a xs:v=.ref a->dt K H a xs->xs.length=n->t xs G H Q->JR K n t v G H Q
theorem QW{t:uG}{n:Nat}(a7:X.calm=a9)(h:Bb X b5 t)(aH:(sL b5 X.env).length=n:=by rfl)(fA:(sL b5 X.env).findIdx? (·.1)=aa:=by rfl):p4 X (.Tuple b5 k pos) (JR X.K n t):=by intro a4 s G H v u Q D r hw;obtain⟨a,xs,aO,aQ,ar,hw⟩:=hw;subst aO;cases r;obtain⟨_,cB,b9,_⟩:=D.tuple aQ;refine assign_Tuple_tuple (D.ok.hd a7) b9 (by simp[aH,<-ar,cB.length]) fA λh' ah=>?_;have aP:Inv X a4 G H {s with heap:=h'}:=D.kept (t':=s.toks) λb o e=>ah b o (h3 (dI e)) e;exact h a4 _ G H xs _ Q aP (by simpa using cB) hw
def a2C(to p5:bZ)(t:JO):h7:=λv G H Q=>to G H λo ai=>p5 G ai λi au=>t o i v au λbc=>Q G bc
theorem E'{o i:bO}{to p5:bZ}{t:JO}(aU:bS X o to)(hi:bS X i p5)(ax:QU X t)(bf:∀v,yg (.Subscript o i pos) X.env v=(do
   let fP <-rB [v] (eval o X.env)
   let cb <-rB [v,fP] (eval i X.env)
   ur pos
   rB [v,fP,cb] (setItem fP cb v)
   release [v,fP,cb] []):=by intro _;rfl):p4 X (.Subscript o i pos) (a2C to p5 t):=by
 intro a4 s G H v u Q D r h;rw[bf];refine bB (rC (bW (aU a4 s G H _ D h) λfP s1 ⟨x,ai,aP,cx,bw⟩=>?_));refine bB (rC (bW (hi a4 s1 G ai _ aP bw) λcb s2 ⟨y,au,cM,dT,cy⟩=>?_));refine bB (rE (bB (rC (bW (ax a4 s2 G au x y v fP cb u _ cM cx dT r cy) λ_ _ ⟨bc,dJ,h9⟩=>?_))));exact wpAny_release ⟨G,bc,dJ,h9⟩
def p6(b_:bZ)(g:h7):ez:=λaf G H=>b_ G H λx ai=>g x G ai af.c8
theorem F0{g:h7}(aF:bS X e b_)(aI:p4 X tg g)(ax:swapsWithSole [tg] e pos.line X.env=pure aK:=by rfl)(hw:swappedStores [tg] e X.env=pure aa:=by rfl)(O:(sL [tg] X.env).map (·.2)=[yg tg X.env]:=by rfl):jr X (.Assign [tg] e pos) (p6 b_ g):=by intro a4 s G H _ D h;refine wpAny_Assign_stores (bW (aF a4 s G H _ D h) λv s1 ⟨x,ai,aP,cx,bw⟩=>?_) ax hw;rw[O];exact bW (aI a4 s1 G ai x v _ aP cx bw) λ_ _ q=>q
theorem a2D{ja:Pos}(dF:X.N.Nodup)(hi:X.N[i]? =B x)(ah:Loc X.env.scope x)(aF:bS X e b_)(ax:sN e (B (.Name x ja)) pos.line X.env=pure aK:=by rfl)(hf:X.fn x=a9∨X.env.scope.names.lookup x=B .local:=by trivial):
  jr X (.Assign [.Name x ja] e pos) (p6 b_ (mJ i)):=by
 intro a4 s G H _ D h;refine akg (bW (aF a4 s G H _ D h) λv _ ⟨y,ai,aP,cx,bw⟩=>?_) ax;exact yH aP dF hi ah cx (λ_ cM=>⟨_,ai,cM,bw⟩) hf
theorem cz{ja:Pos}(dF:X.N.Nodup)(aF:bS X e b_)(hi:X.N[i]? =B x:=by rfl)(ah:Loc X.env.scope x:=by trivial)(ax:sN e (B (.Name x ja)) pos.line X.env=pure aK:=by rfl)(hf:X.fn x=a9∨X.env.scope.names.lookup x=B .local:=by trivial):jr X (.Assign [.Name x ja] e pos) (p6 b_ (mJ i)):=a2D dF hi ah aF ax hf
def a2E(i:Nat)(b_:bZ)(p5:JP):ez:=λaf G H=>dc i G H λx _=>b_ G H λy ai=>p5 x y ai λz au=>af.c8 (G.set i (B z)) au
theorem wq{op:J5}{p5:JP}{ja:Pos}(dF:X.N.Nodup)(hi:X.N[i]? =B x)(ah:Loc X.env.scope x)(aF:bS X e b_)(aU:a2A X op p5)(hf:X.fn x=a9∨X.env.scope.names.lookup x=B .local:=by trivial):
  jr X (.AugAssign (.Name x ja) op e pos) (a2E i b_ p5):=by
 intro a4 s G H af D h;obtain⟨v,aO,h⟩:=nf h;obtain⟨m,aH,ar⟩:=D.loc;have a2F:yG X.env.scope x:=by obtain k|k:=ah;exact .inl k;exact .inr (.inl k)
 obtain⟨u,r,l⟩:=ar i x v hi aO a2F;refine wpAny_AugAssign_Name ?_;have go:b7 (bp X.prog X.w) X.A (eval e X.env) (λw j9=>b7 (bp X.prog X.w) X.A (Jc op u w) (λr p7=>b7 (bp X.prog X.w) X.A (a1H X.env x r) (λ_=>nc X a4 af .next) X.bL p7) X.bL j9) X.bL s:=by refine bW (aF a4 s G H _ D h) λw s1 ⟨y,ai,aP,cx,bw⟩=>?_;refine bW (aU a4 s1 G ai v y u w _ aP r cx bw) λz _ ⟨_,au,cM,dT,cy⟩=>?_;exact yH cM dF hi ah dT (λ_ dJ=>⟨_,au,dJ,cy⟩) hf
 obtain⟨aA,hm⟩|⟨aA,c,a7,nW⟩:=l
 .exact ako D.ok.kind aA aH hm go
 obtain aA|aA:=aA
 .exact akn D.ok.kind aA a7 nW go
 obtain k|k:=ah
 .have:X.env.scope.names.lookup x=B .free:=aA;rw[k]at this;cases this
 have:X.env.scope.names.lookup x=B .free:=aA;rw[k]at this;cases this
def QX(c:TT)(cf:ez):ez:=λaf G H=>∃W:Nat->St->ag->Prop,(∃m,W m G H)/\∀m G H,W m G H->c G H λb ai=>if b=a9 then∃N:St->ag->Prop,(∀aN H',N aN H'->∃m',m'<m/\W m' aN H')/\cf {af with c8:=N,dX:=N,gK:=af.c8} G ai else af.c8 G ai
theorem wt{body:sl bD}{kS:TT}{cf:ez}(aq:a1k (bp X.prog X.w) X.A X.env X.bL)(a7:nd X c kS)(a0:ix X body cf):jr X (.While c body [] pos) (QX kS cf):=by
 intro a4 s G H _ D h;obtain⟨W,⟨ia,iy⟩,turn⟩:=h;refine wpAny_While (codeAny_whileLoop (λn a_=>∃aN H',Inv X a4 aN H' a_/\W n aN H') ?_ ia ⟨G,H,D,iy⟩);rintro n s1 ⟨yL,ai,aP,lV⟩;refine rD aq (bW (a7 a4 s1 yL ai _ aP (turn n yL ai lV)) λb s2 ⟨au,cM,cy⟩=>?_);cases b with
 |true=>obtain⟨N,dF,cy⟩:=cy;rw[aZ Y];refine rD aq (bW (a0 a4 s2 yL au _ cM cy) λf _ h9=>?_);cases f with|next=>obtain⟨lW,bc,dJ,gg⟩:=h9;obtain⟨m',hm,nh⟩:=dF lW bc gg;exact⟨m',hm,lW,bc,dJ,nh⟩|cont=>obtain⟨lW,bc,dJ,gg⟩:=h9;obtain⟨m',hm,nh⟩:=dF lW bc gg;exact⟨m',hm,lW,bc,dJ,nh⟩|brk=>exact h9|ret v=>exact h9
 |false=>rw[aL i6];exact wb ⟨yL,au,cM,cy⟩
structure iz where
 go:Nat->ag->Prop
 j':Nat->ag->V->ag->Prop
 stop:Nat->ag->Prop
def kT(X:bA)(a4:sl (I×bH))(H:ag)(b:I):Prop:=
 H b=aa/\b≠X.env.locals/\b∉X.fs/\(b∈X.ex∨X.gz⁻¹<=b)/\(∀x c,X.env.cells.lookup x=B c->c≠b)/\∀p∈X.c_++a4,p.1≠b
theorem Inv.qG(D:Inv X a4 G H s)(a0:s⁻¹<=b)(aH:H' b=aa):kT X a4 H' b:=by
 refine⟨aH,y8 (la D.lt a0),D.a2k a0,.inr (dE D.lp a0),λx c e z=>?_,λp aq z=>?_⟩
 .obtain⟨v,q⟩:=D.cell x c e;exact absurd (la q.lt (by rw[z];exact a0)) (ry _)
 exact absurd (la (dI (D.pin p aq).1) (by rw[z];exact a0)) (ry _)
structure rQ (P:bP) (w:bG) (K:bb) (tg:bO) (d5:iz) (bM:sl I) (b0:I) (tn:Nat->bq->Prop):Prop where
 mem:b0∈bM
 obj:∀i h,tn i h->∀b∈bM,∃o,h.get? b=B o/\∀v,o.data≠ .cell v
 keep:∀i h h',tn i h->(∀b∈bM,∀o,h.get? b=B o->h'.get? b=B o)->tn i h'
 item:∀(X:bA),X.prog=P->X.w=w->X.K=K->X.calm=a9->∀(i:Nat)(a4:sl (I×bH))(s:ay)(G:St)(H:ag)(E:ae->ay->Prop),Inv X a4 G H s->(∀b∈bM,kT X a4 H b)->tn i s.heap->d5.go i H->
  b7 (bp P w) X.A (pT (.ref b0)) (λr s1=>∃u,r=B u/\
   b7 (bp P w) X.A (Jd tg (.ref b0) u) (λ_ s2=>∃x H',Inv X a4 G H' s2/\RelV x u/\d5.j' i H x H'/\tn (i+1) s2.heap/\∀b∈bM,H' b=aa) E s1) E s
 done:∀(X:bA),X.prog=P->X.w=w->X.K=K->X.calm=a9->∀(i:Nat)(a4:sl (I×bH))(s:ay)(G:St)(H:ag)(E:ae->ay->Prop),Inv X a4 G H s->(∀b∈bM,kT X a4 H b)->tn i s.heap->d5.stop i H->
  b7 (bp P w) X.A (pT (.ref b0)) (λr s1=>r=aa/\Inv X a4 G H s1) E s
 self:∀(A:da)(i:Nat)(s:ay)(Q:ae->ay->Prop)(E:ae->ay->Prop),tn i s.heap->Q (.ref b0) s->b7 (bp P w) A (Ey (.ref b0)) Q E s
abbrev TI:=St->ag->(iz->ag->Prop)->Prop
def F1(X:bA)(a4:sl (I×bH))(G:St)(tg:bO)(R:iz->ag->Prop)(wu:ae)(s2:ay):Prop:=
 ∃(b0:I)(bM:sl I)(tn:Nat->bq->Prop)(d5:iz)(H':ag),wu=.ref b0/\Inv X a4 G H' s2/\rQ X.prog X.w X.K tg d5 bM b0 tn/\tn 0 s2.heap/\(∀b∈bM,kT X a4 H' b)/\R d5 H'
def qH(X:bA)(tg fq:bO)(gL:TI):Prop:=
 ∀(a4:sl (I×bH))(s:ay)(G:St)(H:ag)(R:iz->ag->Prop),Inv X a4 G H s->gL G H R->b7 (bp X.prog X.w) X.A (eval fq X.env) (λv s1=>b7 (bp X.prog X.w) X.A (Ey v) (F1 X a4 G tg R) X.bL s1) X.bL s
theorem yM{M:ug}{b0:I}{o:bH}{n:String}{vs:Array ae}{Q:Unit->ay->Prop}(aU:s.heap.get? b0=B o)(a7:o.cls=.type n)(hd:o.data=.fields vs)(aH:["enumerate","zip","dict_itemiterator","dict_reverseitemiterator","odict_iterator","itertools.zip_longest","itertools.pairwise"].contains n=aK)(iO:Q () s):b7 M A (Jd tg (.ref b0) u) Q E s:=by
  unfold Jd;cases tg<;>first
    |exact eJ iO
    |(cases u<;>first|exact eJ iO|(refine bB (wpAny_load aU ?_);rw[a7,hd];show b7 M A (if(["enumerate","zip","dict_itemiterator","dict_reverseitemiterator","odict_iterator","itertools.zip_longest","itertools.pairwise"].contains n&&vs[0]? ==B (iN _))=a9 then _ else _) Q E s;rw[aL (by intro h;rw[aH,IH]at h;cases h)];exact eJ iO))
def uH(K:bb)(a:I):iz:=
 ⟨λi H=>∃xs x,bo K H a xs/\xs[i]? =B x,λi H x H'=>H'=H/\∀xs,bo K H a xs->xs[i]? =B x,λi H=>∃xs,bo K H a xs/\xs.length<=i⟩
def uI(K:bb)(a:I):iz:=
 ⟨λi H=>∃xs x,dt K H a xs/\xs[i]? =B x,λi H x H'=>H'=H/\∀xs,dt K H a xs->xs[i]? =B x,λi H=>∃xs,dt K H a xs/\xs.length<=i⟩
def sV(lo:Int)(n:Nat):iz:=⟨λi _=>i<n,λi H x H'=>H'=H/\x=.int (lo+i),λi _=>n<=i⟩
theorem a2G(a b0:I):rQ P w K tg (uH K a) [b0] b0 (λi h=>h.IsListIter b0 a i) where
 mem:=by simp
 obj:=λi h st b a0=>by
  have e:b=b0:=by simpa using a0
  subst e;obtain⟨o,e,c,d⟩:=st;exact⟨o,e,λv z=>by rw[d]at z;cases z⟩
 keep:=λi h h' st k=>st.at λo e=>k b0 (by simp) o e
 item:=by intro X bI hw fB a7 i a4 s G H E D hf st aI;subst bI hw fB;obtain⟨xs,x,aQ,ah⟩:=aI;obtain⟨b6,cB,p,aR⟩:=D.list aQ;obtain⟨u,bx,hk⟩:=cB.get ah;obtain⟨f_,dU,f2,dx,fh,fi⟩:=hf b0 (by simp);refine wpAny_pyNext_list_item st p.isList (x:=u) (by simpa using bx) λh' lX cI=>?_;have aP:Inv X a4 G H {s with heap:=h'}:=D.turned (t':=s.toks) (λb o a0 e=>(cI.2 b a0).trans e) f_ dU dx fh fi;obtain⟨o,e,c,d⟩:=id lX;exact⟨u,Y,yM (s:={s with heap:=h'}) e c d dQ ⟨x,H,aP,hk,⟨Y,λ_ bl=>by rw[D.yI bl aQ];exact ah⟩,lX,λb a0=>(hf b a0).1⟩⟩
 done:=by intro X bI hw fB a7 i a4 s G H E D hf st aI;subst bI hw fB;obtain⟨xs,aQ,ah⟩:=aI;obtain⟨b6,cB,p,aR⟩:=D.list aQ;obtain⟨f_,dU,f2,dx,fh,fi⟩:=hf b0 (by simp);have ar:=cB.length;exact wpAny_pyNext_list_end (D.ok.hd a7) st p.isList (by simp;lia) λh' hl=>⟨Y,D.turned (t':=s.toks) (λb o a0 e=>hl b o a0 e) f_ dU dx fh fi⟩
 self:=λ_ _ _ _ _ st h=>wpAny_pyIter_listiter st h
theorem a2H(a b0:I):rQ P w K tg (uI K a) [b0] b0 (λi h=>h.IsTupleIter b0 a i) where
 mem:=by simp
 obj:=λi h st b a0=>by
  have e:b=b0:=by simpa using a0
  subst e;obtain⟨o,e,c,d⟩:=st;exact⟨o,e,λv z=>by rw[d]at z;cases z⟩
 keep:=λi h h' st k=>st.at λo e=>k b0 (by simp) o e
 item:=by intro X bI hw fB a7 i a4 s G H E D hf st aI;subst bI hw fB;obtain⟨xs,x,aQ,ah⟩:=aI;obtain⟨b6,cB,p,aR⟩:=D.tuple aQ;obtain⟨u,bx,hk⟩:=cB.get ah;obtain⟨f_,dU,f2,dx,fh,fi⟩:=hf b0 (by simp);refine akw st (show s.heap.IsTuple a b6.toArray from p) (x:=u) (by simpa using bx) λh' lX cI=>?_;have aP:Inv X a4 G H {s with heap:=h'}:=D.turned (t':=s.toks) (λb o a0 e=>(cI.2 b a0).trans e) f_ dU dx fh fi;obtain⟨o,e,c,d⟩:=id lX;exact⟨u,Y,yM (s:={s with heap:=h'}) e c d dQ ⟨x,H,aP,hk,⟨Y,λ_ bl=>by rw[D.a2y bl aQ];exact ah⟩,lX,λb a0=>(hf b a0).1⟩⟩
 done:=by intro X bI hw fB a7 i a4 s G H E D hf st aI;subst bI hw fB;obtain⟨xs,aQ,ah⟩:=aI;obtain⟨b6,cB,p,aR⟩:=D.tuple aQ;obtain⟨f_,dU,f2,dx,fh,fi⟩:=hf b0 (by simp);have ar:=cB.length;exact wpAny_pyNext_tuple_end (D.ok.hd a7) st (show s.heap.IsTuple a b6.toArray from p) (by simp;lia) λh' hl=>⟨Y,D.turned (t':=s.toks) (λb o a0 e=>hl b o a0 e) f_ dU dx fh fi⟩
 self:=λ_ _ _ _ _ st h=>aku st h
theorem a2I(b0:I)(lo:Int)(n:Nat):rQ P w K tg (sV lo n) [b0] b0 (λi h=>P' h b0 (lo+(i:Nat)*1) ((n:Int)-(i:Nat)) 1) where
 mem:=by simp
 obj:=λi h st b a0=>by
  have e:b=b0:=by simpa using a0
  subst e;exact⟨_,st,λv z=>by have mI:Data.fields _=Data.cell v:=z;cases mI⟩
 keep:=λi h h' st k=>k b0 (by simp) _ st
 item:=by intro X bI hw fB a7 i a4 s G H E D hf st aI;subst bI hw fB;obtain⟨f_,dU,f2,dx,fh,fi⟩:=hf b0 (by simp);have W:=ajV (prog:=X.prog) (w:=X.w) (D.ok.hd a7) b0 lo 1 n;refine W.item i s _ _ aI st λv h' tk bk lX c9=>?_;obtain⟨t,rfl⟩:=bk;have aP:Inv X a4 G H {s with heap:=h',toks:=tk}:=D.turned (λb o a0 e=>c9 b o (by simpa using a0) e) f_ dU dx fh fi;refine⟨_,Y,yM (s:={s with heap:=h',toks:=tk}) (n:="range_iterator") lX Y Y dQ ⟨.int (lo+i),H,aP,⟨t,?_⟩,⟨Y,Y⟩,lX,λb a0=>(hf b a0).1⟩⟩;rw[Int.mul_one]
 done:=by intro X bI hw fB a7 i a4 s G H E D hf st aI;subst bI hw fB;obtain⟨f_,dU,f2,dx,fh,fi⟩:=hf b0 (by simp);exact akv (D.ok.hd a7) st (by have:n<=i:=aI;lia) λh' hl=>⟨Y,D.turned (t':=s.toks) (λb o a0 e=>hl b o a0 e) f_ dU dx fh fi⟩
 self:=λ_ _ _ _ _ st h=>akt st h
variable{p:Pos}
inductive QY (K:bb) (R:iz->ag->Prop) (x:V) (ai:ag):Prop
 |mk a:x=.ref a->(∃xs,bo K ai a xs)->R (uH K a) ai->QY K R x ai
def QZ(K:bb)(dY:bZ):TI:=λG H R=>dY G H (QY K R)
inductive Q_ (K:bb) (R:iz->ag->Prop) (x:V) (ai:ag):Prop
 |mk a:x=.ref a->(∃xs,dt K ai a xs)->R (uI K a) ai->Q_ K R x ai
def a2J(K:bb)(dY:bZ):TI:=λG H R=>dY G H (Q_ K R)
theorem nZ{l:bO}{dY:bZ}(ar:bS X l dY):qH X tg l (QZ X.K dY):=by
 intro a4 s G H R D h;refine bW (ar a4 s G H _ D h) λv s1 ⟨x,ai,aP,cx,bw⟩=>?_;obtain⟨a,e,⟨_,aQ⟩,q⟩:=bw;subst e;cases cx;obtain⟨_,_,p,_⟩:=aP.list aQ;refine a1S p.isList ?_;refine⟨s1⁻¹,[s1⁻¹],_,_,ai,Y,aP.kept (t':=s1.toks) λb o e=>ef _ e,a2G a _,⟨_,hW _ Y,Y,Y⟩,λb a0=>?_,q⟩;have e:b=s1⁻¹:=by simpa using a0
 subst e;exact aP.qG (cP _) (aP.bQ.fresh (cP _))
theorem JS{l:bO}{dY:bZ}(ar:bS X l dY):qH X tg l (a2J X.K dY):=by
 intro a4 s G H R D h;refine bW (ar a4 s G H _ D h) λv s1 ⟨x,ai,aP,cx,bw⟩=>?_;obtain⟨a,e,⟨_,aQ⟩,q⟩:=bw;subst e;cases cx;obtain⟨b6,_,p,_⟩:=aP.tuple aQ;refine Jk (show s1.heap.IsTuple a b6.toArray from p) ?_;refine⟨s1⁻¹,[s1⁻¹],_,_,ai,Y,aP.kept (t':=s1.toks) λb o e=>ef _ e,a2H a _,⟨_,hW _ Y,Y,Y⟩,λb a0=>?_,q⟩;have e:b=s1⁻¹:=by simpa using a0
 subst e;exact aP.qG (cP _) (aP.bQ.fresh (cP _))
theorem a2K{R:iz->ag->Prop}{lo hi:Int}{t u v:jL}{tk:Nat}(D:Inv X a4 G H s)(O: -(2^62)<=lo)(a5:lo<2^62)(aG: -(2^62)<=hi)(cJ:hi<2^62)(q:R (sV lo (hi-lo).toNat) H):b7 (bp X.prog X.w) X.A (Ey (.ref s⁻¹)) (F1 X a4 G tg R) E {s with heap:=s.heap.push {cls:=.type "range",data:=.fields #[.int lo t,.int hi u,.int 1 v]},toks:=tk}:=by
 refine aks (ajB ..) (small_one O a5 aG cJ) ?_;have aP:Inv X a4 G H {s with heap:=s.heap.push {cls:=.type "range",data:=.fields #[.int lo t,.int hi u,.int 1 v]},toks:=tk}:=D.kept λb o e=>ef _ e;refine⟨(s.heap.push {cls:=.type "range",data:=.fields #[.int lo t,.int hi u,.int 1 v]}).objs.size,[(s.heap.push {cls:=.type "range",data:=.fields #[.int lo t,.int hi u,.int 1 v]}).objs.size],_,_,H,Y,aP.kept (t':=tk) λb o e=>ef _ e,a2I _ lo (hi-lo).toNat,?_,λb a0=>?_,q⟩
 .have aO:lo+((0:Nat):Int)*1=lo:=by simp
  have aT:(((hi-lo).toNat:Nat):Int)-((0:Nat):Int)=a19 lo hi 1:=by rw[rangeSize_one];split<;>lia
  show P' _ _ (lo+((0:Nat):Int)*1) ((((hi-lo).toNat:Nat):Int)-((0:Nat):Int)) 1;rw[aO,aT];exact hW _ Y
 have e:b=(s.heap.push {cls:=.type "range",data:=.fields #[.int lo t,.int hi u,.int 1 v]}).objs.size:=by simpa using a0
 subst e;exact aP.qG (cP _) (aP.bQ.fresh (cP _))
inductive Q' (R:iz->ag->Prop) (vs:sl V) (ai:ag):Prop
 |mk:∀j:Int,vs=[.int j]-> -(2^62)<=j->j<2^62->R (sV 0 j.toNat) ai->Q' R vs ai
def a2L(c1:gA):TI:=λG H R=>c1 G H (Q' R)
theorem Bc{a:bO}{c1:gA}(aI:hJ X "range")(hm:X.a6 "range" =aa)(bf:hI X [a] c1)(ax:fI [a] X.env=[(aK,eval a X.env)]:=by rfl):qH X tg (.Call (.Name "range" p) [a] [] pos) (a2L c1):=by intro a4 s G H R D h;refine I_ (wm D aI hm boot_range (Ei (bW (bf pos a4 s G H _ D h) λ_ _ ⟨_,_,aP,cx,bw⟩=>?_) ax Y));obtain⟨j,e,bw,cy,q⟩:=bw;subst e;cases cx with|cons r iQ=>cases iQ;obtain⟨t,rfl⟩:=r;exact call_range_1 (a2K aP (by lia) (by lia) bw cy (by simpa using q))
def R0(gL:TI)(g:h7)(cf:ez):ez:=λaf G H=>gL G H λd5 ai=>∃W:Nat->Nat->St->ag->Prop,(∃m,W 0 m G ai)/\∀i m G H,W i m G H->(d5.stop i H/\af.c8 G H)∨(d5.go i H/\∃N:St->ag->Prop,(∀aN H',N aN H'->∃m',m'<m/\W (i+1) m' aN H')/\∀x H',d5.j' i H x H'->g x G H' λcQ au=>cf {af with c8:=N,dX:=N,gK:=af.c8} cQ au)
def wx(bM:sl I)(h:bq):sl (I×bH):=bM.filterMap λb=>(h.get? b).map λo=>(b,o)
theorem yN{bM:sl I}{o:bH}(a0:b∈bM)(e:h.get? b=B o):(b,o)∈wx bM h:=v_.mpr ⟨b,a0,by rw[e];rfl⟩
theorem a2M{bM:sl I}{p:I×bH}(aq:p∈wx bM h):p.1∈bM/\h.get? p.1=B p.2:=by obtain⟨b,a0,e⟩:=v_.mp aq;cases q:h.get? b with|none=>rw[q]at e;cases e|some o=>rw[q]at e;have d8:(b,o)=p:=h4 e;subst d8;exact⟨a0,q⟩
theorem Inv.pinned{bM:sl I}(D:Inv X a4 G H s)(hf:∀b∈bM,kT X a4 H b)(aU:∀b∈bM,∃o,s.heap.get? b=B o/\∀v,o.data≠ .cell v):Inv X (a4++wx bM s.heap) G H s:=
 D.QF λp aq=>(kN.mp aq).elim (λz=>D.pin p (oO _ z)) λz=>by obtain⟨a0,e⟩:=a2M z;obtain⟨f_,dU,f2,_⟩:=hf p.1 a0;obtain⟨o,d8,d⟩:=aU p.1 a0;rw[e]at d8;cases d8;exact⟨e,f_,dU,f2,d⟩
theorem Inv.uJ{pl:sl (I×bH)}(D:Inv X (a4++pl) G H s):Inv X a4 G H s:=D.QF λp aq=>D.pin p (oO _ (sG _ aq))
theorem n_{fq:bO}{body:sl bD}{gL:TI}{g:h7}{cf:ez}(aq:a1k (bp X.prog X.w) X.A X.env X.bL)(a7:X.calm=a9)(hi:qH X tg fq gL)(aI:p4 X tg g)(a0:ix X body cf)(ax:∀x,AU fq X.env x=pure x:=by intro _;rfl):jr X (.For tg fq body [] pos) (R0 gL g cf):=by
 intro a4 s G H _ D h;refine wpAny_For (bW (hi a4 s G H _ D h) λv _ O=>bW O λ_ _ a5=>?_) ax;obtain⟨_,bM,tn,_,au,e,cM,T,n',f2,W,⟨ia,iy⟩,turn⟩:=a5;subst e;have ni:∀{H':ag},(∀b∈bM,H' b=aa)->∀b∈bM,kT X a4 H' b:=λaH b a0=>⟨aH b a0,(f2 b a0).2⟩;refine ak3 (λn a_=>∃i aN H',Inv X a4 aN H' a_/\tn i a_.heap/\(∀b∈bM,H' b=aa)/\W i n aN H') ?_ ia ⟨0,G,au,cM,n',λb a0=>(f2 b a0).1,iy⟩;rintro n bE ⟨i,lW,bc,dJ,sW,Bd,nh⟩;obtain⟨stop,JT⟩|⟨go,N,dF,step⟩:=turn i n lW bc nh
 .refine rD aq (bW (T.done X Y Y Y a7 i a4 bE lW bc X.bL dJ (ni Bd) sW stop) λr s4 ⟨ak,f'⟩=>?_);subst ak;exact wb ⟨lW,bc,f',JT⟩
 refine rD aq (bW (T.item X Y Y Y a7 i a4 bE lW bc X.bL dJ (ni Bd) sW go) λr s4 ⟨u,ak,cJ⟩=>?_);subst ak;refine rD aq (bW cJ λ_ g0 ⟨x,c',jt,Be,JU,p8,wy⟩=>?_);have JV:=jt.pinned (ni wy) (T.obj _ _ p8);refine rD aq (bW (aI _ g0 lW c' x u _ JV Be (step x c' JU)) λ_ eX ⟨JW,fQ,ju,JX⟩=>?_);refine rD aq (bW (a0 _ eX JW fQ _ ju JX) λf k1 lY=>?_);have Es:∀{jv:St}{fv:ag},Inv X (a4++wx bM g0.heap) jv fv k1->N jv fv->∃m,m<n/\∃i aN H',Inv X a4 aN H' k1/\tn i k1.heap/\(∀b∈bM,H' b=aa)/\W i m aN H':=fun{jv fv} fR nj=>by obtain⟨m',hm,F2⟩:=dF jv fv nj;refine⟨m',hm,i+1,jv,fv,fR.uJ,T.keep _ _ _ p8 λb a0 o e=>(fR.pin (b,o) (oO _ (oO _ (yN a0 e)))).1,λb a0=>?_,F2⟩;obtain⟨o,e,d⟩:=T.obj _ _ p8 b a0;exact(fR.pin (b,o) (oO _ (oO _ (yN a0 e)))).2.1
 cases f with|next=>obtain⟨jv,fv,fR,nj⟩:=lY;exact Es fR nj|cont=>obtain⟨jv,fv,fR,nj⟩:=lY;exact Es fR nj|brk=>obtain⟨jv,fv,fR,lY⟩:=lY;exact⟨jv,fv,fR.uJ,lY⟩|ret v=>obtain⟨wz,jv,fv,fR,wA,lY⟩:=lY;exact⟨wz,jv,fv,fR.uJ,wA,lY⟩
theorem yO{g:h7}{cf:ez}(Pv:Nat->St->ag->Prop)(b8:Pv 0 G H)(ar:∀i G H,i<=xs.length->Pv i G H->bo K H a xs)(ax:∀i x G H,xs[i]? =B x->Pv i G H->g x G H λcQ au=>cf {af with c8:=Pv (i+1),dX:=Pv (i+1),gK:=af.c8} cQ au)(hd:∀G H,Pv xs.length G H->af.c8 G H):∃W:Nat->Nat->St->ag->Prop,(∃m,W 0 m G H)/\∀i m G H,W i m G H->((uH K a).stop i H/\af.c8 G H)∨((uH K a).go i H/\∃N:St->ag->Prop,(∀aN H',N aN H'->∃m',m'<m/\W (i+1) m' aN H')/\∀x H',(uH K a).j' i H x H'->g x G H' λcQ au=>cf {af with c8:=N,dX:=N,gK:=af.c8} cQ au):=by
 refine⟨λi m G H=>m=xs.length-i/\i<=xs.length/\Pv i G H,⟨xs.length,by simp,es _,b8⟩,?_⟩;rintro i m G H ⟨rfl,hi,p⟩;have q:=ar i G H hi p;by_cases c6:i<xs.length
 .refine .inr ⟨⟨xs,xs[i],q,by simp[c6]⟩,Pv (i+1),λaN H' fS=>⟨xs.length-(i+1),by lia,Y,c6,fS⟩,λx H' y=>?_⟩;obtain⟨e,y⟩:=y;subst e;exact ax i x G _ (y xs q) p
 have e:i=xs.length:=by lia
 subst e;exact .inl ⟨⟨xs,q,cP _⟩,hd G H p⟩
theorem R1{g:h7}{cf:ez}(Pv:Nat->St->ag->Prop)(b8:Pv 0 G H)(ar:∀i G H,i<=xs.length->Pv i G H->dt K H a xs)(ax:∀i x G H,xs[i]? =B x->Pv i G H->g x G H λcQ au=>cf {af with c8:=Pv (i+1),dX:=Pv (i+1),gK:=af.c8} cQ au)(hd:∀G H,Pv xs.length G H->af.c8 G H):∃W:Nat->Nat->St->ag->Prop,(∃m,W 0 m G H)/\∀i m G H,W i m G H->((uI K a).stop i H/\af.c8 G H)∨((uI K a).go i H/\∃N:St->ag->Prop,(∀aN H',N aN H'->∃m',m'<m/\W (i+1) m' aN H')/\∀x H',(uI K a).j' i H x H'->g x G H' λcQ au=>cf {af with c8:=N,dX:=N,gK:=af.c8} cQ au):=by
 refine⟨λi m G H=>m=xs.length-i/\i<=xs.length/\Pv i G H,⟨xs.length,by simp,es _,b8⟩,?_⟩;rintro i m G H ⟨rfl,hi,p⟩;have q:=ar i G H hi p;by_cases c6:i<xs.length
 .refine .inr ⟨⟨xs,xs[i],q,by simp[c6]⟩,Pv (i+1),λaN H' fS=>⟨xs.length-(i+1),by lia,Y,c6,fS⟩,λx H' y=>?_⟩;obtain⟨e,y⟩:=y;subst e;exact ax i x G _ (y xs q) p
 have e:i=xs.length:=by lia
 subst e;exact .inl ⟨⟨xs,q,cP _⟩,hd G H p⟩
theorem R2{lo:Int}{n:Nat}{g:h7}{cf:ez}(Pv:Nat->St->ag->Prop)(b8:Pv 0 G H)(ax:∀i G H,i<n->Pv i G H->g (.int (lo+i)) G H λcQ au=>cf {af with c8:=Pv (i+1),dX:=Pv (i+1),gK:=af.c8} cQ au)(hd:∀G H,Pv n G H->af.c8 G H):∃W:Nat->Nat->St->ag->Prop,(∃m,W 0 m G H)/\∀i m G H,W i m G H->((sV lo n).stop i H/\af.c8 G H)∨((sV lo n).go i H/\∃N:St->ag->Prop,(∀aN H',N aN H'->∃m',m'<m/\W (i+1) m' aN H')/\∀x H',(sV lo n).j' i H x H'->g x G H' λcQ au=>cf {af with c8:=N,dX:=N,gK:=af.c8} cQ au):=by
 refine⟨λi m G H=>m=n-i/\i<=n/\Pv i G H,⟨n,by simp,es _,b8⟩,?_⟩;rintro i m G H ⟨rfl,hi,p⟩;by_cases c6:i<n
 .refine .inr ⟨c6,Pv (i+1),λaN H' fS=>⟨n-(i+1),by lia,Y,c6,fS⟩,λx H' y=>?_⟩;obtain⟨e,y⟩:=y;subst e y;exact ax i G _ c6 p
 have e:i=n:=by lia
 subst e;exact .inl ⟨cP _,hd G H p⟩
theorem Bf{c:TT}{cf:ez}(Pv:St->ag->Prop)(Bg:St->ag->Nat)(b8:Pv G H)(ax:∀G H,Pv G H->c G H λb ai=>if b=a9 then cf {af with c8:=λaN H'=>Pv aN H'/\Bg aN H'<Bg G H,dX:=λaN H'=>Pv aN H'/\Bg aN H'<Bg G H,gK:=af.c8} G ai else af.c8 G ai)(mono:∀G H Q e9,(∀b ai,Q b ai->e9 b ai)->c G H Q->c G H e9):QX c cf af G H:=by refine⟨λm G H=>m=Bg G H/\Pv G H,⟨_,Y,b8⟩,?_⟩;rintro m G H ⟨rfl,p⟩;refine mono G H _ _ (λb ai q=>?_) (ax G H p);cases b with|true=>exact⟨_,λaN H' ⟨fS,l⟩=>⟨_,l,rfl,fS⟩,q⟩|false=>exact q
abbrev p9:=V->V->ag->c2->Prop
def hB(X:bA)(f:ae->ae->hX ae)(r:p9):Prop:=
 ∀(a4:sl (I×bH))(s:ay)(G:St)(H:ag)(x y:V)(v u:ae)(Q:c2),Inv X a4 G H s->RelV x v->RelV y u->r x y H Q->b7 (bp X.prog X.w) X.A (f v u) (h_ X a4 G Q) X.bL s
def JY(X:bA)(f:ae->hX ae)(r:V->ag->c2->Prop):Prop:=
 ∀(a4:sl (I×bH))(s:ay)(G:St)(H:ag)(x:V)(v:ae)(Q:c2),Inv X a4 G H s->RelV x v->r x H Q->b7 (bp X.prog X.w) X.A (f v) (h_ X a4 G Q) X.bL s
def q0(X:bA)(f:ae)(r:sl V->ag->c2->Prop):Prop:=
 ∀(a4:sl (I×bH))(s:ay)(G:St)(H:ag)(xs:sl V)(us:sl ae)(Q:c2),Inv X a4 G H s->cC xs us->r xs H Q->b7 (bp X.prog X.w) X.A (n4 f us) (h_ X a4 G Q) X.bL s
def k2(r:p9)(c1 cf:bZ):bZ:=λG H Q=>c1 G H λx ai=>cf G ai λy au=>r x y au Q
def a2N(r:V->ag->c2->Prop)(c1:bZ):bZ:=λG H Q=>c1 G H λx ai=>r x ai Q
inductive Bh (C:Int->Int->Prop) (g:Int->Int->V) (x:V) (y:V) (H:ag) (Q:c2):Prop
 |mk i j:x=.int i->y=.int j->C i j->Q (g i j) H->Bh C g x y H Q
inductive lZ (g:Int->Int->V) (x:V) (y:V) (H:ag) (Q:c2):Prop
 |mk i j:x=.int i->y=.int j->Q (g i j) H->lZ g x y H Q
def R3(g:Int->V):V->ag->c2->Prop:=λx H Q=>∃i,x=.int i/\Q (g i) H
variable{f:ae->ae->hX ae}
section
variable{a b:bO}{kS:bZ}
theorem JZ(bf:bS X a c1)(a0:bS X b cf){R:V->V->ag->Prop}(D:Inv X a4 G H s)(h:c1 G H λx ai=>cf G ai λy au=>R x y au)(hf:∀v u s2 x y au,Inv X a4 G au s2->RelV x v->RelV y u->R x y au->b7 (bp X.prog X.w) X.A (f v u) Q X.bL s2):b7 (bp X.prog X.w) X.A (eval a X.env) (λv dw=>b7 (bp X.prog X.w) X.A (eval b X.env) (λu j9=>b7 (bp X.prog X.w) X.A (f v u) Q X.bL j9) X.bL dw) X.bL s:=by refine bW (bf a4 s G H _ D h) λv s1 ⟨x,ai,aP,cx,bw⟩=>?_;refine bW (a0 a4 s1 G ai _ aP bw) λu s2 ⟨y,au,cM,dT,cy⟩=>?_;exact hf v u s2 x y au cM cx dT cy
theorem de{op:J5}{r:p9}(aU:hB X (sM op) r)(bf:bS X a c1)(a0:bS X b cf):bS X (.BinOp a op b pos) (k2 r c1 cf):=by intro a4 s G H Q D h;exact wpAny_BinOp (JZ bf a0 D h λv u s2 x y au cM ct cD q=>aU a4 s2 G au x y v u Q cM ct cD q)
theorem Bi{op:UnaryOp}{r:V->ag->c2->Prop}(aU:JY X (unaryOp op) r)(bf:bS X a c1):bS X (.UnaryOp op a pos) (a2N r c1):=by intro a4 s G H Q D h;exact UnaryOp_ (bW (bf a4 s G H _ D h) λv s1 ⟨x,ai,aP,cx,bw⟩=>aU a4 s1 G ai x v Q aP cx bw)
theorem J_{C:Int->Int->Prop}{g:Int->Int->Int}(qA:∀(i j:Int)(t u:jL)(s:ay)(Q:ae->ay->Prop)(E:ae->ay->Prop),C i j->Q (.int (g i j) s.toks) {s with toks:=s.toks+1}->b7 (bp X.prog X.w) X.A (f (.int i t) (.int j u)) Q E s):hB X f (Bh C λi j=>.int (g i j)):=by intro _ s G H x y v u Q D ct cD h;obtain⟨i,j,rfl,rfl,a7,q⟩:=h;obtain⟨t,rfl⟩:=ct;obtain⟨t',rfl⟩:=cD;exact qA i j t t' s _ _ a7 ⟨.int (g i j),H,D.tok _,⟨_,Y⟩,q⟩
theorem F3{g:Int->Int->Int}(qA:∀(i j:Int)(t u:jL)(s:ay)(Q:ae->ay->Prop)(E:ae->ay->Prop),Q (.int (g i j) s.toks) {s with toks:=s.toks+1}->b7 (bp X.prog X.w) X.A (f (.int i t) (.int j u)) Q E s):hB X f (lZ λi j=>.int (g i j)):=by intro _ s G H x y v u Q D ct cD h;obtain⟨i,j,rfl,rfl,q⟩:=h;obtain⟨t,rfl⟩:=ct;obtain⟨t',rfl⟩:=cD;exact qA i j t t' s _ _ ⟨.int (g i j),H,D.tok _,⟨_,Y⟩,q⟩
theorem F4{g:Int->Int->Bool}(qA:∀(i j:Int)(t u:jL)(s:ay)(Q:ae->ay->Prop)(E:ae->ay->Prop),Q (.bool (g i j)) s->b7 (bp X.prog X.w) X.A (f (.int i t) (.int j u)) Q E s):hB X f (lZ λi j=>.c3 (g i j)):=by intro _ s G H x y v u Q D ct cD h;obtain⟨i,j,rfl,rfl,q⟩:=h;obtain⟨t,rfl⟩:=ct;obtain⟨t',rfl⟩:=cD;exact qA i j t t' s _ _ ⟨.c3 (g i j),H,D,Y,q⟩
def a2O(i j:Int):Prop:=0<j/\j<1073741824
def J'(i j:Int):Prop:=(-(2^64)<i/\i<2^64)∨(-(2^64)<j/\j<2^64)
theorem J'.ok{i j:Int}(h:J' i j):IntMulOk i j:=by
 obtain⟨O,a5⟩|⟨O,a5⟩:=h
 .exact .of_left (ak7 O a5)
 exact .of_right (ak7 O a5)
theorem o3:hB X (sM .Add) (lZ λi j=>.int (i+j)):=F3 λ_ _ _ _ _ _ _ q=>add_int q
theorem o4:hB X (sM .Sub) (lZ λi j=>.int (i-j)):=F3 λ_ _ _ _ _ _ _ q=>sub_int q
theorem wB:hB X (sM .Mult) (Bh J' λi j=>.int (i*j)):=J_ λ_ _ _ _ _ _ _ a7 q=>mul_int q a7.ok
theorem F5:hB X (sM .FloorDiv) (Bh a2O λi j=>.int (i/j)):=J_ λi j _ _ _ _ _ a7 q=>by have O:(0:Int)<j:=a7.1;have a5:j<1073741824:=a7.2;exact floordiv_int (by lia) (by rw[Int.fdiv_eq_ediv_of_nonneg i (by lia)];exact q) (.inl (aji (by lia)))
theorem F6:hB X (sM .Mod) (Bh (λ_ j=>0<j) λi j=>.int (i%j)):=J_ λi j _ _ _ _ _ a7 q=>by have O:(0:Int)<j:=a7;exact mod_int' (by lia) (by rw[Int.fmod_eq_emod_of_nonneg i (by lia)];exact q)
theorem a2P:hB X (sM .BitAnd) (lZ λi j=>.int (a1b i j)):=F3 λ_ _ _ _ _ _ _ q=>and_int q
theorem F7:hB X (Jc .Add) (lZ λi j=>.int (i+j)):=F3 λ_ _ _ _ _ _ _ q=>ajd q
theorem a2Q{f:ae->hX ae}{g:Int->Int}(qA:∀(i:Int)(t:jL)(s:ay)(Q:ae->ay->Prop)(E:ae->ay->Prop),Q (.int (g i) s.toks) {s with toks:=s.toks+1}->b7 (bp X.prog X.w) X.A (f (.int i t)) Q E s):JY X f (R3 λi=>.int (g i)):=by intro _ s G H x v Q D ct h;obtain⟨i,rfl,q⟩:=h;obtain⟨t,rfl⟩:=ct;exact qA i t s _ _ ⟨.int (g i),H,D.tok _,⟨_,Y⟩,q⟩
theorem Bj:JY X (unaryOp .USub) (R3 λi=>.int (-i)):=a2Q λ_ _ _ _ _ q=>neg_int q
end
noncomputable def R4:V->V->Bool
 |.bR,.bR=>a9|.bR,.int _=>a9|.int _,.bR=>a9|.bR,.c3 _=>a9|.c3 _,.bR=>a9|.bR,.str _=>a9|.str _,.bR=>a9
 |.int _,.int _=>a9|.c3 _,.c3 _=>a9|.str _,.str _=>a9|.lT _,.lT _=>a9
 |.int _,.str _=>a9|.str _,.int _=>a9|.c3 _,.str _=>a9|.str _,.c3 _=>a9
 |_,_=>aK
def K0:p9:=λx y H Q=>R4 x y=a9/\Q (.c3 (decide (x=y))) H
def a2R:p9:=λx y H Q=>R4 x y=a9/\Q (.c3 (!decide (x=y))) H
theorem o5{i j:Int}:decide (V.int i=V.int j)=(i==j):=by rw[hT];simp
theorem R5{i j:Bool}:decide (V.c3 i=V.c3 j)=(i==j):=by rw[hT];simp
theorem R6{i j:a8}:decide (V.str i=V.str j)=(i==j):=by rw[hT];simp
theorem R7{i j:Array UInt8}:decide (V.lT i=V.lT j)=(i.toList==j.toList):=by rw[hT];cases i;cases j;simp
section
variable{a b:bO}{kS:bZ}
theorem hn{Q:c2}{k kU:Bool}(D:Inv X a4 G H s)(q:Q (.c3 k) H)(e:k=kU):h_ X a4 G Q (.bool kU) s:=by subst e;exact⟨.c3 k,H,D,Y,q⟩
theorem dB:hB X (n5 .Eq) K0:=by
 intro _ s G H x y v u Q D ct cD h;obtain⟨ax,q⟩:=h;cases x with
 |bR=>cases ct;cases y with|bR=>cases cD;exact aml (hn D q (by simp))|c3 j=>cases cD;exact amj (hn D q (by simp))|int j=>obtain⟨t',rfl⟩:=cD;exact amk (hn D q (by simp))|str j=>obtain⟨t',rfl⟩:=cD;exact amm (hn D q (by simp))|_=>exact absurd (show aK=a9 from ax) i6
 |c3 i=>cases ct;cases y with|bR=>cases cD;exact amh (hn D q (by simp))|c3 j=>cases cD;exact eq_bool (hn D q R5)|str j=>obtain⟨t',rfl⟩:=cD;exact am9 (hn D q (by simp))|_=>exact absurd (show aK=a9 from ax) i6
 |int i=>obtain⟨t,rfl⟩:=ct;cases y with|bR=>cases cD;exact ami (hn D q (by simp))|int j=>obtain⟨t',rfl⟩:=cD;exact eq_int (hn D q o5)|str j=>obtain⟨t',rfl⟩:=cD;exact ama (hn D q (by simp))|_=>exact absurd (show aK=a9 from ax) i6
 |str i=>obtain⟨t,rfl⟩:=ct;cases y with|bR=>cases cD;exact amn (hn D q (by simp))|c3 j=>cases cD;exact amb (hn D q (by simp))|int j=>obtain⟨t',rfl⟩:=cD;exact amc (hn D q (by simp))|str j=>obtain⟨t',rfl⟩:=cD;exact eq_str (hn D q R6)|_=>exact absurd (show aK=a9 from ax) i6
 |lT i=>obtain⟨t,rfl⟩:=ct;cases y with|lT j=>obtain⟨t',rfl⟩:=cD;exact PySem.W.eq_bytes (hn D q R7)|_=>exact absurd (show aK=a9 from ax) i6
 |_=>cases y<;>exact absurd (show aK=a9 from ax) i6
theorem o6:hB X (n5 .NotEq) a2R:=by
 intro _ s G H x y v u Q D ct cD h;obtain⟨ax,q⟩:=h;cases x with
 |bR=>cases ct;cases y with|bR=>cases cD;exact amt (hn D q (by simp))|c3 j=>cases cD;exact amr (hn D q (by simp))|int j=>obtain⟨t',rfl⟩:=cD;exact ams (hn D q (by simp))|str j=>obtain⟨t',rfl⟩:=cD;exact amu (hn D q (by simp))|_=>exact absurd (show aK=a9 from ax) i6
 |c3 i=>cases ct;cases y with|bR=>cases cD;exact amo (hn D q (by simp))|c3 j=>cases cD;exact ne_bool (hn D q (g5 not R5))|str j=>obtain⟨t',rfl⟩:=cD;exact amd (hn D q (by simp))|_=>exact absurd (show aK=a9 from ax) i6
 |int i=>obtain⟨t,rfl⟩:=ct;cases y with|bR=>cases cD;exact amq (hn D q (by simp))|int j=>obtain⟨t',rfl⟩:=cD;exact ne_int (hn D q (g5 not o5))|str j=>obtain⟨t',rfl⟩:=cD;exact ame (hn D q (by simp))|_=>exact absurd (show aK=a9 from ax) i6
 |str i=>obtain⟨t,rfl⟩:=ct;cases y with|bR=>cases cD;exact amv (hn D q (by simp))|c3 j=>cases cD;exact amf (hn D q (by simp))|int j=>obtain⟨t',rfl⟩:=cD;exact amg (hn D q (by simp))|str j=>obtain⟨t',rfl⟩:=cD;exact ne_str (hn D q (g5 not R6))|_=>exact absurd (show aK=a9 from ax) i6
 |lT i=>obtain⟨t,rfl⟩:=ct;cases y with|lT j=>obtain⟨t',rfl⟩:=cD;exact PySem.W.ne_bytes (hn D q (g5 not R7))|_=>exact absurd (show aK=a9 from ax) i6
 |_=>cases y<;>exact absurd (show aK=a9 from ax) i6
theorem pa:hB X (n5 .Lt) (lZ λi j=>.c3 (decide (i<j))):=F4 λ_ _ _ _ _ _ _ q=>aje q
theorem rR:hB X (n5 .LtE) (lZ λi j=>.c3 (decide (i<=j))):=F4 λ_ _ _ _ _ _ _ q=>le_int q
theorem rS:hB X (n5 .Gt) (lZ λi j=>.c3 (decide (j<i))):=F4 λ_ _ _ _ _ _ _ q=>gt_int q
theorem F8:hB X (n5 .GtE) (lZ λi j=>.c3 (decide (j<=i))):=F4 λ_ _ _ _ _ _ _ q=>ge_int q
theorem cu(b:bO)(h:op≠ .In:=by decide)(a5:op≠ .NotIn:=by decide):AS op b=aK:=by
 have aO:(op==ajm)=aK:=by cases op<;>first|rfl|exact absurd Y h
 have aT:(op==ajn)=aK:=by cases op<;>first|rfl|exact absurd Y a5
 cases b<;>simp[AS,aO,aT]
theorem gM{r:p9}(aU:hB X (n5 op) r)(bf:bS X a c1)(a0:bS X b cf)(hm:AS op b=aK):bS X (.Compare a [op] [b] pos) (k2 r c1 cf):=by intro a4 s G H Q D h;exact wpAny_Compare1 (JZ bf a0 D h λv u s2 x y au cM ct cD q=>aU a4 s2 G au x y v u Q cM ct cD q) hm
inductive R8 (Q:Bool->ag->Prop) (x:V) (H':ag):Prop
 |mk k:x=.c3 k->Q k H'->R8 Q x H'
def o7(t:bZ):TT:=λG H Q=>t G H (R8 Q)
theorem d1{r:p9}(aU:hB X (n5 op) r)(bf:bS X a c1)(a0:bS X b cf)(hm:AS op b=aK):nd X (.Compare a [op] [b] pos) (o7 (k2 r c1 cf)):=by intro a4 s G H Q D h;refine akk (bW (bf a4 s G H _ D h) λv s1 ⟨x,ai,aP,cx,bw⟩=>bW (a0 a4 s1 G ai _ aP bw) λu s2 ⟨y,au,cM,dT,cy⟩=>bW (aU a4 s2 G au x y v u _ cM cx dT cy) λc _ ⟨z,bc,dJ,sX,k,e,h9⟩=>?_) hm;subst e;cases sX;exact uw ⟨bc,dJ,h9⟩
def K1(r g7:p9)(c1 cf kS:bZ):bZ:=λG H Q=>c1 G H λx ai=>cf G ai λy au=>r x y au λz bc=>∃k,z=.c3 k/\(if k=a9 then kS G bc λjo cU=>g7 y jo cU Q else Q (.c3 aK) bc)
theorem K2{wC:yc}{r g7:p9}(aU:hB X (n5 op) r)(mH:hB X (n5 wC) g7)(bf:bS X a c1)(a0:bS X b cf)(a7:bS X c kS)(hm:lastMarks [op,wC] [b,c]=aK:=by with_unfolding_all rfl):bS X (.Compare a [op,wC] [b,c] pos) (K1 r g7 c1 cf kS):=by intro a4 s G H Q D h;refine Compare_chain (bW (bf a4 s G H _ D h) λv s1 ⟨x,ai,aP,cx,bw⟩=>chain_link (bW (a0 a4 s1 G ai _ aP bw) λu s2 ⟨y,au,cM,dT,cy⟩=>bW (aU a4 s2 G au x y v u _ cM cx dT cy) λd bE ⟨z,bc,dJ,sX,k,e,h9⟩=>?_)) hm;subst e;cases sX;refine uw ?_;cases k with|false=>exact ite_ff ⟨.c3 aK,bc,dJ,rfl,h9⟩|true=>exact ite_tt (chain_last (bW (a7 a4 bE G bc _ dJ h9) λjo s4 ⟨mI,cU,f',Bk,Bl⟩=>mH a4 s4 G cU y mI u jo Q f' dT Bk Bl))
theorem K3{wC:yc}{r g7:p9}(aU:hB X (n5 op) r)(mH:hB X (n5 wC) g7)(bf:bS X a c1)(a0:bS X b cf)(a7:bS X c kS)(hm:lastMarks [op,wC] [b,c]=aK:=by with_unfolding_all rfl):nd X (.Compare a [op,wC] [b,c] pos) (o7 (K1 r g7 c1 cf kS)):=by intro a4 s G H Q D h;refine isTrue_chain (bW (bf a4 s G H _ D h) λv s1 ⟨x,ai,aP,cx,bw⟩=>test_link (bW (a0 a4 s1 G ai _ aP bw) λu s2 ⟨y,au,cM,dT,cy⟩=>bW (aU a4 s2 G au x y v u _ cM cx dT cy) λd bE ⟨z,bc,dJ,sX,k,e,h9⟩=>?_)) hm;subst e;cases sX;refine uw ?_;cases k with|false=>obtain⟨_,d8,eW⟩:=h9;cases d8;exact ite_ff ⟨bc,dJ,eW⟩|true=>refine ite_tt (test_last (bW (a7 a4 bE G bc _ dJ h9) λjo s4 ⟨mI,cU,f',Bk,Bl⟩=>bW (mH a4 s4 G cU y mI u jo _ f' dT Bk Bl) λ_ _ ⟨_,c',jt,Be,_,aT,yP⟩=>?_));subst aT;cases Be;exact uw ⟨c',jt,yP⟩
theorem yQ:(cN:Nat)<2^63:=by rw[Qc];decide
theorem pb:hB X (sM .Add) (λx y H Q=>∃i j,x=.str i/\y=.str j/\i.length+j.length<=cN/\Q (.str (i++j)) H):=by intro _ s G H x y v u Q D ct cD h;obtain⟨i,j,rfl,rfl,aR,q⟩:=h;obtain⟨t,rfl⟩:=ct;obtain⟨t',rfl⟩:=cD;exact add_str (λt' _=>⟨.str (i++j),H,D.tok _,⟨_,Y⟩,q⟩) aR
theorem K4:hB X (Jc .Add) (λx y H Q=>∃i j,x=.str i/\y=.str j/\i.length+j.length<=cN/\Q (.str (i++j)) H):=by intro _ s G H x y v u Q D ct cD h;obtain⟨i,j,rfl,rfl,aR,q⟩:=h;obtain⟨t,rfl⟩:=ct;obtain⟨t',rfl⟩:=cD;exact iadd_str (λt' _=>⟨.str (i++j),H,D.tok _,⟨_,Y⟩,q⟩) aR
theorem vals1{x:V}(r:cC [x] us):∃u,us=[u]/\RelV x u:=by cases r with|cons cx dT=>cases dT;exact⟨_,Y,cx⟩
theorem vals2{x y:V}(r:cC [x,y] us):∃u jo,us=[u,jo]/\RelV x u/\RelV y jo:=by
 cases r with
 |cons cx dT=>cases dT with|cons sX Bk=>cases Bk;exact⟨_,_,Y,cx,sX⟩
theorem R9(a7:X.calm=a9):q0 X (.builtin "max") (λxs H Q=>∃i j,xs=[.int i,.int j]/\Q (.int (if j>i then j else i)) H):=by
 intro _ s G H xs _ Q D r h;obtain⟨i,j,rfl,q⟩:=h;obtain⟨u,_,rfl,⟨t,rfl⟩,⟨_,rfl⟩⟩:=vals2 r;refine max_two_ints (D.ok.hd a7) λ_ _ k=>⟨_,H,D.kept k,?_,q⟩;by_cases bY:j>i
 .rw[aZ bY,aZ bY];exact⟨_,Y⟩
 rw[aL bY,aL bY];exact⟨_,Y⟩
theorem K5:q0 X (.type "str") (λxs H Q=>∃i,xs=[.int i]/\i.natAbs.log2<1920/\Q (.str (toString i)) H):=by intro _ s G H xs _ Q D r h;obtain⟨i,rfl,aR,q⟩:=h;obtain⟨u,rfl,t,rfl⟩:=vals1 r;exact PySem.P.str_of_int aR ⟨.str _,H,D.tok _,⟨_,Y⟩,q⟩
theorem sY:q0 X (.builtin "ord") (λxs H Q=>∃x,xs=[.str x]/\x.length=1/\Q (.int (x.cps.getD 0 0:Nat)) H):=by intro _ s G H xs _ Q D r h;obtain⟨x,rfl,aR,q⟩:=h;obtain⟨u,rfl,t,rfl⟩:=vals1 r;exact ord_of_one aR ⟨.int _,H,D.tok _,⟨_,Y⟩,q⟩
end
structure wD (h:bq) (x a3 C:I) (mA:a8->Iw ae):Prop where
 obj:h.get? x=B (yf C a3)
 ns:h.Ns1 a3 mA
 ne:a3≠x
variable{a3:I}{mA:a8->Iw ae}
theorem a2S(n:h.Ns1 a3 mA):∃od,h.get? a3=B od/\∀name,Q6 name od=B (mA name):=by
 obtain⟨o,b5,_,aU,hd,aA,_,hm⟩:=n;refine⟨o,aU,λname=>?_⟩;have e:=hm name;unfold AV findBy at e;rw[<-Array.find?_toList]at e;unfold Q6;rw[hd];dsimp only;split
 .rename_i y q
  rw[q]at e;exact g5 B e
 rename_i q
 rw[q]at e;have a:b5.toList.any (·.refKey)=aK:=by rw[a0y];intro y bl;obtain⟨z,t,a2T⟩:=aA y (ait.mp bl);simp[DictEntry.refKey,a2T]
 have K6:¬b5.toList.any (·.refKey)=a9:=by rw[a];exact i6
 rw[aL K6];exact g5 B e
variable{C:I}
theorem wD.look{x:I}(D:wD h x a3 C mA):∃od,PySem.W.InstAt h x (yf C a3) C (B od)/\∀name,Q6 name od=B (mA name):=
 let⟨od,aU,ar⟩:=a2S D.ns
 ⟨od,⟨D.obj,Y,Y,aU⟩,ar⟩
variable{pl:hX Bool}
section
variable{prog:bP}{x f:I}{name:a8}{v:ae}
theorem a2U{Bm:Bool}(X:K.In s.heap)(D:wD s.heap x a3 C mA)(aI:J9 K C name=a9)(bT:Q5 K C=a9)(bf:qz K (.ref C) name=B aa)(bk:mA name=B v)(F9:ajR v=a9)(h:Q v {s with toks:=s.toks+1}):b7 (bp prog w) A (Jb (.ref x) name Bm) Q E s:=by obtain⟨_,d5,ar⟩:=D.look;exact PySem.W.get_value X d5 (a1q aI).1 (PySem.W.findObj_own bT bf Y (by rw[ar,bk])) F9 h
theorem a2V{Q:ae×sl ae->ay->Prop}(X:K.In s.heap)(D:wD s.heap x a3 C mA)(aI:J9 K C name=a9)(hf:qz K (.ref C) name=B (B (.ref f)))(b9:J8 K (.ref f)=a9)(bk:mA name=aa)(h:Q (.ref f,[.ref x]) s):b7 (bp prog w) A (w9 (.ref x) name pl) Q E s:=by obtain⟨od,d5,ar⟩:=D.look;exact PySem.W.method_fn X d5 (a1q aI).1 (a1q aI).2 hf (i9.mp b9) (by show(Q6 name od).map (·.isSome)=B aK;rw[ar,bk];rfl) h
theorem a2W{ns:sl a8}{Q:Unit->ay->Prop}(X:K.In s.heap)(D:wD s.heap x a3 C mA)(ax:qz K (.ref C) "__setattr__" =B (B (.builtin "object.__setattr__")))(aq:a1r K C=a9)(b9:a1s K C name=B aa)(bT:Q5 K C=a9)(hw:Er mA ns)(hsz:ns.length<=cN)(h:∀h',wD h' x a3 C (λy=>if y=name then B v else mA y)->Ej a3 s.heap h'->Q () {s with heap:=h',toks:=s.toks+2}):b7 (bp prog w) A (AX (.ref x) name v) Q E s:=by obtain⟨_,d5,_⟩:=D.look;refine PySem.W.set_plain X d5 ax (PySem.W.osa_open (s:={s with toks:=s.toks+1}) (r:=aa) X d5 aq b9 λb=>?_);obtain⟨_,a7,ES⟩:=PySem.W.any_some bT;have ah:s.heap.get? x=B ⟨.ref C,B a3,.plain,#[]⟩:=D.obj;refine bB (eJ (bB (bB (wpAny_loadPart ah (bB (amN (s:={s with toks:=s.toks+1}) (PySem.W.looks_clsIn X a7) ?_))))));rw[ES];refine eJ (a:=B a3) (bB (eJ (bB ?_)));refine wpAny_nsSet1 (s:={s with toks:=s.toks+1}) D.ns λh' Fb mK=>?_;obtain⟨_,_,_,K7,K8,K9⟩:=Fb.count (ajW name v hw);refine bB (akp K7 (by rw[K8];exact aka (dE K9 (by rw[fX];lia))) ?_);exact eJ (h _ ⟨(mK.2 _ (ej D.ne)).trans D.obj,Fb,D.ne⟩ mK)
theorem a30{R:w5->ay->Prop}{vs:sl ae}{qI:sl (a8×ae)}(X:K.In s.heap)(hm:a1o K C=a9)(hi:qz K (.ref C) "__init__" =B (B (.ref f)))(hf:PySem.W.typeIn K (.ref f)=B (.type "function"))(h:my (bp prog w) (A.under (.builtin "type.__call__" ⟨.ref C::vs,qI⟩)) (.call (.ref f) ⟨.ref (s⁻¹+1)::vs,qI⟩) (PySem.W.InitBack (s⁻¹+1) R) {s with heap:=(s.heap.push w7).push (yf C s⁻¹)}):my (bp prog w) A (.call (.ref C) ⟨vs,qI⟩) R s:=by obtain⟨_,g,d,t,_⟩:=s;exact PySem.W.make_core (PySem.W.makes_of X hm) (PySem.W.looks_findIn X hi) (λself=>PySem.W.bind_fn X self hf) (.inl Y) h
end
noncomputable def gN(f:a8)(v:V):sl (a8×V)->sl (a8×V)
 |[]=>[(f,v)]
 |(g,x)::r=>if g=f then(g,v)::r else(g,x)::gN f v r
theorem Ka(f g:a8)(v:V):∀fs:sl (a8×V),(gN f v fs).lookup g=if g=f then B v else fs.lookup g
 |[]=>by
  show y3 g [(f,v)]=_;by_cases h:g=f
  .have a0:(g==f)=a9:=i9.mpr h;simp only[y3,a0,aZ h]
  have a0:(g==f)=aK:=EO.mpr h;simp only[y3,a0,aL h]
 |(k,x)::r=>by
  have ih:=Ka f g v r;rw[show gN f v ((k,x)::r)=(if k=f then(k,v)::r else(k,x)::gN f v r)from Y];by_cases aA:k=f
  .rw[aZ aA];by_cases h:g=k
   .have a0:(g==k)=a9:=i9.mpr h;simp only[y3,a0,aZ (h.trans aA)]
   have a0:(g==k)=aK:=EO.mpr h;simp only[y3,a0,aL (λe:g=f=>h (e.trans aA.symm))]
  rw[aL aA];by_cases h:g=k
  .have a0:(g==k)=a9:=i9.mpr h;simp only[y3,a0,aL (λe:g=f=>aA (h.symm.trans e))]
  have a0:(g==k)=aK:=EO.mpr h;simp only[y3,a0];exact ih
theorem Bn(f:a8)(v:V):∀fs:sl (a8×V),f∈(gN f v fs).map (·.1)/\∀g,g∈fs.map (·.1)->g∈(gN f v fs).map (·.1)
 |[]=>⟨by simp[gN],λg h=>by simp at h⟩
 |(k,x)::r=>by
  obtain⟨gO,g9⟩:=Bn f v r;rw[show gN f v ((k,x)::r)=(if k=f then(k,v)::r else(k,x)::gN f v r)from Y];by_cases aA:k=f
  .rw[aZ aA];subst aA;exact⟨by simp,λg h=>by simpa using h⟩
  rw[aL aA];refine⟨?_,λg h=>?_⟩
  .rw[ir];exact eH _ gO
  rw[ir]at h ⊢;obtain e|e:=dz.mp h
  .exact dz.mpr (.inl e)
  exact eH _ (g9 g e)
theorem Kb(f:a8)(v:V):∀fs:sl (a8×V),(gN f v fs).length<=fs.length+1
 |[]=>by simp[gN]
 |(k,x)::r=>by
  have ih:=Kb f v r;rw[show gN f v ((k,x)::r)=(if k=f then(k,v)::r else(k,x)::gN f v r)from Y];by_cases aA:k=f
  .rw[aZ aA,fX,fX];lia
  rw[aL aA,fX,fX];lia
theorem j_.some_of{o:Iw ae}(r:j_ (B v) o):∃u,o=B u/\RelV v u:=by cases o with|none=>exact(show False from r).elim|some u=>exact⟨u,rfl,r⟩
theorem j_.none_of{o:Iw ae}(r:j_ aa o):o=aa:=by cases o with|none=>rfl|some u=>exact(show False from r).elim
theorem Ra(r:RelV v u):ajR u=a9:=by cases v with|bR=>cases(show u=eS from r);rfl|c3 b=>cases(show u=n3 b from r);rfl|int i=>obtain⟨t,e⟩:=(show∃t,u=w6 i t from r);cases e;rfl|str x=>obtain⟨t,e⟩:=(show∃t,u=Q1 x t from r);cases e;rfl|lT b=>obtain⟨t,e⟩:=(show∃t,u=ajH b t from r);cases e;rfl|B3 b=>obtain⟨t,e⟩:=(show∃t,u=ajI b t from r);cases e;rfl|ref a=>cases(show u=dO a from r);rfl|ty n=>cases(show u=ui n from r);rfl
variable{fs:sl (a8×V)}
section
variable{h6:sl (a8×V)}
theorem Kc(bQ:g6 P w H h)(e:H a=B (.ins C a3 fs)):∃mA,wD h a a3 C mA/\(∀f,j_ (fs.lookup f) (mA f))/\Er mA (fs.map (·.1))/\fs.length<=1000/\H a3=B (.own a):=by obtain⟨d,z,ne,cG,mA,n,r,q⟩:=(show hj P w H h a (.ins C a3 fs)from bQ a _ e);exact⟨mA,⟨cG,n,ne⟩,r,q,z,d⟩
end
structure iA (K:bb) (C:I):Prop where
 qJ:J9 K C AQ=a9
 hd:Q5 K C=a9
 po:a1r K C=a9
 o8:qz K (.ref C) "__setattr__" =B (B (.builtin "object.__setattr__"))
theorem iA.get(c:iA K C)(f:a8):J9 K C f=a9:=c.qJ
def eE(K:bb)(C:I)(f:a8):Prop:=qz K (.ref C) f=B aa
theorem eE.a31{f:a8}(n:eE K C f):a1s K C f=B aa:=by unfold a1s;rw[show qz K (.ref C) f=B aa from n];rfl
structure uK (K:bb) (C:I) (m:a8) (f:I):Prop where
 at_:qz K (.ref C) m=B (B (.ref f))
 fn:J8 K (.ref f)=a9
 dK:nQ K (.ref f)=a9
variable{m:a8}
section
variable{f:a8}
theorem Rb{b:Bool}(D:Inv X a4 G H s)(e:H a=B (.ins C a3 fs))(c:iA X.K C)(n:eE X.K C f)(l:fs.lookup f=B v)(h:∀u a_,Inv X a4 G H a_->RelV v u->Q u a_):b7 (bp X.prog X.w) A (Jb (.ref a) f b) Q E s:=by obtain⟨mA,k3,r,_,_,_⟩:=Kc D.bQ e;obtain⟨u,bx,hk⟩:=j_.some_of (v:=v) (o:=mA f) (by rw[<-l];exact r f);exact a2U D.gX k3 (c.get f) c.hd n bx (Ra hk) (h u _ (D.tok _) hk)
theorem Fc{g:I}{Q:ae×sl ae->ay->Prop}(D:Inv X a4 G H s)(e:H a=B (.ins C a3 fs))(c:iA X.K C)(k:uK X.K C m g)(l:fs.lookup m=aa)(h:Q (.ref g,[.ref a]) s):b7 (bp X.prog X.w) A (w9 (.ref a) m pl) Q E s:=by obtain⟨mA,k3,r,_,_,_⟩:=Kc D.bQ e;have aH:mA m=aa:=j_.none_of (by rw[<-l];exact r m);exact a2V D.gX k3 (c.get m) k.at_ k.fn aH h
theorem Rc{y:V}{Q:Unit->ay->Prop}(D:Inv X a4 G H s)(e:H a=B (.ins C a3 fs))(c:iA X.K C)(n:eE X.K C f)(ar:fs.length<1000)(cD:RelV y u)(h:∀a_,Inv X a4 G (av H a (.ins C a3 (gN f y fs))) a_->Q () a_):b7 (bp X.prog X.w) A (AX (.ref a) f u) Q E s:=by
 obtain⟨mA,k3,r,gL,_,aU⟩:=Kc D.bQ e;have aR:(fs.map (·.1)).length<=cN:=by rw[cX,Qc];lia
 refine a2W D.gX k3 c.o8 c.po n.a31 c.hd gL aR λh' Kd cI=>h _ ?_;have hd:∃o,h'.get? a3=B o:=let⟨o,_,_,d8,_⟩:=Kd.ns;⟨o,d8⟩
 refine D.write (x:=a) (e:=a3) (by rw[e];exact B0) (.inr aU) (λb q a0 z=>(cI.2 b a0).trans z) hd ?_;refine⟨by rw[aM k3.ne];exact aU,?_,k3.ne,Kd.obj,_,Kd.ns,λg=>?_,λg aI=>?_⟩
 .have:=Kb f y fs;lia
 .show j_ ((gN f y fs).lookup g) (if g=f then B u else mA g);rw[Ka];by_cases q:g=f
  .rw[aZ q,aZ q];exact cD
  rw[aL q,aL q];exact r g
 by_cases q:g=f
 .rw[q];exact(Bn f y fs).1
 refine(Bn f y fs).2 g (gL g λz=>aI ?_);show(if g=f then B u else mA g)=aa;rw[aL q];exact z
theorem Inv.made(D:Inv X a4 G H s):Inv X a4 G (av (av H s⁻¹ (.own (s⁻¹+1))) (s⁻¹+1) (.ins C s⁻¹ []))
  {s with heap:=(s.heap.push w7).push (yf C s⁻¹)}:=by
 have aO:(s.heap.push w7).get? s⁻¹=B w7:=hW s.heap Y;have aT:((s.heap.push w7).push (yf C s⁻¹)).get? (s⁻¹+1)=B (yf C s⁻¹):=by have:=hW (s.heap.push w7) (o:=yf C s⁻¹) Y;rwa[n1]at this
 have e1:(s.heap.push w7).Ns s⁻¹ (λ_=>aa):=⟨w7,#[],_,aO,Y,(λe aF=>absurd aF (by simp)),λ_=>rfl⟩;have aP:=D.laid (a:=s⁻¹) (o:=.own (s⁻¹+1)) (h':=s.heap.push w7) (t':=s.toks) (λb u q=>ef _ q) (cP _) ⟨_,aO⟩;refine aP.laid (a:=s⁻¹+1) (o:=.ins C s⁻¹ []) (t':=s.toks) (λb u q=>ef _ q) (AJ (n1 _ _)) ?_;have ne:s⁻¹≠s⁻¹+1:=h3 (AK _);refine⟨by rw[aM ne,b3],es _,ne,aT,λ_=>aa,(ajy e1).at λo q=>ef _ q,λ_=>B0,λy bl=>absurd Y bl⟩
theorem Rd{prog:bP}{env:eC}{f:a8}(a0:yi e f env (eval e env)=eval e env)(h:b7 (bp prog w) A (eval e env) (λo dw=>b7 (bp prog w) A (Jb o f a9) Q E dw) E s):b7 (bp prog w) A (eval (.Attribute e f pos) env) Q E s:=
 Attribute_any_ h (by rw[arm_eval_Attribute,a0])
end
inductive Rf (K:bb) (f:a8) (Q:c2) (x:V) (ai:ag):Prop
 |mk a C a3 fs v:x=.ref a->ai a=B (.ins C a3 fs)->iA K C->eE K C f->fs.lookup f=B v->Q v ai->Rf K f Q x ai
def ha(K:bb)(c1:bZ)(f:a8):bZ:=λG H Q=>c1 G H (Rf K f Q)
inductive Rg (K:bb) (f:a8) (af:Ends) (G:L2.St) (y:V) (x:V) (au:ag):Prop
 |mk a C a3 fs:x=.ref a->au a=B (.ins C a3 fs)->iA K C->eE K C f->fs.length<1000->af.c8 G (av au a (.ins C a3 (gN f y fs)))->Rg K f af G y x au
def a32(K:bb)(c1 k4:bZ)(f:a8):ez:=λaf G H=>k4 G H λy ai=>c1 G ai (Rg K f af G y)
def Rh(X:bA)(op:J5)(cF:V->V->ag->c2->Prop):Prop:=
 ∀(a4:sl (I×bH))(s:ay)(G:St)(H:ag)(x y:V)(u v:ae)(Q:c2),Inv X a4 G H s->RelV x u->RelV y v->cF x y H Q->b7 (bp X.prog X.w) X.A (Jc op u v) (h_ X a4 G Q) X.bL s
inductive Ri (K:bb) (k4:bZ) (cF:V->V->ag->c2->Prop) (f:a8) (af:Ends) (G:L2.St) (x:V) (ai:ag):Prop
 |mk a C a3 fs v:x=.ref a->ai a=B (.ins C a3 fs)->iA K C->eE K C f->fs.lookup f=B v->(k4 G ai λy au=>cF v y au λz bc=>∃dV h6,bc a=B (.ins C dV h6)/\h6.length<1000/\af.c8 G (av bc a (.ins C dV (gN f z h6))))->Ri K k4 cF f af G x ai
def Rj(K:bb)(c1 k4:bZ)(cF:V->V->ag->c2->Prop)(f:a8):ez:=λaf G H=>c1 G H (Ri K k4 cF f af G)
section
variable{o lr:bO}{f:a8}{ja lu:Pos}{k4:bZ}
theorem bg(aF:bS X e c1)(a0:yi e f X.env (eval e X.env)=eval e X.env):bS X (.Attribute e f pos) (ha X.K c1 f):=by intro a4 s G H Q D h;refine Rd a0 (bW (aF a4 s G H _ D h) λu _ ⟨x,ai,aP,ct,a,C,_,_,v,ex,jw,c,n,l,q⟩=>?_);subst ex;obtain rfl:u=dO a:=ct;exact Rb aP jw c n l λ_ _ cM hk=>⟨v,ai,cM,hk,q⟩
theorem e2(bf:bS X o c1)(bk:bS X lr k4)(ax:sN lr (B (.Attribute o f ja)) pos.line X.env=pure aK):jr X (.Assign [.Attribute o f ja] lr pos) (a32 X.K c1 k4 f):=by intro a4 s G H _ D h;refine akb (bW (bk a4 s G H _ D h) λu s1 ⟨y,ai,aP,cD,q⟩=>bW (bf a4 s1 G ai _ aP q) λfP _ ⟨x,_,cM,ct,a,C,_,_,ex,jw,c,n,l,cy⟩=>?_) ax;subst ex;obtain rfl:fP=dO a:=ct;exact Rc cM jw c n l cD λ_ dJ=>⟨G,_,dJ,cy⟩
theorem yR{op:J5}{cF:V->V->ag->c2->Prop}(bf:bS X o c1)(bk:bS X lr k4)(a33:Rh X op cF):jr X (.AugAssign (.Attribute o f lu) op lr pos) (Rj X.K c1 k4 cF f):=by intro a4 s G H _ D h;refine wpAny_AugAssign_AttributeAny (bW (bf a4 s G H _ D h) λfP _ ⟨x,ai,aP,ct,a,C,_,_,v,ex,jw,c,n,l,q⟩=>?_);subst ex;obtain rfl:fP=dO a:=ct;refine Rb aP jw c n l λu s2 cM hk=>bW (bk a4 s2 G ai _ cM q) λnh bE ⟨y,au,dJ,cD,h9⟩=>bW (a33 a4 bE G au v y u nh _ dJ hk cD h9) λ_ _ ⟨z,_,f',Ke,_,_,a34,gh,Bl⟩=>?_;exact Rc f' a34 c n gh Ke λ_ jt=>⟨G,_,jt,Bl⟩
def Rk:V->V->ag->c2->Prop:=λx y H Q=>∃i j,x=.int i/\y=.int j/\Q (.int (i+j)) H
theorem yS:Rh X .Add Rk:=by rintro a4 s G H x y u v Q D ct cD ⟨i,j,rfl,rfl,q⟩;obtain⟨t,rfl⟩:=(show∃t,u=w6 i t from ct);obtain⟨t',rfl⟩:=(show∃t',v=w6 j t' from cD);exact ajd ⟨.int (i+j),H,D.tok _,⟨_,Y⟩,q⟩
theorem akO{fw:Pos}{args:sl bO}(aF:bS X e b_)(D:Inv X a4 G H s)(h:b_ G H λx ai=>∃a C a3 fs g,x=.ref a/\ai a=B (.ins C a3 fs)/\iA X.K C/\uK X.K C m g/\fs.lookup m=aa/\∀s1,Inv X a4 G ai s1->b7 (bp X.prog X.w) X.A (ym pos (.ref g) [.ref a] (lS pos (fI args X.env)) (uj pos (um [] X.env))) Q X.bL s1)(b9:eval (.Call (.Attribute e m fw) args [] pos) X.env=(do
   let fP <-eval e X.env
   ur fw.atName
   let(f,first) <-rB [fP] (w9 fP m pl)
   ym pos f first (lS pos (fI args X.env)) (uj pos (um [] X.env)))):
  b7 (bp X.prog X.w) X.A (eval (.Call (.Attribute e m fw) args [] pos) X.env) Q X.bL s:=by
 refine Q7 (pl:=pl) (bW (aF a4 s G H _ D h) λu s1 ⟨x,ai,aP,ct,a,C,a3,fs,g,ex,jw,c,k,l,q⟩=>?_) b9;subst ex;obtain rfl:u=dO a:=ct;exact Fc aP jw c k l (q s1 aP)
end
structure dp (k:Nat) (A:da):Prop where
 hd:A.handled=aa
 eF:A.depth+3*k+5<a1D
 un:A.units+16*k+200<uk
theorem dp.mono{j:Nat}(r:dp k A)(h:j<=k:=by decide):dp j A:=⟨r.hd,by have:=r.eF;lia,by have:=r.un;lia⟩
theorem dp.deeper(r:dp (k+1) A)(env:eC):dp k (A.deeper env):=
 ⟨r.hd,by have:=r.eF;show A.depth+1+3*k+5<_;lia,by have:=r.un;show A.units+3+16*k+200<_;lia⟩
theorem Rl{qI:sl (a8×ae)}:(A.under (.builtin "type.__call__" ⟨.ref C::us,qI⟩)).depth=A.depth+1:=by first|rfl|simp[a17,Code.weight,Code.isCreation,Code.isGuard,Code.isCaller,ajo,a1e,guardIds]
theorem Rm{qI:sl (a8×ae)}:(A.under (.builtin "type.__call__" ⟨.ref C::us,qI⟩)).units=A.units+1:=by first|rfl|simp[a17,Code.cUnits,ajo,a1e]
theorem dp.make(r:dp (k+1) A)(C:I)(us:sl ae)(qI:sl (a8×ae)):dp k (A.under (.builtin "type.__call__" ⟨.ref C::us,qI⟩)):=
 ⟨r.hd,by have:=r.eF;rw[Rl];lia,by have:=r.un;rw[Rm];lia⟩
theorem dp.depth(r:dp k A):A.depth<a1D:=by have:=r.eF;lia
theorem dp.units(r:dp k A):A.units+64<uk:=by have:=r.un;lia
def gi:gA:=λ_ H Q=>Q [] H
def ed(c1:bZ)(a35:gA):gA:=λG H Q=>c1 G H λx ai=>a35 G ai λxs au=>Q (x::xs) au
variable{t:gA}
theorem az:hI X [] gi:=λ_ _ _ _ H Q D h=>a1d ⟨[],H,D,.nil,h⟩
theorem ao(bf:bS X e b_)(ak:hI X b5 t)(ax:fI (e::b5) X.env=(aK,eval e X.env)::fI b5 X.env:=by rfl):hI X (e::b5) (ed b_ t):=by intro pos a4 s G H Q D h;rw[ax];show b7 _ _ (spliced ((aK,eval e X.env)::lS pos (fI b5 X.env))) _ _ s;refine PV (bW (bf a4 s G H _ D h) λu s1 ⟨x,ai,aP,cx,bw⟩=>?_);exact bW (ak pos a4 s1 G ai _ aP bw) λ_ _ ⟨xs,au,cM,dT,cy⟩=>⟨x::xs,au,cM,.cons cx dT,cy⟩
def Kf(t:gA):bZ:=λG H Q=>t G H λxs ai=>xs.length<=cN/\∀p,ai p=aa->Q (.ref p) (av ai p (.tup xs))
def Fe(t:gA):bZ:=λG H Q=>t G H λxs ai=>xs.length<=cN/\∀p,ai p=aa->Q (.ref p) (av ai p (.lst xs))
theorem sZ{eM}(h:hI X b5 t):bS X (.Tuple b5 eM pos) (Kf t):=by intro a4 s G H Q D aQ;refine wpAny_Tuple_spliced (bW (h pos a4 s G H _ D aQ) λus s1 ⟨xs,ai,aP,r,z,q⟩=>⟨by rw[<-r.length];exact z,?_⟩);have hf:ai s1⁻¹=aa:=aP.bQ.fresh (cP _);refine⟨.ref s1⁻¹,av ai s1⁻¹ (.tup xs),aP.laid (t':=s1.toks) (λb u e=>ef _ e) (cP _) ?_,Y,q _ hf⟩;exact⟨z,us,r,⟨_,hW _ Y,Y,_,Y⟩⟩
theorem fC(h:hI X b5 t):bS X (.List b5 pos) (Fe t):=by intro a4 s G H Q D aQ;refine wpAny_List_spliced (bW (h pos a4 s G H _ D aQ) λus s1 ⟨xs,ai,aP,r,z,q⟩=>⟨by rw[<-r.length];exact z,?_⟩);have hf:ai s1⁻¹=aa:=aP.bQ.fresh (cP _);refine⟨.ref s1⁻¹,av ai s1⁻¹ (.lst xs),aP.laid (t':=s1.toks) (λb u e=>ef _ e) (cP _) ?_,Y,q _ hf⟩;exact⟨z,us,0,r,hW _ Y⟩
abbrev bN:=sl V->ag->c2->cW->Prop
abbrev ku:=sl eC->ag->ay->cW->ae->ay->Prop
structure qK (P:bP) (w:bG) (K:bb) (a6:a8->Iw ae) (base:bq) (A:da) (outer:sl eC) (s:ay) (H:ag):Prop where
 frames:A.frames=B outer
 mod:Mod K a6 base
 bs:∀b o,base.get? b=B o->s.heap.get? b=B o/\H b=aa
 mG:base.objs.size<=s⁻¹
 lj:s.heap.FunFrames base outer
 oX:∀b∈mF outer,H b=aa
 bQ:g6 P w H s.heap
 bare:y9 s.gens
def Kg(outer:sl eC)(P:bP)(w:bG)(H:ag)(s:ay)(Q:c2)(u:ae)(a_:ay):Prop:=
 ∃v H',a_.os=s.os/\y9 a_.gens/\j7 (mF outer) [] H H' s.heap a_.heap/\g6 P w H' a_.heap/\RelV v u/\Q v H'
def Kh(CX:ku)(outer:sl eC)(P:bP)(w:bG)(H:ag)(s:ay)(Q:c2)(E:cW)(r:w5)(a_:ay):Prop:=
 match r with
 |.ok (.ret u)=>Kg outer P w H s Q u a_
 |.ok _=>False
 |.error e=>CX outer H s E e a_
structure jP (P:bP) (w:bG) (K:bb) (a6:a8->Iw ae) (base:bq) (CX:ku) (k:Nat) (f:I) (fd:kp) (aJ:sl a8) (sp:bN):Prop where
 len:∀vs H Q E,sp vs H Q E->vs.length=aJ.length
 run:∀(A:da)(outer:sl eC)(s:ay)(H:ag)(args:Args)(us:sl ae)(vs:sl V)(Q:c2)(E:cW),dp k A->qK P w K a6 base A outer s H->ya s fd args (aJ.zip us)->cC vs us->sp vs H Q E->
  my (bp P w) A (.call (.ref f) args) (Kh CX outer P w H s Q E) s
theorem qK.make{a6:a8->Iw ae}{base:bq}{outer:sl eC}(e:qK P w K a6 base A outer s H)(C:I)(us:sl ae)(qI:sl (a8×ae)):qK P w K a6 base (A.under (.builtin "type.__call__" ⟨.ref C::us,qI⟩)) outer s H:=⟨by first|exact e.frames|(simpa[a17,Code.envs,a1e,pushEnvs]using e.frames),e.mod,e.bs,e.mG,e.lj,e.oX,e.bQ,e.bare⟩
section
variable{a_:ay}
theorem Inv.yT(D:Inv X a4 G H s):qK X.prog X.w X.K X.a6 X.base X.A X.stack s H:=
 ⟨D.ok.frames,D.ok.mod,D.bs,dE D.ok.mG D.lp,D.stack,D.JD,D.bQ,D.bare⟩
theorem Inv.after{Q:c2}(D:Inv X a4 G H s)(h:Kg X.stack X.prog X.w H s Q u a_):h_ X a4 G Q u a_:=by obtain⟨v,H',os,bare,un,bQ,r,q⟩:=h;obtain⟨bT,g,d,t,a36⟩:=a_;obtain rfl:a36=s.os:=os;exact⟨v,H',D.call (h':=bT) (g':=g) (d':=d) (t':=t) (ch:=[]) un bQ bare (λb z=>absurd z (by simp)),r,q⟩
end
def iR(sp:bN)(iB:sl V)(E:cW)(t:gA):bZ:=λG H Q=>t G H λvs ai=>sp (vs++iB) ai Q E
inductive Rn (C:I) (m:a8) (sp:bN) (iB:sl V) (E:cW) (t:gA) (G:L2.St) (Q:c2) (x:V) (ai:ag):Prop
 |mk a a3 fs:x=.ref a->ai a=B (.ins C a3 fs)->fs.lookup m=aa->(t G ai λvs au=>sp (x::(vs++iB)) au Q E)->Rn C m sp iB E t G Q x ai
def jb(C:I)(m:a8)(sp:bN)(iB:sl V)(E:cW)(c1:bZ)(t:gA):bZ:=λG H Q=>c1 G H (Rn C m sp iB E t G Q)
def Ff(C:I)(sp:bN)(iB:sl V)(E:cW)(t:gA):bZ:=λG H Q=>t G H λvs ai=>∀x a3,ai x=aa->ai a3=aa->a3≠x->sp (.ref x::(vs++iB)) (av (av ai a3 (.own x)) x (.ins C a3 [])) (λv au=>v=.bR/\Q (.ref x) au) E
def Binds(K:bb)(fd:kp)(aJ:sl a8)(cc:sl ae):Prop:=
 ∀(s:ay)(us:sl ae),K.In s.heap->(us++cc).length=aJ.length->ya s fd ⟨us,[]⟩ (aJ.zip (us++cc))
variable{aJ:sl a8}
theorem Binds.all{fd:kp}(h:∀us:sl ae,us.length=aJ.length->yj fd ⟨us,[]⟩=pure (aJ.zip us)):Binds K fd aJ []:=λs us _ ar=>by rw[hU]at ar ⊢;exact .of_eq (h us ar)
def l_(CX:ku)(X:bA)(E:cW):Prop:=∀(a4:sl (I×bH))(G:St)(H:ag)(s:ay)(e:ae)(a_:ay),Inv X a4 G H s->CX X.stack H s E e a_->X.bL e a_
variable{CX:ku}
section
variable{f:I}{fd:kp}{sp:bN}{iB:sl V}{cc:sl ae}{E:cW}{fw:Pos}{o:bO}
theorem Ki{Q:c2}{vs:sl V}(F:jP X.prog X.w X.K X.a6 X.base CX k f fd aJ sp)(ak:dp k X.A)(a0:Binds X.K fd aJ cc)(hd:cC iB cc)(ah:l_ CX X E)(D:Inv X a4 G H s)(r:cC vs us)(h:sp (vs++iB) H Q E):b7 (bp X.prog X.w) X.A (n4 (.ref f) us) (h_ X a4 G Q) X.bL s:=by
 have dT:cC (vs++iB) (us++cc):=r.append hd;have ar:(us++cc).length=aJ.length:=by rw[<-dT.length];exact F.len _ _ _ _ h
 refine A_ (w8 (F.run X.A X.stack s H ⟨us,[]⟩ (us++cc) (vs++iB) Q E ak D.yT (a0 s us D.gX ar) dT h) λr a_ aQ=>?_);cases r with
 |error e=>exact ah a4 G H s e a_ D aQ
 |ok dG=>cases dG with|ret u=>exact D.after aQ|next=>exact hu aQ|brk=>exact hu aQ|cont=>exact hu aQ
abbrev lx(X:bA)(pos:Pos)(b5:sl bO):Prop:=(lS pos (fI b5 X.env)).any (·.1)=aK
abbrev o9(X:bA)(e:bO)(b5:sl bO):Prop:=fI (e::b5) X.env=(aK,eval e X.env)::fI b5 X.env
abbrev kV(x:a8):Prop:=(x==("__debug__" :a8))=aK
theorem a37(F:jP X.prog X.w X.K X.a6 X.base CX k f fd aJ sp)(ak:dp k X.A)(aI:hJ X x)(hm:X.a6 x=B (.ref f))(aA:nQ X.K (.ref f)=a9)(a0:Binds X.K fd aJ cc)(hd:cC iB cc)(ah:l_ CX X E)(bf:hI X (e::b5) t)(gj:kV x:=by decide)(aF:o9 X e b5:=by rfl)(eN:lx X pos b5:=by rfl):
  bS X (.Call (.Name x p) (e::b5) [] pos) (iR sp iB E t):=by
 intro a4 s G H Q D h;refine wa (o' D aI hm ?_ gj);refine ye (h₀:=X.base) D.ok.mod.hY aA (bW (bf pos a4 s G H _ D h) λ_ _ ⟨_,_,aP,r,q⟩=>⟨aP.gX,?_⟩) aF eN;exact Ki F ak a0 hd ah aP r q
theorem a38(aF:bS X o c1)(c:iA X.K C)(hm:uK X.K C m f)(F:jP X.prog X.w X.K X.a6 X.base CX k f fd aJ sp)(ak:dp k X.A)(a0:Binds X.K fd aJ cc)(hd:cC iB cc)(ah:l_ CX X E)(bf:hI X (e::b5) t)(fA:fI (e::b5) X.env=(aK,eval e X.env)::fI b5 X.env:=by rfl)(eN:lx X pos b5:=by rfl)(b9:eval (.Call (.Attribute o m fw) (e::b5) [] pos) X.env=(do
   let fP <-eval o X.env
   ur fw.atName
   let(f,first) <-rB [fP] (w9 fP m pl)
   ym pos f first (lS pos (fI (e::b5) X.env)) (uj pos (um [] X.env))):=by rfl):
  bS X (.Call (.Attribute o m fw) (e::b5) [] pos) (jb C m sp iB E c1 t):=by
 intro a4 s G H Q D h;refine Q7 (pl:=pl) (bW (aF a4 s G H _ D h) λu s1 ⟨x,ai,aP,ct,a,_,_,ex,jw,l,q⟩=>?_) b9;subst ex;obtain rfl:u=dO a:=ct;refine Fc aP jw c hm l ?_;refine ye (first:=[.ref a]) (h₀:=X.base) D.ok.mod.hY hm.dK (bW (bf pos a4 s1 G ai _ aP q) λus _ ⟨vs,_,cM,r,cy⟩=>⟨cM.gX,?_⟩) fA eN;exact Ki (us:=.ref a::us) (vs:=.ref a::vs) F ak a0 hd ah cM (.cons Y r) cy
theorem a39(aF:bS X o c1)(c:iA X.K C)(hm:uK X.K C m f)(F:jP X.prog X.w X.K X.a6 X.base CX k f fd aJ sp)(ak:dp k X.A)(a0:Binds X.K fd aJ cc)(hd:cC iB cc)(ah:l_ CX X E)(b9:eval (.Call (.Attribute o m fw) [] [] pos) X.env=(do
   let fP <-eval o X.env
   ur fw.atName
   let(f,first) <-rB [fP] (w9 fP m pl)
   ym pos f first (lS pos (fI [] X.env)) (uj pos (um [] X.env))):=by rfl):
  bS X (.Call (.Attribute o m fw) [] [] pos) (jb C m sp iB E c1 gi):=by
 intro a4 s G H Q D h;refine Q7 (pl:=pl) (bW (aF a4 s G H _ D h) λu _ ⟨x,_,aP,ct,a,_,_,ex,jw,l,q⟩=>?_) b9;subst ex;obtain rfl:u=dO a:=ct;refine Fc aP jw c hm l ?_;exact ajQ (first:=[.ref a]) aP.gX hm.dK (Ki (us:=[.ref a]) (vs:=[.ref a]) F ak a0 hd ah aP (.cons Y .nil) q)
structure Bo (K:bb) (C f:I):Prop where
 makes:a1o K C=a9
 init:qz K (.ref C) "__init__" =B (B (.ref f))
 fn:J8 K (.ref f)=a9
 dK:nQ K (.ref C)=a9
theorem Ro{Q:c2}{vs:sl V}(M:Bo X.K C f)(F:jP X.prog X.w X.K X.a6 X.base CX k f fd aJ sp)(ak:dp (k+1) X.A)(a0:Binds X.K fd aJ cc)(hd:cC iB cc)(ah:l_ CX X E)(D:Inv X a4 G H s)(r:cC vs us)(h:∀x a3,H x=aa->H a3=aa->a3≠x->sp (.ref x::(vs++iB)) (av (av H a3 (.own x)) x (.ins C a3 [])) (λv au=>v=.bR/\Q (.ref x) au) E):b7 (bp X.prog X.w) X.A (n4 (.ref C) us) (h_ X a4 G Q) X.bL s:=by
 have aQ:=h (s⁻¹+1) s⁻¹ (D.bQ.fresh (sH _)) (D.bQ.fresh (cP _)) (h3 (AK _));have cM:=Inv.made (C:=C) D;have dT:cC (V.ref (s⁻¹+1)::(vs++iB)) (dO (s⁻¹+1)::(us++cc)):=.cons Y (r.append hd);have ar:(dO (s⁻¹+1)::us++cc).length=aJ.length:=by have e:=dT.length;rw[F.len _ _ _ _ aQ]at e;exact e.symm
 refine A_ (a30 (f:=f) D.gX M.makes M.init (i9.mp M.fn) (w8 (F.run _ X.stack _ _ ⟨dO (s⁻¹+1)::us,[]⟩ (dO (s⁻¹+1)::(us++cc)) _ _ E (ak.make C us []) (cM.yT.make C us []) (a0 _ (dO (s⁻¹+1)::us) cM.gX ar) dT aQ) λr a_ kv=>?_));cases r with
 |error e=>exact ah a4 G _ _ e a_ cM kv
 |ok dG=>cases dG with|ret u=>obtain⟨v,H',dJ,cB,iS,h9⟩:=cM.after kv;subst iS;exact⟨cB,⟨V.ref (s⁻¹+1),H',dJ,Y,h9⟩⟩|next=>exact hu kv|brk=>exact hu kv|cont=>exact hu kv
theorem a3a(M:Bo X.K C f)(F:jP X.prog X.w X.K X.a6 X.base CX k f fd aJ sp)(ak:dp (k+1) X.A)(aI:hJ X x)(hm:X.a6 x=B (.ref C))(a0:Binds X.K fd aJ cc)(hd:cC iB cc)(ah:l_ CX X E)(bf:hI X (e::b5) t)(gj:kV x:=by decide)(aF:o9 X e b5:=by rfl)(eN:lx X pos b5:=by rfl):
  bS X (.Call (.Name x p) (e::b5) [] pos) (Ff C sp iB E t):=by
 intro a4 s G H Q D h;refine wa (o' D aI hm ?_ gj);refine ye (h₀:=X.base) D.ok.mod.hY M.dK (bW (bf pos a4 s G H _ D h) λ_ _ ⟨_,_,aP,r,q⟩=>⟨aP.gX,?_⟩) aF eN;exact Ro M F ak a0 hd ah aP r q
theorem a3b(M:Bo X.K C f)(F:jP X.prog X.w X.K X.a6 X.base CX k f fd aJ sp)(ak:dp (k+1) X.A)(aI:hJ X x)(hm:X.a6 x=B (.ref C))(a0:Binds X.K fd aJ cc)(hd:cC iB cc)(ah:l_ CX X E)(gj:kV x:=by decide):bS X (.Call (.Name x p) [] [] pos) (Ff C sp iB E gi):=by intro _ s G H Q D h;refine wa (o' D aI hm ?_ gj);exact ajQ D.gX M.dK (Ro (us:=[]) M F ak a0 hd ah D .nil h)
end
structure b' (N P:sl a8) (f6:i8):Prop where
 kind:f6.kind=.function:=by rfl
 co:f6.isCoroutine=aK:=by rfl
 gen:f6.isGenerator=aK:=by rfl
 bj:N.Nodup:=by decide+kernel
 pre:N.take P.length=P:=by rfl
 par:∀x∈P,f6.names.lookup x=B .local∨f6.names.lookup x=B .cell:=by decide+kernel
 a3c:∀y∈f6.names,y.2≠ .free:=by decide+kernel
theorem Rp{kindOf:a8->Iw nO}{x:a8}:∀{binds:sl (a8×ae)}{m:a8->Iw ae},(∀v,(x,v)∉binds)->yl kindOf binds m x=m x
 |[],_,_=>rfl
 |(n,v)::r,m,h=>by
  unfold yl;rw[Rp λw hw=>h w (eH _ hw)];split
  .have:x≠n:=by rintro rfl;exact h v iM
   simp[this]
  rfl
theorem Rq{kindOf:a8->Iw nO}{x:a8}:∀{binds:sl (a8×ae)}{m:a8->Iw ae},(∀v,(x,v)∉binds)->yk kindOf binds m x=m x
 |[],_,_=>rfl
 |(n,v)::r,m,h=>by
  unfold yk;rw[Rq λw hw=>h w (eH _ hw)];split
  .rfl
  have:x≠n:=by rintro rfl;exact h v iM
  simp[this]
theorem Rr{kindOf:a8->Iw nO}{x:a8}{v:ae}:∀{P:sl a8}{vs:sl ae}{i:Nat}{m:a8->Iw ae},P.Nodup->P[i]? =B x->vs[i]? =B v->kindOf x=B .local->yl kindOf (P.zip vs) m x=B v
 |[],_,_,_,_,h,_,_=>by simp at h
 |_::_,[],_,_,_,_,h,_=>by simp at h
 |p::P,w::vs,0,m,bj,O,a5,aA=>by simp at O a5;subst O;subst a5;show yl kindOf ((p,w)::P.zip vs) m p=_;unfold yl;rw[Rp λv bk=>(PJ.mp bj).1 (IU bk).1,aZ aA];simp
 |p::P,w::vs,i+1,m,bj,O,a5,aA=>by show yl kindOf ((p,w)::P.zip vs) m x=_;unfold yl;exact Rr (i:=i) (PJ.mp bj).2 (by simpa using O) (by simpa using a5) aA
theorem Rt{kindOf:a8->Iw nO}{x:a8}{v:ae}:∀{P:sl a8}{vs:sl ae}{i:Nat}{m:a8->Iw ae},P.Nodup->P[i]? =B x->vs[i]? =B v->kindOf x≠B .local->yk kindOf (P.zip vs) m x=B v
 |[],_,_,_,_,h,_,_=>by simp at h
 |_::_,[],_,_,_,_,h,_=>by simp at h
 |p::P,w::vs,0,m,bj,O,a5,aA=>by simp at O a5;subst O;subst a5;show yk kindOf ((p,w)::P.zip vs) m p=_;unfold yk;rw[Rq λv bk=>(PJ.mp bj).1 (IU bk).1,aL aA];simp
 |p::P,w::vs,i+1,m,bj,O,a5,aA=>by show yk kindOf ((p,w)::P.zip vs) m x=_;unfold yk;exact Rt (i:=i) (PJ.mp bj).2 (by simpa using O) (by simpa using a5) aA
def start(N:sl a8)(vs:sl V):St:=vs.map B++hV (N.length-vs.length) aa
noncomputable def pd(CX:ku)(P:bP)(w:bG)(K:bb)(a6:a8->Iw ae)(base:bq)(N:sl a8)(bX:a8)(scope:i8)(f:I)(d6:ae)(A:da)(outer:sl eC)(s:ay)(H:ag)(E:cW):bA where
 prog:=P
 w:=w
 K:=K
 a6:=a6
 base:=base
 A:=A.deeper (fH bX scope s⁻¹ f d6)
 N:=N
 gz:=s
 B4:=H
 env:=fH bX scope s⁻¹ f d6
 outer:=outer
 stack:=fH bX scope s⁻¹ f d6::outer
 ex:=[]
 calm:=a9
 fn:=λ_=>a9
 c_:=[]
 bL:=λe a_=>b7 (bp P w) (A.deeper (fH bX scope s⁻¹ f d6)) (Ex (fH bX scope s⁻¹ f d6) e) (λ_ Kj=>CX outer H s E e Kj) (λd8 Kj=>CX outer H s E d8 Kj) a_
theorem Ru{f6:i8}{n:Nat}(h:f6.names.lookup x=B .cell):∃c,(iv n f6.names []).lookup x=B c:=by have q:=Q4 f6.names n [] (.inl h);exact PQ.mp q
theorem Kk{a6:a8->Iw ae}{base:bq}{N:sl a8}{bX:a8}{scope:i8}{f:I}{d6:ae}{outer:sl eC}{s1:ay}{E:cW}{vs:sl V}(S:b' N aJ scope)(hd:A.handled=aa)(e0:qK P w K a6 base A outer s H)(ar:vs.length=aJ.length)(r:cC vs us)(x:InCallC s s⁻¹ (yl (fH bX scope s⁻¹ f d6).kindOf (aJ.zip us) λ_=>aa) (iv (s⁻¹+1) scope.names []) (yk (fH bX scope s⁻¹ f d6).kindOf (aJ.zip us) λ_=>aa) s1):Inv (pd CX P w K a6 base N bX scope f d6 A outer s H E) [] (start N vs) H s1:=by
 have eN:aJ.length<=N.length:=by have:=g5 ub S.pre;rw[ko]at this;lia
 obtain⟨O,_,rfl,aA⟩:=x.done;have yU:∀b:I,b∉(pd CX P w K a6 base N bX scope f d6 A outer s H E).ex:=λb z=>absurd (show b∈([]:sl I)from z) (by simp);refine⟨⟨e0.mod,S.kind,Y,Y,cP _,λy z c O a5=>?_,λy bl=>?_,λy c _ h=>?_,λ_=>hd,Around.frames_deeper e0.frames,.inr ⟨Y,Y⟩,λb z=>absurd z (yU b),e0.bs,e0.mG,λb _ _=>yU b,λb z=>absurd z (yU b),e0.lj,e0.oX⟩,
  rfl,e0.bare,j7.kept aA,⟨_,x.toInCall.ns,λi y v O a5 _=>?_⟩,λy c h=>⟨_,x.cell y c h⟩,e0.bQ.fresh (cP _),λy c h=>?_,λp aq=>absurd (show p∈([]:sl (I×bH))from aq) (by simp),e0.bQ.kept aA,?_⟩
 .exact name_of_addr x.apart (oR O) (oR a5)
 .have bl:scope.names.lookup y=B .cell∨scope.names.lookup y=B .free:=bl;obtain bl|bl:=bl
  .exact Ru bl
  exact absurd Y (S.a3c _ (oR bl))
 .exact hv (x.above y c (oR h))
 .have hi:i<vs.length:=by
   unfold start at a5;by_cases hi:i<vs.length
   .exact hi
   rw[pR (by simpa using hi)]at a5;rw[aiN]at a5;split at a5<;>cases a5
  have bf:vs[i]? =B v:=by unfold start at a5;rw[l9 (by simpa using hi),fW]at a5;cases e:vs[i]? with|none=>rw[e]at a5;cases a5|some a=>rw[e]at a5;cases a5;rfl
  obtain⟨u,bx,cB⟩:=r.get bf;have aq:aJ[i]? =B y:=by rw[<-S.pre,PH (by lia)];exact O
  have Rv:aJ.Nodup:=by rw[<-S.pre];exact S.bj.sublist (List.take_sublist _ _)
  refine⟨u,cB,?_⟩;obtain k|k:=S.par y (n0 aq)
  .exact .inl ⟨k,Rr Rv aq bx k⟩
  obtain⟨c,e⟩:=Ru (n:=s⁻¹+1) k;refine .inr ⟨.inl k,c,e,?_⟩;have q:=x.cell y c e;rw[Rt Rv aq bx (by show scope.names.lookup y≠_;rw[k];decide)]at q;exact q
 .exact e0.bQ.fresh (hv (x.above y c (oR h)))
 unfold start;show _=N.length;rw[dh,cX,Ea]
 lia
theorem Rw{a6:a8->Iw ae}{base:bq}{f:I}{name bX:a8}{params:Arguments}{body:sl bD}{scope:i8}{Kl ey gB gC bU dX ks:ae}{gP od:Iw I}{pe:Array (Iw ae)}{N:sl a8}{sp:bN}(lk:K.lookup f=B ⟨ks,od,.func (nP name bX params body scope Kl ey gB gC gP bU dX),pe⟩)(lq:AR K bU bX=a9)(S:b' N aJ scope)(len:∀vs H Q E,sp vs H Q E->vs.length=aJ.length)(s_:∀(A:da)(outer:sl eC)(s:ay)(H:ag)(vs:sl V)(Q:c2)(E:cW),dp k (A.deeper (fH bX scope s⁻¹ f bU))->sp vs H Q E->∃t,ix (pd CX P w K a6 base N bX scope f bU A outer s H E) body t/\t {c8:=λ_ H'=>Q .bR H',iw:=Q} (start N vs) H):jP P w K a6 base CX (k+1) f (nP name bX params body scope Kl ey gB gC gP bU dX) aJ sp:=by
 refine⟨len,λA outer s H _ us vs Q E ak e0 a0 r ly=>?_⟩;have ar:=len _ _ _ _ ly;have ba:K.In s.heap:=e0.mod.hY.keeps λb o e=>(e0.bs b o e).1;have Km:s.heap.NoLimit:=e0.mod.nolimit.keeps λb o e=>(e0.bs b o e).1;have a3d:∀y∈aJ.zip us,scope.names.lookup y.1=B .local∨(scope.names.lookup y.1=B .cell/\((iv (s⁻¹+1) scope.names []).lookup y.1).isSome=a9):=λ⟨n,v⟩ bl=>by
  obtain q|q:=S.par n (IU bl).1
  .exact .inl q
  exact .inr ⟨q,Q4 _ _ _ (.inl q)⟩
 refine a1w ak.depth (ba _ _ lk) Y S.co S.gen Y (a1n ba lq) (a0 _ _ _ _ ?_);refine a1Q S.kind a3d λ_ aF s1 x=>?_;subst aF;refine⟨Km.keeps x.toInCall.keep,a1x ?_⟩;obtain⟨t,b9,aQ⟩:=s_ A outer s H vs Q E (ak.deeper _) ly;have D:Inv (pd CX P w K a6 base N bX scope f bU A outer s H E) [] (start N vs) H s1:=Kk S ak.hd e0 ar r x;refine mB (b9 [] s1 (start N vs) H _ D aQ) (λdG a_ ax=>?_) λe a_ ax=>ax;have fin:∀{aN:St}{H':ag}{v:V}{u:ae},Inv (pd CX P w K a6 base N bX scope f bU A outer s H E) [] aN H' a_->RelV v u->Q v H'->Kg outer P w H s Q u a_:=
  fun{aN H' v u} d5 cB q=>⟨v,H',d5.os,d5.bare,d5.base,d5.bQ,cB,q⟩
 cases dG with|ret u=>obtain⟨v,aN,H',d5,cB,q⟩:=ax;exact fin d5 cB q|next=>obtain⟨aN,H',d5,q⟩:=ax;exact fin (v:=V.bR) (u:=eS) d5 Y q|brk=>obtain⟨_,_,_,q⟩:=ax;exact hu q|cont=>obtain⟨_,_,_,q⟩:=ax;exact hu q
section
variable{id T:String}{r:sl V->ag->c2->Prop}
def Bp(r:sl V->ag->c2->Prop)(t:gA):bZ:=λG H Q=>t G H λvs ai=>r vs ai Q
theorem fj(a7:q0 X (.builtin id) r)(aI:hJ X x)(hm:X.a6 x=aa)(bk:Et x=B (.builtin id))(bf:hI X (e::b5) t)(aH:x≠"__name__" :=by decide)(gj:kV x:=by decide)(aF:o9 X e b5:=by rfl)(eN:lx X pos b5:=by rfl):bS X (.Call (.Name x p) (e::b5) [] pos) (Bp r t):=by intro a4 s G H Q D h;refine wa (wm D aI hm bk ?_ aH gj);exact alY (bW (bf pos a4 s G H _ D h) λus s1 ⟨vs,ai,aP,cx,bw⟩=>a7 a4 s1 G ai vs us Q aP cx bw) aF eN
theorem Fg(a7:q0 X (.type T) r)(aI:hJ X x)(hm:X.a6 x=aa)(bk:Et x=B (.type T))(bf:hI X (e::b5) t)(aH:x≠"__name__" :=by decide)(gj:kV x:=by decide)(aF:o9 X e b5:=by rfl)(eN:lx X pos b5:=by rfl):bS X (.Call (.Name x p) (e::b5) [] pos) (Bp r t):=by intro a4 s G H Q D h;refine wa (wm D aI hm bk ?_ aH gj);exact Ei (bW (bf pos a4 s G H _ D h) λus s1 ⟨vs,ai,aP,cx,bw⟩=>a7 a4 s1 G ai vs us Q aP cx bw) aF eN
end
end L2
namespace HT
open PySem PyProof.Rows
noncomputable def lexLt:sl Int->sl Int->Bool
 |[],[]=>aK
 |[],_::_=>a9
 |_::_,[]=>aK
 |x::xs,y::ys=>if x=y then lexLt xs ys else decide (x<y)
theorem a3e(x y:Int)(xs ys:sl Int):lexLt (x::xs) (y::ys)=if x=y then lexLt xs ys else decide (x<y):=rfl
theorem a3f:lexLt [] []=aK:=rfl
theorem a3g(y:Int)(ys:sl Int):lexLt [] (y::ys)=a9:=rfl
theorem a3h(x:Int)(xs:sl Int):lexLt (x::xs) []=aK:=rfl
theorem a3i(A:da)(s:ay)(a:Int)(t:jL)(c:Int)(u:jL):∃e,a1l A s (.int a t) (.int c u) e/\(e=a9↔a=c):=
 ⟨(a==c),ajD a t c u,by simp⟩
theorem a3j(A:da)(s:ay)(a:Int)(t:jL)(c:Int)(u:jL)(prog:bP)(w:bG)(E:ae->ay->Prop)(Q:ae->ay->Prop)(h:Q (.bool (decide (a<c))) s):b7 (bp prog w) A (a1E .Lt (.int a t) (.int c u)) Q E s:=
 (aje h:b7 (bp prog w) A (n5 .Lt (.int a t) (.int c u)) Q E s)
section
open PySem.SeqAt
open PySem.AutoSeq1 (wpAny_loadPart')
open PySem.MeetsSeq PySem.MeetsSeq2 PySem.MeetsSeq3
theorem a3k(l b:I)(items rT:Array ae)(n cS:Nat)(dd Kn:Iw I)(aV Ko:Array (Iw ae))(ns cv:sl Int)(hi:sI items.toList ns)(bY:sI rT.toList cv):Meets (w1.«tuple.__lt__» ⟨[.ref l,.ref b],[]⟩)
   (λ_ R s=>s.heap.get? l=B {cls:=.type "tuple",dict:=dd,data:=.seq items n,slots:=aV}/\s.heap.get? b=B {cls:=.type "tuple",dict:=Kn,data:=.seq rT cS,slots:=Ko}/\R (.ok (.ret (.bool (lexLt ns cv)))) s):=
 .of_wp λprog w A R s h=>by
  obtain⟨aq,g,d,tk,os⟩:=s;obtain⟨ar,a0,h⟩:=h;have f2:=AutoSeq1.sub_tuple_tuple;have hK:items.size=ns.length:=by rw[<-hi.length];simp
  have g8:rT.size=cv.length:=by rw[<-bY.length];simp
  wp_walk using wpAny_loadPart' ar,wpAny_loadPart' a0,wpAny_forIn_list _ (λrest b a_=>b.1=aa/\a_=⟨aq,g,d,tk,os⟩/\∃(vs dk:sl ae)(l' yV:sl Int),rest=vs.zip dk/\sI vs l'/\sI dk yV/\l'.length+rT.size=yV.length+items.size/\R (.ok (.ret (.bool (lexLt l' yV)))) ⟨aq,g,d,tk,os⟩) _
  case turn=>
   rintro⟨y,x⟩ rest b a_ ⟨s',rfl,vs,dk,l',yV,aR,Kp,pf,eY,d2⟩;cases Kp with
   |nil=>rw[List.zip_nil_left]at aR;cases aR
   |cons a t a3l=>
    cases pf with
    |nil=>rw[List.zip_nil_right]at aR;cases aR
    |cons c u a3m=>
     rw[aiX]at aR;injection aR with a3n yW;injection a3n with bl ah;subst bl ah;rw[a3e]at d2;simp only[fX]at eY;obtain⟨e,aF,Rx⟩:=a3i A.in1 ⟨aq,g,d,tk,os⟩ a t c u;refine bB (aF prog w _ _ ?_);cases e with
     |true=>
      rw[aZ (Rx.mp Y)]at d2
      wp_walk
      exact⟨Y,Y,_,_,_,_,yW,a3l,a3m,by lia,d2⟩
     |false=>
      rw[aL (λq=>absurd (Rx.mpr q) i6)]at d2;have a3o:=a3j A.in1 ⟨aq,g,d,tk,os⟩ a t c u prog w
      wp_walk using a3o
      exact⟨_,Y,by simpa using d2⟩
  case fin=>
   rintro⟨b1,b2⟩ a_ ⟨s',rfl,vs,dk,l',yV,aR,Kp,pf,eY,d2⟩;simp only at s';subst s';have bk:lexLt l' yV=decide (items.size<rT.size):=by
    cases Kp with
    |nil=>cases pf with|nil=>simp only[uc]at eY;rw[a3f];exact(gW (by lia)).symm|cons c u hw=>simp only[uc,fX]at eY;rw[a3g];exact(eL (by lia)).symm
    |cons a t bk=>cases pf with|nil=>simp only[uc,fX]at eY;rw[a3h];exact(gW (by lia)).symm|cons c u hw=>rw[aiX]at aR;cases aR
   rw[bk]at d2
   wp_walk
   exact⟨_,Y,by simpa[am6]using d2⟩
  case h=>exact⟨Y,Y,items.toList,rT.toList,ns,cv,Y,hi,bY,by lia,h⟩
end
section
variable{prog:bP}{w:bG}{A:da}{E:ae->ay->Prop}{s:ay}
theorem a3p{l b:I}{items rT:Array ae}{ns cv:sl Int}{Q:ae->ay->Prop}(ar:Eh s.heap l items)(a0:Eh s.heap b rT)(hi:sI items.toList ns)(bY:sI rT.toList cv)(bx:A.units<uk)(h:Q (.bool (lexLt ns cv)) s):b7 (bp prog w) A (n5 .Lt (.ref l) (.ref b)) Q E s:=by
 obtain⟨⟨_,dd,_,aV⟩,aU,a7,n,hd⟩:=id ar;obtain⟨⟨_,Kn,_,Ko⟩,lz,Fh,cS,nk⟩:=id a0;simp only at a7 hd Fh nk;subst a7 hd Fh nk;exact richCompare_meets_room (op:=.Lt) ⟨_,aU,Y⟩ ⟨_,lz,Y⟩ PySem.F.slot_tuple_lt PySem.F.entry_tuple_lt (PySem.F.args_tuple_lt_2 _ _) (a3k l b items rT n cS dd Kn aV Ko ns cv hi bY)
  ⟨aU,lz,show n3 (lexLt ns cv)≠Value.notImplemented/\Q (.bool (lexLt ns cv)) s from⟨(λx=>nomatch x),h⟩⟩ bx
noncomputable def eA(n d:Nat):Iw Int->Nat
 |none=>d
 |some v=>if v<0 then(v+(n:Int)).toNat else min v.toNat n
theorem a3q(n d:Nat):eA n d aa=d:=rfl
theorem uM(n d k:Nat):eA n d (B (k:Int))=min k n:=by show(if(k:Int)<0 then((k:Int)+(n:Int)).toNat else min (k:Int).toNat n)=min k n;rw[aL (by lia),u9]
theorem Ry(n d:Nat)(hd:d<=n)(o:Iw Int):eA n d o<=n:=by
 cases o with
 |none=>exact hd
 |some v=>
  show(if v<0 then(v+(n:Int)).toNat else min v.toNat n)<=n;by_cases bk:v<0
  .rw[aZ bk];lia
  rw[aL bk];exact Ef _ _
end
end HT
namespace L2
open PySem PySem.Spec PyProof.Rows
abbrev g4:=St->ag->(Iw Int->ag->Prop)->Prop
def Fi(X:bA)(e:Iw bO)(t:g4):Prop:=
 ∀(a4:sl (I×bH))(s:ay)(G:St)(H:ag)(Q:Iw Int->ag->Prop),Inv X a4 G H s->t G H Q->b7 (bp X.prog X.w) X.A (evalPart e X.env) (λu a_=>∃o H',Inv X a4 G H' a_/\IsPart u o/\Q o H') X.bL s
def a3r:g4:=λ_ H Q=>Q aa H
def wF(t:bZ):g4:=λG H Q=>t G H λx ai=>∃i,x=.int i/\Q (B i) ai
theorem intsAre_of{ns:sl Int}:∀{us:sl ae},cC (ns.map V.int) us->sI us ns:=by
 induction ns with
 |nil=>intro us r;rw[vZ]at r;cases r;exact .nil
 |cons n ns ih=>intro us r;rw[ir]at r;cases r with|cons cx dT=>obtain⟨t,e⟩:=cx;subst e;exact .cons n t (ih dT)
variable{X:bA}{e:bO}{b_:bZ}{pos:Pos}
section
variable{lo hi:Iw bO}{dY th:g4}{eb:Pos}
theorem Kq:Fi X aa a3r:=by intro _ s G H Q D h;rw[ak5];exact eJ ⟨aa,H,D,.none,h⟩
theorem nq(h:bS X e b_):Fi X (B e) (wF b_):=by intro a4 s G H Q D hw;rw[evalPart_some];refine bW (h a4 s G H _ D hw) λu _ ⟨x,ai,aP,cx,bw⟩=>?_;obtain⟨i,rfl,q⟩:=bw;obtain⟨t,rfl⟩:=cx;exact⟨B i,ai,aP,.int i t,q⟩
def Kr(X:bA)(r:V->Iw Int->Iw Int->ag->c2->Prop):Prop:=
 ∀(a4:sl (I×bH))(s:ay)(G:St)(H:ag)(x:V)(v t2 t4:ae)(lo hi:Iw Int)(aV:I)(Q:c2),Inv X a4 G H s->RelV x v->s.heap.IsSliceOf aV t2 t4 .none->IsPart t2 lo->IsPart t4 hi->r x lo hi H Q->∃T id,pU (.type T) "__getitem__" =pure (B (.builtin id))/\s.TypeIs v T/\b7 (bp X.prog X.w) X.A (getItem v (.ref aV)) (h_ X a4 G Q) X.bL s
def Fj(r:V->Iw Int->Iw Int->ag->c2->Prop)(b_:bZ)(dY th:g4):bZ:=λG H Q=>b_ G H λx ai=>dY G ai λl au=>th G au λu bc=>r x l u bc Q
theorem t5{r:V->Iw Int->Iw Int->ag->c2->Prop}(ak:Kr X r)(aF:bS X e b_)(ar:Fi X lo dY)(bx:Fi X hi th):bS X (.Subscript e (.Slice lo hi aa eb) pos) (Fj r b_ dY th):=by intro a4 s G H Q D h;refine Subscript_ (bW (aF a4 s G H _ D h) λv s1 ⟨x,ai,aP,cx,bw⟩=>?_);refine wpAny_Slice (bW (ar a4 s1 G ai _ aP bw) λt2 s2 ⟨l,au,cM,pl,cy⟩=>bW (bx a4 s2 G au _ cM cy) λt4 bE ⟨u,bc,dJ,Bq,h9⟩=>?_);rw[ak5];refine eJ ?_;have f':Inv X a4 G bc {bE with heap:=bE.heap.push {cls:=.type "slice",data:=.fields #[t2,t4,.none]}}:=dJ.kept (t':=bE.toks) λb _ q=>ef _ q;obtain⟨T,_,dq,b9,aI⟩:=ak a4 {bE with heap:=bE.heap.push {cls:=.type "slice",data:=.fields #[t2,t4,.none]}} G bc x v t2 t4 l u bE⁻¹ Q f' cx (amw ..) pl Bq h9;show b7 (bp X.prog X.w) X.A (ajg e (.Slice lo hi aa eb) v (.ref bE⁻¹)) (h_ X a4 G Q) X.bL {bE with heap:=bE.heap.push {cls:=.type "slice",data:=.fields #[t2,t4,.none]}};exact tail_any (ops:=[.ref bE⁻¹,v]) b9 dq aI (by with_unfolding_all rfl)
def m1(xs:sl V)(lo hi:Iw Int):sl V:=(xs.drop (HT.eA xs.length 0 lo)).take (HT.eA xs.length xs.length hi-HT.eA xs.length 0 lo)
theorem a3s(xs:sl V)(lo hi:Iw Int):(m1 xs lo hi).length<=xs.length:=by
 unfold m1;rw[ko,m_]
 lia
end
noncomputable def qL(n:Nat)(i:Int):Iw Nat:=if 0<=i then(if i<n then B i.toNat else aa)else if -(n:Int)<=i then B (i+n).toNat else aa
variable{br:Type}
def ho(xs:sl br)(i:Int):Iw br:=(qL xs.length i).bind λj=>xs[j]?
variable{n:Nat}
theorem Rz{i:Int}{j:Nat}(h:qL n i=B j):seqIndex? i n=B j/\j<n/\ -(n:Int)<=i/\i<n:=by
 unfold qL at h;by_cases b8:0<=i
 .rw[aZ b8]at h;by_cases O:i<n
  .rw[aZ O]at h;have e:i.toNat=j:=h4 h;exact⟨by rw[a1F b8 O,e],by lia,by lia,O⟩
  rw[aL O]at h;cases h
 rw[aL b8]at h;by_cases O: -(n:Int)<=i
 .rw[aZ O]at h;have e:(i+n).toNat=j:=h4 h;exact⟨by rw[seqIndex_neg (by lia) O,e],by lia,O,by lia⟩
 rw[aL O]at h;cases h
theorem Ks{xs:sl br}{i:Int}{v:br}(h:ho xs i=B v):∃j,seqIndex? i xs.length=B j/\xs[j]? =B v/\j<xs.length/\ -(xs.length:Int)<=i/\i<xs.length:=by unfold ho at h;cases e:qL xs.length i with|none=>rw[e]at h;cases h|some j=>rw[e]at h;obtain⟨O,a5,aG,cJ⟩:=Rz e;exact⟨j,O,h,a5,aG,cJ⟩
theorem gw{xs:sl br}{j:Nat}{v:br}(h:xs[j]? =B v):ho xs (j:Int)=B v:=by
 have bY:j<xs.length:=(ei.mp h).1;have e:qL xs.length (j:Int)=B j:=by unfold qL;rw[aZ (by lia),aZ (by lia)];simp
 unfold ho;rw[e];exact h
theorem RA(xs:sl br)(v:br):ho (xs++[v]) (-1)=B v:=by
 have ar:(xs++[v]).length=xs.length+1:=by simp
 have e:qL (xs++[v]).length (-1)=B xs.length:=by
  unfold qL;rw[ar,aL dQ,aZ (by lia)];congr 1
  lia
 unfold ho;rw[e];show(xs++[v])[xs.length]? =B v;simp
def a3t(b:bO):Prop:=∀o i,subscripted b aK o i=operate [o,i] (getItem o i)
def Fl(X:bA)(r:p9):Prop:=
 ∀(lr Br:bO)(a4:sl (I×bH))(s:ay)(G:St)(H:ag)(x y:V)(v u:ae)(Q:c2),Inv X a4 G H s->RelV x v->RelV y u->r x y H Q->subscripted Br aK v u=operate [v,u] (getItem v u)->b7 (bp X.prog X.w) X.A (ajg lr Br v u) (h_ X a4 G Q) X.bL s
def yX(X:bA)(id:String)(r:V->sl V->ag->c2->Prop):Prop:=
 ∀(a4:sl (I×bH))(s:ay)(G:St)(H:ag)(x:V)(xs:sl V)(v:ae)(us:sl ae)(Q:c2),Inv X a4 G H s->RelV x v->cC xs us->r x xs H Q->b7 (bp X.prog X.w) X.A (n4 (.builtin id) (v::us)) (h_ X a4 G Q) X.bL s
variable{a4:sl (I×bH)}{G:St}{H:ag}{s:ay}{b6:sl ae}{A:da}{y:V}{u:ae}{fw k6:Pos}
section
variable{a b:bO}{c1 cf:bZ}
theorem dZ{r:p9}(ak:Fl X r)(bf:bS X a c1)(a0:bS X b cf)(ax:a3t b):bS X (.Subscript a b pos) (k2 r c1 cf):=by intro a4 s G H Q D h;exact Subscript_ (JZ bf a0 D h λv u s2 x y au cM ct cD q=>ak a b a4 s2 G au x y v u Q cM ct cD q (ax _ _))
inductive Kt (K:bb) (x:V) (y:V) (H:ag) (Q:c2):Prop
 |mk p xs i v:x=.ref p->y=.int i->bo K H p xs->ho xs i=B v->Q v H->Kt K x y H Q
inductive RB (K:bb) (x:V) (y:V) (H:ag) (Q:c2):Prop
 |mk p xs i v:x=.ref p->y=.int i->dt K H p xs->ho xs i=B v->Q v H->RB K x y H Q
inductive Ku (x:V) (y:V) (H:ag) (Q:c2):Prop
 |mk z i c:x=.str z->y=.int i->z.length<=cN->ho z.cps.toList i=B c->Q (.str ⟨#[c]⟩) H->Ku x y H Q
theorem hL:Fl X (Kt X.K):=by
 intro _ _ a4 s G H x y v u Q D ct cD h ax;obtain⟨p,_,i,z,rfl,rfl,aQ,aF,q⟩:=h;cases ct;obtain⟨t,rfl⟩:=cD;obtain⟨b6,r,pl,_⟩:=D.list aQ;obtain⟨j,O,a5,_,cJ,f7⟩:=Ks aF;obtain⟨w,t6,Bs⟩:=r.get a5;have ar:=r.length;have aH:=yQ;have fin:h_ X a4 G Q w s:=⟨z,H,D,Bs,q⟩;by_cases b8:0<=i
 .have bY:i.toNat=j:=by rw[a1F b8 f7]at O;exact h4 O
  exact item_listR pl.isList b8 (by lia) (by rw[bY];simpa using t6) fin ax
 have bY:(i+(b6.toArray.size:Int)).toNat=j:=by rw[seqIndex_neg (by lia) cJ]at O;rw[j4,<-ar];exact h4 O
 exact ajh (x:=w) pl.isList.typeIs akc.lookup
  (wpAny_getItem_list_neg (Q:=λr a_=>r=w/\h_ X a4 G Q r a_) pl.isList (by lia) (by rw[j4]<;>lia) (by lia) (by rw[bY];simpa using t6) ⟨Y,fin⟩) ax
theorem m2:Fl X (RB X.K):=by
 intro _ _ a4 s G H x y v u Q D ct cD h ax;obtain⟨p,_,i,z,rfl,rfl,aQ,aF,q⟩:=h;cases ct;obtain⟨t,rfl⟩:=cD;obtain⟨_,r,pl,_⟩:=D.tuple aQ;obtain⟨j,O,a5,_,_,_⟩:=Ks aF;obtain⟨w,t6,Bs⟩:=r.get a5;have ar:=r.length;have aH:=yQ;have fin:h_ X a4 G Q w s:=⟨z,H,D,Bs,q⟩;exact ajh (x:=w) pl.typeIs slot_tuple_getitem.lookup
  (getItem_tuple (j:=j) (Q:=λr a_=>r=w/\h_ X a4 G Q r a_) pl (by lia) (by lia) (by rw[j4,<-ar];exact O) (by simpa using t6) ⟨Y,fin⟩) ax
theorem nr:Fl X Ku:=by
 intro _ _ _ s G H x y v u Q D ct cD h ax;obtain⟨z,i,c,rfl,rfl,_,aF,q⟩:=h;obtain⟨t,rfl⟩:=ct;obtain⟨_,rfl⟩:=cD;obtain⟨j,O,a5,_,cJ,f7⟩:=Ks aF;have ar:z.cps.toList.length=z.length:=by simp[Str.length]
 rw[ar]at O cJ f7;have aH:=yQ;exact tail_any (Qe s z t) slot_str_getitem.lookup (getItem_str (c:=c) (by have aO:decide (i< -(2^63:Int))=aK:=gW (by lia);have aT:decide (i≥2^63)=aK:=gW (by lia);rw[aO,aT,aiw]) (by rw[O];simpa using a5) ⟨.str ⟨#[c]⟩,H,D.tok _,⟨_,Y⟩,q⟩) ax
theorem a3u(b6:sl ae)(n j:Nat)(u:ae):J4 (·.setIfInBounds j u) {cls:=.type "list",data:=.seq b6.toArray n}={cls:=.type "list",data:=.seq (b6.set j u).toArray n}:=by simp[J4]
theorem Inv.lst{p:I}{xs:sl V}(D:Inv X a4 G H s)(h:H p=B (.lst xs)):∃(b6:sl ae)(n:Nat),cC xs b6/\s.heap.get? p=B {cls:=.type "list",data:=.seq b6.toArray n}/\xs.length<=cN:=by obtain⟨z,b6,n,r,e⟩:=D.bQ p _ h;exact⟨b6,n,r,e,z⟩
theorem Inv.a3v{p:I}{xs ys:sl V}{ng:sl ae}{rO:Nat}{f:bH->bH}(D:Inv X a4 G H s)(h:H p=B (.lst xs))(aU:s.heap.get? p=B {cls:=.type "list",data:=.seq b6.toArray n})(hf:f {cls:=.type "list",data:=.seq b6.toArray n}={cls:=.type "list",data:=.seq ng.toArray rO})(r:cC ys ng)(aR:ys.length<=cN)(t:Nat):Inv X a4 G (av H p (.lst ys)) {s with heap:=s.heap.update p f,toks:=t}:=by
 have e:(s.heap.update p f).get? p=B {cls:=.type "list",data:=.seq ng.toArray rO}:=by rw[rz f aU (by rw[hf]<;>rfl),hf]
 refine D.write (x:=p) (e:=p) (by rw[h];trivial) (.inl Y) (λb u a0 q=>(nN _ _ (ej a0)).trans q) ⟨_,e⟩ ?_;exact⟨aR,ng,rO,r,e⟩
inductive RC (o:V) (i:V) (v:V) (H:ag) (Q:(ag->Prop)):Prop
 |mk p xs k j:o=.ref p->i=.int k->H p=B (.lst xs)->qL xs.length k=B j->Q (av H p (.lst (xs.set j v)))->RC o i v H Q
theorem Fm:QU X RC:=by
 intro a4 s G H o i v _ _ u Q D fJ el cB h;obtain⟨p,xs,k,j,rfl,rfl,aq,bY,q⟩:=h;cases fJ;obtain⟨t,rfl⟩:=el;obtain⟨b6,n,r,aU,aR⟩:=D.lst aq;obtain⟨O,_,aG,cJ⟩:=Rz bY;have ar:=r.length;have aH:=yQ;have et:Inv X a4 G (av H p (.lst (xs.set j v))) {s with heap:=s.heap.update p (J4 (·.setIfInBounds j u))}:=
  D.a3v aq aU (a3u b6 n j u) (r.set cB j) (by rw[qy];exact aR) s.toks
 by_cases b8:0<=k
 .have aA:k.toNat=j:=by rw[a1F b8 cJ]at O;exact h4 O
  exact PySem.W.ki_setAt aU b8 (by lia) (by rw[j4,<-ar];exact cJ) (by rw[aA];exact⟨_,et,q⟩)
 have aA:(k+(b6.toArray.size:Int)).toNat=j:=by rw[seqIndex_neg (by lia) aG]at O;rw[j4,<-ar];exact h4 O
 exact PySem.W.ki_setBack aU (by lia) (by rw[j4,<-ar];exact aG) (by lia) (by rw[aA];exact⟨_,et,q⟩)
theorem a3w(lo hi:Iw Int)(n:Nat):(AZ lo hi aa n).1=((HT.eA n 0 lo:Nat):Int)/\(AZ lo hi aa n).2.1=((HT.eA n n hi:Nat):Int)/\(AZ lo hi aa n).2.2=1:=by
 refine⟨?_,?_,Y⟩
 .cases lo with
  |none=>simp[AZ,HT.eA]
  |some i=>
   simp only[AZ,HT.eA,aja,show(1:Int)>0 by decide,jO];by_cases h:i<0
   .simp only[h,jO]<;>lia
   simp only[h,jN]<;>lia
 cases hi with
 |none=>simp[AZ,HT.eA]
 |some i=>
  simp only[AZ,HT.eA,aja,show(1:Int)>0 by decide,jO];by_cases h:i<0
  .simp only[h,jO]<;>lia
  simp only[h,jN]<;>lia
theorem a3x(b6:sl ae)(lo hi:Iw Int):slicePick b6.toArray lo hi aa=((b6.drop (HT.eA b6.length 0 lo)).take (HT.eA b6.length b6.length hi-HT.eA b6.length 0 lo)).toArray:=by obtain⟨O,a5,aG⟩:=a3w lo hi b6.toArray.size;unfold slicePick;rw[O,a5,aG];simp only[sliceRange_one,pick_run,j4]<;>rfl
def Fn(K:bb):V->Iw Int->Iw Int->ag->c2->Prop:=λx lo hi H Q=>∃a xs,x=.ref a/\bo K H a xs/\∀p,H p=aa->Q (.ref p) (av H p (.lst (m1 xs lo hi)))
theorem uN:Kr X (Fn X.K):=by intro _ s G H x v _ _ lo hi _ Q D ct ax pl Bq h;obtain⟨a,xs,rfl,ah,q⟩:=h;cases ct;obtain⟨_,r,b9,aR⟩:=D.list ah;have eY:=r.length;refine⟨"list",_,akc.lookup,b9.isList.typeIs,?_⟩;refine wpAny_getItem_list_slice b9.isList ax pl Bq .none (by simp) ?_ (by rw[j4]<;>lia);rw[a3x,<-eY];refine⟨.ref s⁻¹,_,D.laid (t':=s.toks) (o:=.lst (m1 xs lo hi)) (λb _ q=>ef _ q) (cP _) ?_,Y,q _ (D.bQ.fresh (cP _))⟩;exact⟨dE (a3s xs lo hi) aR,_,0,(r.drop (HT.eA xs.length 0 lo)).take (HT.eA xs.length xs.length hi-HT.eA xs.length 0 lo),hW _ Y⟩
def uO:V->Bool
 |.bR=>a9
 |.c3 _=>a9
 |.int _=>a9
 |.str _=>a9
 |_=>aK
noncomputable def rU:V->V->Bool
 |.bR,.bR=>a9
 |.c3 a,.c3 b=>a==b
 |.c3 a,.int b=>(if a then 1 else 0)==b
 |.int a,.c3 b=>a==(if b then 1 else 0)
 |.int a,.int b=>a==b
 |.str a,.str b=>a==b
 |_,_=>aK
theorem a3y{x:V}{v:ae}(cD:RelV y u)(ct:RelV x v)(a3z:uO y=a9)(kW:uO x=a9):a1l A s u v (rU y x):=by
 cases y with
 |bR=>cases cD;cases x with|bR=>cases ct;exact amG _|c3 b=>cases ct;exact amD b|int b=>obtain⟨t,rfl⟩:=ct;exact amE b t|str b=>obtain⟨t,rfl⟩:=ct;exact amF b t|_=>exact absurd (show aK=a9 from kW) i6
 |c3 a=>cases cD;cases x with|bR=>cases ct;exact amz a|c3 b=>cases ct;exact amx a b|int b=>obtain⟨t,rfl⟩:=ct;exact amy a b t|str b=>obtain⟨t,rfl⟩:=ct;exact amA a b t|_=>exact absurd (show aK=a9 from kW) i6
 |int a=>obtain⟨t',rfl⟩:=cD;cases x with|bR=>cases ct;exact amC a t'|c3 b=>cases ct;exact amB a t' b|int b=>obtain⟨t,rfl⟩:=ct;exact ajD a t' b t|str b=>obtain⟨t,rfl⟩:=ct;exact ajE a t' b t|_=>exact absurd (show aK=a9 from kW) i6
 |str a=>obtain⟨t',rfl⟩:=cD;cases x with|bR=>cases ct;exact amI a t'|c3 b=>cases ct;exact amH a t' b|int b=>obtain⟨t,rfl⟩:=ct;exact ajF a t' b t|str b=>obtain⟨t,rfl⟩:=ct;exact amJ a t' b t|_=>exact absurd (show aK=a9 from kW) i6
 |_=>exact absurd (show aK=a9 from a3z) i6
def t7(x:V)(u:ae):Bool:=match u with
 |.none=>rU .bR x
 |.bool b=>rU (.c3 b) x
 |.int i _=>rU (.int i) x
 |.str z _=>rU (.str z) x
 |_=>aK
theorem RD{x:V}(r:RelV y u)(f:uO y=a9):t7 x u=rU y x:=by cases y with|bR=>cases r;rfl|c3 b=>cases r;rfl|int i=>obtain⟨t,rfl⟩:=r;rfl|str z=>obtain⟨t,rfl⟩:=r;rfl|_=>exact absurd (show aK=a9 from f) i6
theorem Kv{x:V}:∀{xs:sl V}{us:sl ae},cC xs us->xs.all uO=a9->us.any (t7 x)=xs.any λy=>rU y x
 |_,_,.nil,_=>rfl
 |y::xs,u::us,.cons r t,f=>by rw[PB,j3]at f;rw[Aw,Aw,RD r f.1,Kv t f.2]
theorem Kw{A:da}{s:ay}{x:V}{v:ae}(ct:RelV x v)(kW:uO x=a9):∀{xs:sl V}{us:sl ae},cC xs us->xs.all uO=a9->∀u∈us,a1l A s u v (t7 x u)
 |_,_,.nil,_=>λu bx=>by cases bx
 |y::xs,u::us,.cons r t,f=>λwk bx=>by
  rw[PB,j3]at f;obtain rfl|bx:=dz.mp bx
  .rw[RD r f.1];exact a3y r ct f.1 kW
  exact Kw ct kW t f.2 wk bx
def Bt(x:V)(xs:sl V):Bool:=xs.any λy=>rU y x
inductive RE (K:bb) (neg:Bool) (x:V) (y:V) (H:ag) (Q:c2):Prop
 |mk p xs:y=.ref p->(bo K H p xs∨dt K H p xs)->uO x=a9->xs.all uO=a9->Q (.c3 (if neg then !Bt x xs else Bt x xs)) H->RE K neg x y H Q
theorem a3A:hB X (n5 .In) (RE X.K aK):=by
 intro _ s G H x y v u Q D ct cD h;obtain⟨p,_,rfl,aQ,kW,fs,q⟩:=h;cases cD;obtain aQ|aQ:=aQ
 .obtain⟨b6,r,pl,aR⟩:=D.list aQ;refine SeqAt.in_listAt (t7 x) pl.isList (λw hw=>Kw ct kW r fs w (by simpa using hw)) ⟨.c3 _,H,D,Y,?_⟩;rw[show b6.toArray.any (t7 x)=b6.any (t7 x) by simp,Kv r fs];exact q
 obtain⟨b6,r,pl,aR⟩:=D.tuple aQ;refine SeqAt.in_tupleAt (t7 x) pl (λw hw=>Kw ct kW r fs w (by simpa using hw)) ⟨.c3 _,H,D,Y,?_⟩;rw[show b6.toArray.any (t7 x)=b6.any (t7 x) by simp,Kv r fs];exact q
theorem jc:q0 X (.builtin "len") (λxs H Q=>∃p ys,xs=[.ref p]/\(bo X.K H p ys∨dt X.K H p ys)/\Q (.int ys.length) H):=by
 intro _ s G H xs _ Q D r h;obtain⟨p,ys,rfl,aQ,q⟩:=h;obtain⟨u,rfl,ct⟩:=vals1 r;cases ct;have aH:=yQ;obtain aQ|aQ:=aQ
 .obtain⟨b6,g7,pl,aR⟩:=D.list aQ;have eY:=g7.length;exact Calls.call_len_list pl.isList (by simp only[j4]<;>lia) ⟨.int ys.length,H,D.tok _,⟨s.toks+1,by rw[j4,eY]⟩,q⟩
 obtain⟨b6,g7,pl,aR⟩:=D.tuple aQ;have eY:=g7.length;exact len_tuple pl (by simp only[j4]<;>lia) ⟨.int ys.length,H,D.tok _,⟨s.toks+1,by rw[j4,eY]⟩,q⟩
theorem Fo:q0 X (.builtin "len") (λxs H Q=>∃z,xs=[.str z]/\z.length<=cN/\Q (.int z.length) H):=by intro _ s G H xs _ Q D r h;obtain⟨z,rfl,_,q⟩:=h;obtain⟨u,rfl,t,rfl⟩:=vals1 r;have aH:=yQ;exact len_str (by lia) ⟨.int z.length,H,D.tok _,⟨_,Y⟩,q⟩
def Kx(K:bb)(T:String)(x:V)(H:ag):Prop:=match x with
 |.str _=>T="str"
 |.int _=>T="int"
 |.ref p=>(T="list"/\∃xs,bo K H p xs)∨(T="tuple"/\∃o,K.lookup p=B o/\o.cls=.type "tuple"/\o.dict=aa)∨
   (T="dict"/\((∃aW,H p=B (.oW aW))∨∃aW,H p=B (.gf aW)))∨(T="set"/\∃S n,H p=B (.set S n))
 |_=>False
theorem RF{T:String}{x:V}{v:ae}(D:Inv X a4 G H s)(r:RelV x v)(ty:Kx X.K T x H):s.TypeIs v T/\∀a,v=.ref a->∃cG,s.heap.get? a=B cG/\cG.dict=aa:=by
 cases x with
 |str z=>obtain⟨t,rfl⟩:=r;cases(show T="str" from ty);exact⟨Qe s z t,λ_ e=>nomatch e⟩
 |int i=>obtain⟨t,rfl⟩:=r;cases(show T="int" from ty);exact⟨a1I s i t,λ_ e=>nomatch e⟩
 |ref p=>
  cases r;obtain⟨rfl,xs,aQ⟩|⟨rfl,o,aA,a7,hd⟩|⟨rfl,aA⟩|⟨rfl,S,n,aA⟩:=ty
  .obtain⟨_,_,pl,_⟩:=D.list aQ;refine⟨pl.isList.typeIs,λa e=>?_⟩;cases e;obtain⟨o,n,e,c,hd,_⟩:=pl;exact⟨o,e,hd⟩
  .refine⟨⟨o,D.gX p o aA,a7⟩,λa e=>?_⟩;cases e;exact⟨o,D.gX _ o aA,hd⟩
  .have z:∃o,s.heap.get? p=B o/\o.ExactDict:=by
    obtain⟨aW,aA⟩|⟨aW,aA⟩:=aA
    .obtain⟨_,_,_,_,o,_,_,e,ex,_⟩:=D.bQ p _ aA;exact⟨o,e,ex⟩
    obtain⟨_,_,_,_,o,_,_,e,ex,_⟩:=D.bQ p _ aA;exact⟨o,e,ex⟩
   obtain⟨o,e,ex⟩:=z;refine⟨⟨o,e,ex.1⟩,λa aT=>?_⟩;cases aT;exact⟨o,e,ex.2.1⟩
  obtain⟨o,_,_,_,e,ex,_⟩:=D.bQ p _ aA;refine⟨⟨o,e,ex.1⟩,λa aT=>?_⟩;cases aT;exact⟨o,e,ex.2.1⟩
 |_=>exact hu ty
def a3B(K:bb)(T:String)(r:V->sl V->ag->c2->Prop)(to:bZ):bZ:=λG H Q=>to G H λx ai=>Kx K T x ai/\r x [] ai Q
def a3C(K:bb)(T:String)(r:V->sl V->ag->c2->Prop)(to:bZ)(t:gA):bZ:=λG H Q=>to G H λx ai=>Kx K T x ai/\t G ai λxs au=>r x xs au Q
variable{o:bO}{b5:sl bO}{to:bZ}{t:gA}{name:a8}{T id:String}{r:V->sl V->ag->c2->Prop}
theorem Ky(lA:PlainAttrs T)(slot:Slot T name id)(uP:typeOf (.builtin id)=pure (.type "method_descriptor"))(hm:yX X id r)(aU:bS X o to)(qM:yi o name X.env (eval o X.env)=eval o X.env:=by rfl)(wG:(fw.endLine==k6.line)=a9:=by rfl):bS X (.Call (.Attribute o name fw) [] [] k6) (a3B X.K T r to):=by intro a4 s G H Q D h;refine wpAny_Call_method0_late qM wG (bW (aU a4 s G H _ D h) λv s1 ⟨x,ai,aP,cx,ty,bw⟩=>?_);obtain⟨O,a5⟩:=RF aP cx ty;exact⟨T,id,lA,slot,uP,O,a5,PU Y (PySem.evalArgs_none (hm a4 s1 G ai x [] v [] Q aP cx .nil bw))⟩
theorem q1(lA:PlainAttrs T)(slot:Slot T name id)(uP:typeOf (.builtin id)=pure (.type "method_descriptor"))(hm:yX X id r)(aU:bS X o to)(bf:hI X (e::b5) t)(qM:yi o name X.env (eval o X.env)=eval o X.env:=by rfl)(a3D:((lS k6 (fI (e::b5) X.env)).all (λx=>!x.1)&&(uj k6 (um [] X.env)).all (λx=>x.1.isSome)&&decide ((e::b5).length+([]:sl J3).length+(if([]:sl J3).isEmpty then 0 else 1)<30))=a9:=by rfl)(wG:(fw.endLine==k6.line)=a9:=by rfl)(ax:fI (e::b5) X.env=(aK,eval e X.env)::fI b5 X.env:=by rfl)(a3E:(lS k6 (fI b5 X.env)).any (·.1)=aK:=by rfl):
  bS X (.Call (.Attribute o name fw) (e::b5) [] k6) (a3C X.K T r to t):=by
 intro a4 s G H Q D h;refine wpAny_Call_method_late qM a3D wG Y (bW (aU a4 s G H _ D h) λv s1 ⟨x,ai,aP,cx,ty,bw⟩=>?_);obtain⟨O,a5⟩:=RF aP cx ty;refine⟨T,id,lA,slot,uP,O,a5,?_⟩;have yY:=bf k6 a4 s1 G ai _ aP bw;rw[ax]at yY ⊢;refine PU (by show(aK||(lS k6 (fI b5 X.env)).any (·.1))=aK;rw[a3E]<;>rfl) (a1c ?_);exact bW yY λus s2 ⟨vs,au,cM,dT,cy⟩=>hm a4 s2 G au x vs v us Q cM cx dT cy
end
def Kz(X:bA)(id:String)(r:V->sl V->ag->c2->Prop):Prop:=
 ∀(a4:sl (I×bH))(s:ay)(G:St)(H:ag)(x:V)(xs:sl V)(v:ae)(us:sl ae)(Q:c2),Inv X a4 G H s->RelV x v->cC xs us->r x xs H Q->b7 (bp X.prog X.w) X.A (n4 (.builtin id) (v::us)) (h_ X a4 G Q) X.bL s
theorem cC.one:∀{x:V}{us:sl ae},cC [x] us->∃u,us=[u]/\RelV x u
 |_,_,.cons r .nil=>⟨_,Y,r⟩
theorem cC.zero:∀{us:sl ae},cC [] us->us=[]
 |_,.nil=>rfl
theorem cC.dropLast{xs:sl V}{us:sl ae}(h:cC xs us):cC xs.dropLast us.dropLast:=by
 induction h with
 |nil=>exact .nil
 |cons r t ih=>cases t with|nil=>exact .nil|cons q t'=>exact .cons r ih
theorem cC.rep{xs:sl V}{us:sl ae}(h:cC xs us):∀k:Nat,cC (hV k xs).flatten (hV k us).flatten
 |0=>.nil
 |k+1=>by rw[AH,AH,E9,E9];exact cC.append h (cC.rep h k)
theorem a3F(l:sl br):l.eraseIdx (l.length-1)=l.dropLast:=by
 induction l with
 |nil=>rfl
 |cons a r ih=>
  cases r with
  |nil=>rfl
  |cons b r=>
   have e:(a::b::r).length-1=((b::r).length-1)+1:=by
    have O:(a::b::r).length=r.length+2:=rfl;have a5:(b::r).length=r.length+1:=rfl
    lia
   rw[e,List.eraseIdx_cons_succ,ih];all_goals rfl
theorem foldl_rep(b6:sl ae):∀(k:Nat)(bK:sl ae),a0D (λeM eG=>eM++eG) bK.toArray (hV k b6.toArray)=(bK++(hV k b6).flatten).toArray
 |0,bK=>by simp
 |k+1,bK=>by
  have e:bK.toArray++b6.toArray=(bK++b6).toArray:=by simp
  have aT:(bK++b6)++(hV k b6).flatten=bK++(hV (k+1) b6).flatten:=by rw[AH,E9,lP]
  rw[<-aT,<-foldl_rep b6 k (bK++b6),<-e,AH,vX]
section
variable{l b:I}{xs ys zs:sl V}
theorem Inv.KA{ng:sl ae}{f:Array ae->Array ae}{t':Nat}(D:Inv X a4 G H s)(kX:H l=B (.lst xs))(e:s.heap.get? l=B {cls:=.type "list",data:=.seq b6.toArray n})(hf:f b6.toArray=ng.toArray)(bk:cC ys ng)(aR:ys.length<=cN):Inv X a4 G (av H l (.lst ys)) {s with heap:=s.heap.update l (J4 f),toks:=t'}:=by have q:=PySem.IsL.update e f;rw[hf]at q;refine D.write (x:=l) (e:=l) (by rw[kX];exact trivial) (.inl Y) (λ_ u a0 bx=>(nN s.heap (J4 f) (ej a0)).trans bx) ⟨_,q⟩ ?_;exact⟨aR,ng,_,bk,q⟩
theorem Inv.RG{t':Nat}(D:Inv X a4 G H s)(bk:cC ys b6)(aR:ys.length<=cN):Inv X a4 G (av H s⁻¹ (.lst ys)) {s with heap:=s.heap.push {cls:=.type "list",data:=.seq b6.toArray},toks:=t'}:=
 D.laid (λ_ _ q=>ef _ q) (cP _) ⟨aR,b6,0,bk,hW _ Y⟩
theorem Inv.fresh(D:Inv X a4 G H s):H s⁻¹=aa:=D.bQ.fresh (cP _)
theorem Inv.wH(D:Inv X a4 G H s)(kX:H l=B (.lst xs)):xs.length<=cN/\∃(b6:sl ae)(n:Nat),cC xs b6/\xs.length=b6.length/\s.heap.get? l=B {cls:=.type "list",data:=.seq b6.toArray n}:=by obtain⟨z,b6,n,r,e⟩:=D.bQ l _ kX;exact⟨z,b6,n,r,r.length,e⟩
theorem RH(h:n<=cN):PT n=aK:=by unfold PT;exact gW (by lia)
end
inductive RI (x:V) (vs:sl V) (H:ag) (Q:c2):Prop
 |mk l xs y:x=.ref l->vs=[y]->H l=B (.lst xs)->xs.length<cN->Q .bR (av H l (.lst (xs++[y])))->RI x vs H Q
theorem t8:Kz X "list.append" RI:=by
 intro _ s G H x _ v _ Q D ct cB h;obtain⟨l,_,y,rfl,rfl,kX,_,q⟩:=h;cases ct;obtain⟨u,rfl,hk⟩:=cB.one;obtain⟨z,b6,n,r,_,e⟩:=D.wH kX;refine Ja uf ⟨_,e,Y⟩ F.entry_list_append (F.args_list_append_2 _ _) (PySem.list_append l b6.toArray n u (by rw[j4];lia)) ⟨e,?_⟩;refine⟨.bR,_,D.KA (ng:=b6++[u]) kX e (by simp) (r.append (.cons hk .nil)) ?_,Y,q⟩;rw[dh,gy]
 lia
def a3G:V->sl V->ag->c2->Prop:=λx vs H Q=>∃l b xs zs,x=.ref l/\vs=[.ref b]/\H l=B (.lst xs)/\H b=B (.lst zs)/\xs.length+zs.length<=cN/\Q .bR (av H l (.lst (xs++zs)))
theorem KC:Kz X "list.extend" a3G:=by
 intro _ s G H x _ v _ Q D ct cB h;obtain⟨l,b,_,_,rfl,rfl,kX,nt,_,q⟩:=h;cases ct;obtain⟨u,rfl,hk⟩:=cB.one;cases hk;obtain⟨z,b6,n,r,_,e⟩:=D.wH kX;obtain⟨_,nu,cS,dT,_,aT⟩:=D.wH nt;have hsz:b6.toArray.size+nu.toArray.size<=cN:=by rw[j4,j4];lia
 have KD:¬(!b6.toArray.isEmpty&&PT (b6.toArray.size+nu.toArray.size))=a9:=by rw[RH hsz,aiv];exact i6
 refine Ja PY ⟨_,e,Y⟩ F.entry_list_extend (F.args_list_extend_2 _ _)
  (AutoSeq1.list_extend_list_list_0 l b6.toArray n b nu.toArray cS KD (by rw[j4];lia) (by lia)) ⟨e,aT,?_⟩
 refine⟨.bR,_,D.KA (ng:=b6++nu) kX e (by simp) (r.append dT) ?_,Y,q⟩;rw[dh]
 lia
inductive RJ (x:V) (vs:sl V) (H:ag) (Q:c2):Prop
 |mk l xs y:x=.ref l->vs=[]->H l=B (.lst xs)->xs[xs.length-1]? =B y->Q y (av H l (.lst xs.dropLast))->RJ x vs H Q
theorem KG:Kz X "list.pop" RJ:=by
 intro _ s G H x _ v _ Q D ct cB h;obtain⟨l,_,y,rfl,rfl,kX,bl,q⟩:=h;cases ct;have a3H:=cB.zero;subst a3H;obtain⟨z,b6,n,r,ar,e⟩:=D.wH kX;obtain⟨u,bx,hk⟩:=r.get bl;have KH:b6.toArray[b6.toArray.size-1]? =B u:=by show b6.toArray[b6.length-1]? =B u;rw[<-ais,<-ar];exact bx
 refine Ja PZ ⟨_,e,Y⟩ F.entry_list_pop (F.args_list_pop_1 _) (MeetsSeq.list_pop_last l b6.toArray n u KH (by rw[j4];lia)) ⟨e,?_⟩;refine⟨y,_,D.KA (ng:=b6.dropLast) kX e ?_ r.dropLast ?_,hk,q⟩
 .show b6.toArray.eraseIdxIfInBounds (b6.toArray.size-1)=b6.dropLast.toArray;rw[j4,List.eraseIdxIfInBounds_toArray,a3F]
 rw[aiQ]
 lia
inductive RK (x:V) (y:V) (H:ag) (Q:c2):Prop
 |mk l b xs zs:x=.ref l->y=.ref b->H l=B (.lst xs)->H b=B (.lst zs)->xs.length+zs.length<=cN->(∀p,H p=aa->Q (.ref p) (av H p (.lst (xs++zs))))->RK x y H Q
theorem oa:hB X (sM .Add) RK:=by
 intro _ s G H x y v u Q D ct cD h;obtain⟨l,b,_,_,rfl,rfl,kX,nt,_,q⟩:=h;cases ct;cases cD;obtain⟨z,b6,n,r,_,e⟩:=D.wH kX;obtain⟨_,nu,_,dT,_,aT⟩:=D.wH nt;refine PySem.P.add_list e aT ?_ (by rw[j4,j4];lia);have jw:b6.toArray++nu.toArray=(b6++nu).toArray:=by simp
 rw[jw];exact⟨.ref _,_,D.RG (t':=s.toks) (r.append dT) (by rw[dh];lia),Y,q _ D.fresh⟩
def a3I:p9:=λx y H Q=>∃l k xs,x=.ref l/\y=.int k/\H l=B (.lst xs)/\ -(2^63)<=k/\k<2^63/\xs.length*k.toNat<=cN/\∀p,H p=aa->Q (.ref p) (av H p (.lst (hV k.toNat xs).flatten))
theorem a3J(xs:sl br)(k:Nat):(hV k xs).flatten.length=k*xs.length:=by induction k with|zero=>simp|succ k ih=>rw[AH,E9,dh,ih,Nat.succ_mul,aiY]
theorem a3K:hB X (sM .Mult) a3I:=by
 intro _ s G H x y v u Q D ct cD h;obtain⟨l,k,_,rfl,rfl,kX,O,a5,aR,q⟩:=h;cases ct;obtain⟨t,rfl⟩:=cD;obtain⟨z,b6,n,r,ar,e⟩:=D.wH kX;have eY:b6.toArray.size*k.toNat<=cN:=by rw[j4,<-ar];exact aR
 have a3L:¬b6.toArray.size*k.toNat>(2^63-1)/8:=by
  have:(cN:Nat)<=(2^63-1)/8:=by decide
  lia
 have a3M:¬(!Builtin.List.listFitsIndex k)=a9:=by rw[fitsIndex_both O a5];exact i6
 have KD:¬PT (b6.toArray.size*k.toNat)=a9:=by rw[RH eY];exact i6
 have Bu:a0D (λeM eG=>eM++eG) #[] (hV (if b6.toArray.isEmpty=a9 then 0 else k.toNat) b6.toArray)=(hV k.toNat b6).flatten.toArray:=by
  have f_:∀m:Nat,a0D (λeM eG=>eM++eG) #[] (hV m b6.toArray)=(hV m b6).flatten.toArray:=λm=>by have:=foldl_rep b6 m [];rw[Ec]at this;exact this
  rw[f_];cases b6 with|nil=>simp|cons a g7=>rw[aL (by simp)]
 refine wpAny_binaryOp_repeat_ref (T:="list") (U:="int") dQ ⟨_,e,Y⟩ (λa_=>a1I a_ k t) noFill_list_mul F.fills_int_mul ajv repeat_list F.slot_int_index.lookup
  (Ja ajv (a1I s k t) F.entry_int_rmul (F.args_int_rmul_2 _ _) (int___rmul___int_list k t l b6.toArray n) ⟨e,Y,⟨_,e,Y⟩,Ja F.slot_list_mul ⟨_,e,Y⟩ F.entry_list_mul (F.args_list_mul_2 _ _) (AutoListH.list___mul___list_int_3 l b6.toArray n k t a3M a3L KD) ⟨e,?_⟩⟩)
 rw[Bu];exact⟨.ref _,_,D.RG (t':=s.toks) (r.rep k.toNat) (by rw[a3J,Nat.mul_comm];exact aR),Y,q _ D.fresh⟩
variable{prog:bP}{w:bG}{E:ae->ay->Prop}
theorem cC.ints:∀{ns:sl Int}{us:sl ae},cC (ns.map V.int) us->sI us ns
 |[],us,h=>by rw[vZ]at h;cases h;exact IntsAre.nil
 |n::ns,us,h=>by rw[ir]at h;cases h with|cons r t=>obtain⟨k,rfl⟩:=r;exact IntsAre.cons n k (cC.ints t)
theorem RL:∀{us:sl ae}{ns:sl Int},sI us ns->cC (ns.map V.int) us
 |_,_,.nil=>by rw[vZ];exact Paired.nil
 |_,_,.cons n t h=>by rw[ir];exact Paired.cons (show RelV (V.int n) (w6 n t)from⟨t,Y⟩) (RL h)
theorem cC.RM:∀{bs:sl Bool}{us:sl ae},cC (bs.map V.c3) us->us=bs.map n3
 |[],us,h=>by rw[vZ]at h;cases h;rfl
 |b::bs,us,h=>by rw[ir]at h;cases h with|cons r t=>cases r;rw[cC.RM t,ir]
variable{a:I}
theorem cC.KI{us:sl ae}(r:cC [V.ref a] us):us=[dO a]:=by cases r with|cons r t=>cases t;cases r;rfl
variable{Q:ae->ay->Prop}
def RN(K:bb):sl V->ag->c2->Prop:=λvs H Q=>∃(a:I)(ns:sl Int),vs=[V.ref a]/\bo K H a (ns.map V.int)/\ns.length<64/\∀(l':sl Int)(p:I),l'.Perm ns->l'.Pairwise (·<=·)->H p=aa->Q (.ref p) (av H p (.lst (l'.map V.int)))
theorem a3N(h:n<64):n<=cN:=by rw[Qc];lia
theorem RO:q0 X (.builtin "sorted") (RN X.K):=by
 intro _ s G H _ _ Q D r h;obtain⟨a,_,rfl,ax,Fp,q⟩:=h;obtain⟨b6,cB,ar,_⟩:=D.list ax;rw[cC.KI r];have hi:=cB.ints;refine am4 ar.isList hi (by rw[hi.length];exact Fp) λob l' O a5 aG=>?_;obtain⟨fZ,wI⟩:=am2 s.heap b6 ob;have eY:(l'.map V.int).length<=cN:=by rw[cX,a5.length_eq];exact a3N Fp
 exact⟨.ref _,av H (s⁻¹+1) (.lst (l'.map V.int)),D.laid (t':=s.toks) (λ_ _=>am3) (sH _) ⟨eY,ob.toList,fZ,RL O,wI⟩,Y,q l' _ a5 aG (D.bQ.fresh (sH _))⟩
theorem a3O{l:I}{items:Array ae}(ar:s.heap.IsList l items)(h:∀j9:ay,j9={s with heap:=s.heap.push {cls:=.type "list_iterator",data:=.fields #[.ref l,.int 0 0]}}->(j9.heap.IsListIter s⁻¹ l 0/\j9.heap.IsList l items)->l≠s⁻¹->Q (.ref s⁻¹) j9):b7 (bp prog w) A (Ey (.ref l)) Q E s:=by
 have c6:l<s⁻¹:=by obtain⟨_,e,_⟩:=ar;exact dI e
 exact a1S ar (h _ Y ⟨⟨_,hW _ Y,Y,Y⟩,ar.push _⟩ (h3 c6))
theorem a3P{bs:sl Bool}(e:b6=bs.map n3):TruthOf prog w A (λi v=>b6.toArray[i]? =B v) (λi=>bs.getD i aK):=λi v s Q E bk aQ=>by
 have F9:b6[i]? =B v:=by simpa using bk
 rw[e,fW]at F9;obtain⟨b,a0,rfl⟩:=Option.map_eq_some_iff.mp F9;have aI:bs.getD i aK=b:=by rw[ua,a0]<;>rfl
 have kv:Q (bs.getD i aK) s:=aQ;rw[aI]at kv;exact uw kv
theorem any_range:∀bs:sl Bool,(eI bs.length).any (λi=>bs.getD i aK)=bs.any id
 |[]=>rfl
 |b::bs=>by rw[fX,a0P,Aw,List.any_map,Aw,<-any_range bs];all_goals rfl
theorem all_range:∀bs:sl Bool,(eI bs.length).all (λi=>bs.getD i aK)=bs.all id
 |[]=>rfl
 |b::bs=>by rw[fX,a0P,PB,a0x,PB,<-all_range bs];all_goals rfl
def a3Q(K:bb):sl V->ag->c2->Prop:=λvs H Q=>∃(a:I)(bs:sl Bool),vs=[V.ref a]/\bo K H a (bs.map V.c3)/\Q (.c3 (bs.all id)) H
theorem a3R(a7:X.calm=a9):q0 X (.builtin "all") (a3Q X.K):=by
 intro _ s G H _ _ Q D r h;obtain⟨a,_,rfl,ax,q⟩:=h;obtain⟨b6,cB,ar,_⟩:=D.list ax;rw[cC.KI r];have a0:=cB.RM;refine call_all_walk (a3O ar.isList λ_ aT st bV=>?_);subst aT;refine⟨_,_,_,_,_,_,_,Y,ajU (A:=X.A.in1) (D.ok.hd a7) _ a bV b6.toArray,st,a3P a0,λ_ _ aA=>?_⟩;refine⟨.c3 _,H,D.kept λb o ky=>aA b o (λt9=>?_) (ef _ ky),?_,q⟩
 .obtain aO|t9:=dz.mp t9
  .exact absurd (aO ▸ dI ky) (ry _)
  cases t9
 show n3 _=n3 _;rw[<-all_range,a0,j4,cX]
abbrev RP(h:bq)(c:I)(v:Iw ae):Prop:=h.IsCell c v
def a3S(scope f6:i8):i8:=
 {scope with names:=scope.names.map λ(n,k)=>if(k== .free&&f6.kind== .function&&f6.names.lookup n==B .cell)then(n,.cell)else(n,k)}
noncomputable def iC(cells:sl (a8×I)):sl (a8×nO)->sl (a8×I)->sl (a8×I)
 |[],bK=>bK
 |(n,k)::r,bK=>if k== .free then iC cells r ((n,(cells.lookup n).getD 0)::bK)else iC cells r bK
theorem RQ(env:eC)(f:a8×nO->sl (a8×I)->hX (ForInStep (sl (a8×I))))(hf:∀n k c,f (n,k) c=if k== .free then(do let a <-cellOf env n;pure (.yield ((n,a)::c)))else pure (.yield c)):
  ∀(names:sl (a8×nO))(bK:sl (a8×I)),(∀y∈names,y.2=.free->∃c,env.cells.lookup y.1=B c)->forIn names bK f=pure (iC env.cells names bK)
 |[],bK,_=>by rw[a0G];rfl
 |(n,k)::r,bK,h=>by
  rw[aiL,hf];have ih:=λbK=>RQ env f hf r bK λy bl=>h y (eH _ bl);unfold iC;by_cases aA:(k==El)=a9
  .rw[aZ aA,aZ aA];obtain⟨c,a7⟩:=h (n,k) iM (by simpa using aA);have e:cellOf env n=pure c:=by unfold cellOf;rw[a7]
   rw[e];have aT:(env.cells.lookup n).getD 0=c:=by rw[a7];rfl
   rw[aT];exact ih _
  rw[aL aA,aL aA];exact ih _
variable{scope:i8}
theorem RR{env:eC}(h:∀y∈scope.names,y.2=.free->∃c,env.cells.lookup y.1=B c):closureFor scope env=pure (iC env.cells scope.names []):=by simp only[closureFor];rw[RQ env _ (λn k c=>rfl) scope.names [] h];rfl
theorem mem_lookup{br:Type}:∀{l:sl (a8×br)}{n:a8}{c:br},(n,c)∈l->∃e8,l.lookup n=B e8
 |(k,v)::r,n,c,h=>by
  rw[AF];cases a0:n==k with
  |true=>exact⟨_,Y⟩
  |false=>
   obtain e|h:=dz.mp h
   .cases e;simp at a0
   exact mem_lookup h
theorem Fq{cells:sl (a8×I)}:∀{names:sl (a8×nO)}{bK:sl (a8×I)}{n:a8}{c:I},(n,c)∈iC cells names bK->(n,c)∈bK∨((n,.free)∈names/\c=(cells.lookup n).getD 0)
 |[],_,_,_,h=>.inl h
 |(m,k)::r,bK,n,c,h=>by
  unfold iC at h;split at h
  .rename_i aA
   have aA:k=.free:=by simpa using aA
   obtain h|⟨O,a5⟩:=Fq h
   .obtain e|h:=dz.mp h
    .cases e;exact .inr ⟨aA ▸ iM,Y⟩
    exact .inl h
   exact .inr ⟨eH _ O,a5⟩
  obtain h|⟨O,a5⟩:=Fq h
  .exact .inl h
  exact .inr ⟨eH _ O,a5⟩
theorem KJ{cells:sl (a8×I)}:∀{names:sl (a8×nO)}{bK:sl (a8×I)}{p:a8×I},p∈bK->p∈iC cells names bK
 |[],_,_,h=>h
 |(m,k)::r,bK,p,h=>by
  unfold iC;split
  .exact KJ (eH _ h)
  exact KJ h
theorem KL{cells:sl (a8×I)}:∀{names:sl (a8×nO)}{bK:sl (a8×I)}{n:a8},(n,.free)∈names->(n,(cells.lookup n).getD 0)∈iC cells names bK
 |(m,k)::r,bK,n,h=>by
  unfold iC;obtain e|h:=dz.mp h
  .cases e;exact KJ iM
  split
  .exact KL h
  exact KL h
theorem Bv:∀{names:sl (a8×nO)}{h:bq}{bK:sl (a8×I)}{x:a8}{c:I},(x,c)∈iv h.objs.size names bK->(x,c)∈bK∨((x,.cell)∈names/\h.objs.size<=c/\RP (uq h names) c aa)
 |[],_,_,_,_,h=>.inl h
 |(n,k)::r,h,bK,x,c,hm=>by
  unfold iv at hm;unfold uq;split at hm
  .rename_i aA
   rw[aZ aA];have aA:k=.cell:=by simpa using aA
   rw[<-n1 h {cls:=.type "cell",data:=.cell aa}]at hm;obtain hm|⟨O,a5,aG⟩:=Bv hm
   .obtain e|hm:=dz.mp hm
    .cases e;exact .inr ⟨aA ▸ iM,cP _,_,Jf r _ _ _ (hW _ Y),Y⟩
    exact .inl hm
   rw[n1]at a5;exact .inr ⟨eH _ O,PL a5,aG⟩
  rename_i aA
  rw[aL aA];obtain hm|⟨O,a5,aG⟩:=Bv hm
  .exact .inl hm
  exact .inr ⟨eH _ O,a5,aG⟩
theorem Fs:∀{names:sl (a8×nO)}{n:Nat}{bK:sl (a8×I)}{p:a8×I},p∈bK->p∈iv n names bK
 |[],_,_,_,h=>h
 |(m,k)::r,n,bK,p,h=>by
  unfold iv;split
  .exact Fs (eH _ h)
  exact Fs h
theorem KN:∀{names:sl (a8×nO)}{n:Nat}{bK:sl (a8×I)}{x:a8},(x,.cell)∈names->∃c,(x,c)∈iv n names bK
 |(m,k)::r,n,bK,x,h=>by
  unfold iv;obtain e|h:=dz.mp h
  .cases e;exact⟨n,Fs iM⟩
  split
  .exact KN h
  exact KN h
theorem KO:∀{names:sl (a8×nO)}{h:bq}{bK:sl (a8×I)}{x y:a8}{c:I},(∀p∈bK,p.2<h.objs.size)->(∀x y c,(x,c)∈bK->(y,c)∈bK->x=y)->(x,c)∈iv h.objs.size names bK->(y,c)∈iv h.objs.size names bK->x=y
 |[],_,_,_,_,_,_,hi,O,a5=>hi _ _ _ O a5
 |(n,k)::r,h,bK,x,y,c,ar,hi,O,a5=>by
  unfold iv at O a5;split at O
  .rename_i aA
   rw[aZ aA]at a5;rw[<-n1 h {cls:=.type "cell",data:=.cell aa}]at O a5;refine KO (h:=h.push _) (λp aq=>?_) (λx y c a b=>?_) O a5
   .rw[n1];obtain rfl|aq:=dz.mp aq
    .exact AK _
    exact PN (ar p aq)
   rcases dz.mp a with e|a<;>rcases dz.mp b with d8|b
   .cases e;cases d8;rfl
   .cases e;exact absurd (ar _ b) (ry _)
   .cases d8;exact absurd (ar _ a) (ry _)
   exact hi _ _ _ a b
  rename_i aA
  rw[aL aA]at a5;exact KO ar hi O a5
theorem RS{M:ug}{globals:I}{KP:sl (a8×I)}{bX:a8}{func:Iw I}{code:ae}{RT:eC}{builtins:I}{Q:eC->ay->Prop}(h:Q (newEnv scope s⁻¹ globals (iv (s⁻¹+1) scope.names KP) bX func code (B RT) builtins) {s with heap:=uq (s.heap.push {cls:=.type "dict",data:=.dict #[]}) scope.names}):b7 M A (ak8 scope globals KP [] bX func code (B RT) builtins) Q E s:=by simp only[ak8,ajb,jO];refine bB (wpAny_alloc ?_);refine bB (wpAny_layCells _ (λn k c=>rfl) scope.names KP _ _ ?_);rw[show({s with heap:=s.heap.push {cls:=.type "dict",data:=.dict #[]}}:ay).heap.objs.size=s⁻¹+1 from n1 ..];rw[a0G];exact bB (eJ (eJ h))
theorem KQ{f6:i8}:∀{names:sl (a8×nO)}{x:a8}{k:nO},(names.map λ(n,k)=>if(k==El&&f6.kind== .function&&f6.names.lookup n==B .cell)then(n,a1i)else(n,k)).lookup x=B k->∃kU,names.lookup x=B kU/\(k=kU∨(kU=.free/\k=.cell))
 |[],_,_,h=>by simp at h
 |(n,Bw)::r,x,k,h=>by
  have ih:=@KQ f6 r x k;have h':y3 x ((if(Bw==El&&f6.kind== .function&&f6.names.lookup n==B .cell)=a9 then(n,a1i)else(n,Bw))::(r.map _))=B k:=h;cases ah:x==n with
  |true=>
   simp only[AF,ah];by_cases a7:(Bw==El&&f6.kind== .function&&f6.names.lookup n==B .cell)=a9
   .rw[aZ a7]at h';simp only[AF,ah]at h';cases h';simp only[j3,i9]at a7;exact⟨Bw,Y,.inr ⟨a7.1.1,Y⟩⟩
   rw[aL a7]at h';simp only[AF,ah]at h';cases h';exact⟨_,Y,.inl Y⟩
  |false=>
   simp only[AF,ah];by_cases a7:(Bw==El&&f6.kind== .function&&f6.names.lookup n==B .cell)=a9
   .rw[aZ a7]at h';simp only[AF,ah]at h';exact ih h'
   rw[aL a7]at h';simp only[AF,ah]at h';exact ih h'
structure wJ (N:sl a8) (f6 scope:i8) (own:sl (a8×Nat)):Prop where
 kind:scope.kind=.function
 uniq:∀y∈scope.names,scope.names.lookup y.1=B y.2
 a3T:∀p∈own,N[p.2]? =B p.1
 free:∀y∈scope.names,y.2=.free->f6.names.lookup y.1=B .cell∨f6.names.lookup y.1=B .free
 own:∀y∈scope.names,y.2=.local∨y.2=.cell->y.1∈own.map (·.1)∨y.1∉N
def eZ(G:St):sl Nat->St
 |[]=>G
 |v::vs=>(eZ G vs).set v aa
theorem Ft(G:St):∀vs:sl Nat,(eZ G vs).length=G.length
 |[]=>rfl
 |v::vs=>by unfold eZ;rw[qy,Ft G vs]
theorem Fu{G:St}{i:Nat}{x:V}:∀{vs:sl Nat},(eZ G vs)[i]? =B (B x)->G[i]? =B (B x)/\i∉vs
 |[],h=>⟨h,by simp⟩
 |v::vs,h=>by
  unfold eZ at h;by_cases hi:v=i
  .subst hi;by_cases bk:v<(eZ G vs).length
   .rw[IQ bk]at h;cases h
   rw[qx (by simpa using bk)]at h;cases h
  rw[AE hi]at h;obtain⟨O,a5⟩:=Fu h;exact⟨O,by simp only[dz,yC];exact⟨λe=>hi e.symm,a5⟩⟩
noncomputable abbrev bA.gY(X:bA)(s:ay)(H:ag)(scope:i8)(hC:eC)(bM:sl I):bA:={X with gz:=s,B4:=H,env:=hC,outer:=X.stack,ex:=bM,fn:=λx=>scope.names.lookup x==B .cell,c_:=[],bL:=λ_ _=>False}
variable{own:sl (a8×Nat)}
theorem RU{bM:sl I}(D:Inv X a4 G H s)(ok:wJ X.N X.env.scope scope own)(dF:X.N.Nodup)(ta:∀b∈bM,kT X a4 H b/\b<s⁻¹):Inv (X.gY s H scope (kO scope (iv (s⁻¹+1) scope.names (iC X.env.cells scope.names [])) s⁻¹ X.env) bM) [] (eZ G (own.map (·.2))) H {s with heap:=uq (s.heap.push {cls:=.type "dict",data:=.dict #[]}) scope.names}:=by
 have uE:∀y∈scope.names,y.2=.free->∃c,X.env.cells.lookup y.1=B c:=λy bl e=>by
  obtain k|k:=ok.free y bl e
  .exact D.ok.has _ (.inl k)
  exact D.ok.has _ (.inr k)
 generalize Bx:kO scope (iv (s⁻¹+1) scope.names (iC X.env.cells scope.names [])) s⁻¹ X.env=hC;have dK:∀b o,s.heap.get? b=B o->(uq (s.heap.push {cls:=.type "dict",data:=.dict #[]}) scope.names).get? b=B o:=λb o e=>Jf _ _ _ _ (ef _ e);have di:hC.locals=s⁻¹:=by rw[<-Bx];rfl
 have f9:hC.cells=iv (s⁻¹+1) scope.names (iC X.env.cells scope.names []):=by rw[<-Bx];rfl
 have KR:hC.scope=a3S scope X.env.scope:=by rw[<-Bx];rfl
 rw[<-n1 s.heap {cls:=.type "dict",data:=.dict #[]}]at f9;have By:∀{y c},(y,c)∈iC X.env.cells scope.names []->X.env.cells.lookup y=B c/\c<s⁻¹:=fun{y c} hm=>by
  obtain hm|⟨O,rfl⟩:=Fq hm
  .cases hm
  obtain⟨c,a7⟩:=uE _ O Y;rw[a7];obtain⟨w,z⟩:=D.cell _ _ a7;exact⟨Y,z.lt⟩
 have mem:∀{y c},hC.cells.lookup y=B c->(X.env.cells.lookup y=B c/\c<s⁻¹)∨(s⁻¹+1<=c/\RP (uq (s.heap.push {cls:=.type "dict",data:=.dict #[]}) scope.names) c aa):=fun{y c} e=>by
  rw[f9]at e;obtain hm|⟨_,a5,aG⟩:=Bv (oR e)
  .exact .inl (By hm)
  rw[n1]at a5;exact .inr ⟨a5,aG⟩
 have look:∀{y},scope.names.lookup y=B .free->∃c,hC.cells.lookup y=B c/\X.env.cells.lookup y=B c:=fun{y} ar=>by
  have bl:(y,El)∈scope.names:=oR ar;obtain⟨e8,d8⟩:=mem_lookup (Fs (names:=scope.names) (n:=(s.heap.push {cls:=.type "dict",data:=.dict #[]}).objs.size) (KL (cells:=X.env.cells) (bK:=[]) bl));rw[<-f9]at d8;refine⟨e8,d8,?_⟩;rw[f9]at d8;obtain hm|⟨O,_,_⟩:=Bv (oR d8)
  .exact(By hm).1
  have:=ok.uniq _ O;rw[ar]at this;cases this
 have a3U:(X.gY s H scope hC bM).Ok:=by
  refine⟨D.ok.mod,by show hC.scope.kind=_;rw[KR];exact ok.kind,by show hC.globals=_;rw[<-Bx];exact D.ok.glob,by show hC.builtins=_;rw[<-Bx];exact D.ok.blt,by show s⁻¹<=hC.locals;rw[di];exact cP _,
   λy z c aO aT=>?_,λy bl=>?_,λy c z e=>?_,D.ok.hd,D.ok.frames,.inl Y,λb a0=>⟨?_,λy c e z=>?_⟩,D.bs,dE D.ok.mG D.lp,λb o e a0=>?_,λb a0 z=>?_,D.stack,D.JD⟩
  .have aO:hC.cells.lookup y=B c:=aO;have aT:hC.cells.lookup z=B c:=aT;rw[f9]at aO aT;refine KO (λp aq=>?_) (λy z c a b=>D.ok.inj y z c (By a).1 (By b).1) (oR aO) (oR aT);rw[n1];exact PN (By (y:=p.1) (c:=p.2) aq).2
  .show∃c,hC.cells.lookup y=B c;have key:∀k,hC.kindOf y=B k->(k=.cell∨k=.free)->∃c,hC.cells.lookup y=B c:=λk aA yZ=>by
    unfold Env.kindOf at aA;rw[KR]at aA;obtain⟨kU,e,r⟩:=KQ aA;have:kU=.cell∨kU=.free:=by
     obtain rfl|⟨rfl,_⟩:=r
     .exact yZ
     exact .inr Y
    obtain rfl|rfl:=this
    .obtain⟨c,hm⟩:=KN (n:=(s.heap.push {cls:=.type "dict",data:=.dict #[]}).objs.size) (bK:=iC X.env.cells scope.names []) (oR e);obtain⟨e8,d8⟩:=mem_lookup hm;exact⟨e8,by rw[f9];exact d8⟩
    obtain⟨c,O,_⟩:=look e;exact⟨c,O⟩
   obtain bl|bl:=bl
   .exact key _ bl (.inl Y)
   exact key _ bl (.inr Y)
  .have z:(scope.names.lookup y==B a1i)=a9:=z;have z:scope.names.lookup y=B .cell:=by simpa using z
   have e:hC.cells.lookup y=B c:=e;rw[f9]at e;obtain hm|⟨_,a5,_⟩:=Bv (oR e)
   .obtain hm|⟨O,_⟩:=Fq hm
    .cases hm
    have q:=ok.uniq _ O;rw[z]at q;cases q
   rw[n1]at a5;exact PL a5
  .show b≠hC.locals;rw[di];exact h3 (ta b a0).2
  .have e:hC.cells.lookup y=B c:=e;obtain⟨O,_⟩|⟨O,_⟩:=mem e
   .exact(ta b a0).1.2.2.2.2.1 y c O z
   have a5:s⁻¹+1<=b:=by rw[<-z];exact O
   exact absurd (la (ta b a0).2 (PL a5)) (ry _)
  .rcases(ta b a0).1.2.2.2.1 with z|z
   .exact D.ok.sU b o e z
   exact absurd (la (dI e) (dE D.ok.mG z)) (ry _)
  obtain z|z:=dz.mp (D.JC b z)
  .exact(ta b a0).1.2.1 z
  exact(ta b a0).1.2.2.1 z
 refine⟨a3U,Y,D.bare,j7.kept dK,⟨λ_=>aa,?_,λi y a3V aO aT e1=>?_⟩,λy c e=>?_,?_,λy c e=>?_,λp aq=>?_,D.bQ.kept dK,by rw[Ft];exact D.len⟩
 .show Heap.Ns _ hC.locals _;rw[di];exact Heap.Ns.keeps (Heap.Ns.new ..) λb o e=>Jf _ _ _ _ e
 .obtain⟨aT,bV⟩:=Fu aT;have jQ:scope.names.lookup y=B .free/\(hC.kindOf y=B .cell∨hC.kindOf y=B .free):=by
   have key:∀k,hC.scope.names.lookup y=B k->k=.local∨k=.cell∨k=.free->scope.names.lookup y=B .free/\(hC.kindOf y=B .cell∨hC.kindOf y=B .free):=λk aA yZ=>by
    have RV:=aA;rw[KR]at aA;obtain⟨kU,e,r⟩:=KQ aA;have RW:¬(kU=.local∨kU=.cell):=λbT=>by
     obtain d8|d8:=ok.own _ (oR e) bT
     .obtain⟨p,aq,a3W⟩:=fG.mp d8;have e1:=ok.a3T p aq;have:p.1=y:=a3W;rw[this]at e1;exact bV (fG.mpr ⟨p,aq,JG dF e1 aO⟩)
     exact d8 (n0 aO)
    obtain rfl|⟨rfl,rfl⟩:=r
    .obtain rfl|rfl|rfl:=yZ
     .exact absurd (.inl Y) RW
     .exact absurd (.inr Y) RW
     exact⟨e,.inr RV⟩
    exact⟨e,.inl RV⟩
   have e1:yG hC.scope y:=e1;obtain e1|e1|e1:=e1
   .exact key _ e1 (.inl Y)
   .exact key _ e1 (.inr (.inl Y))
   exact key _ e1 (.inr (.inr Y))
  obtain⟨m,_,ar⟩:=D.loc;have a3X:yG X.env.scope y:=(ok.free _ (oR jQ.1) Y).elim (λk=>.inr (.inl k)) (λk=>.inr (.inr k));obtain⟨w,r,q⟩:=ar i y a3V aO aT a3X;refine⟨w,r,.inr ⟨jQ.2,?_⟩⟩;obtain⟨c,O,a5⟩:=look jQ.1;obtain⟨k,_⟩|⟨_,e8,d8,z⟩:=q
  .have k:X.env.scope.names.lookup y=B .local:=k;rcases ok.free _ (oR jQ.1) Y with kU|kU<;>rw[show X.env.scope.names.lookup y=_ from kU]at k<;>cases k
  rw[a5]at d8;cases d8;exact⟨c,O,z.keeps dK⟩
 .have e:hC.cells.lookup y=B c:=e;obtain⟨O,_⟩|⟨_,z⟩:=mem e
  .obtain⟨w,z⟩:=D.cell y c O;exact⟨w,z.keeps dK⟩
  exact⟨_,z⟩
 .show H hC.locals=aa;rw[di];exact D.bQ.fresh (cP _)
 .have e:hC.cells.lookup y=B c:=e;obtain⟨O,_⟩|⟨O,_⟩:=mem e
  .exact D.ll y c O
  exact D.bQ.fresh (PL O)
 exact absurd (show p∈([]:sl (I×bH))++[]from aq) (by simp)
theorem RX{af:I}{xs:sl V}{v:ae}(D:Inv X a4 G H s)(d3:H af=B (.lst xs))(aR:xs.length<cN)(r:RelV y v)(h:∀a_,Inv X a4 G (av H af (.lst (xs++[y]))) a_->Q .none a_):b7 (bp X.prog X.w) X.A (n4 (.builtin "list.append") [.ref af,v]) Q E s:=by obtain⟨_,b6,n,el,e⟩:=D.bQ af _ d3;have ar:=el.length;refine append_at (hsz:=by rw[j4];lia) e λh' cI mH=>?_;refine h {s with heap:=h'} (D.write (t':=s.toks) (by rw[d3];trivial) (.inl Y) (λb u a0 q=>(cI.2 b a0).trans q) ⟨_,mH⟩ ⟨by rw[dh];exact aR,b6++[v],n+1,el.append (.cons r .nil),?_⟩);rw[mH];simp
def wK(X:bA)(ib:sl bO)(t:TT):Prop:=
 ∀(a4:sl (I×bH))(s:ay)(G:St)(H:ag)(Q:Bool->ag->Prop),Inv X a4 G H s->t G H Q->b7 (bp X.prog X.w) X.A (forIn ib a9 λc r=>if r=a9 then do let ok <-isTrue c X.env (eval c X.env);pure (PA ok)else pure (PA r)) (EX X a4 G Q) X.bL s
def RY:TT:=λ_ H Q=>Q a9 H
theorem qN:wK X [] RY:=λ_ _ _ H _ D h=>wpAny_tests_nil ⟨H,D,h⟩
theorem KS{c:bO}{t:TT}(h:nd X c t):wK X [c] t:=λa4 s G H Q D hw=>wpAny_tests_one (h a4 s G H Q D hw)
theorem q2{t:hX br}{Q e9:br->ay->Prop}{M:ug}(h:b7 M A t Q (λ_ _=>False) s)(iO:∀a s,Q a s->e9 a s):b7 M A t e9 E s:=mB h iO λ_ _ z=>hu z
variable{ic:bO}{ib:sl bO}
theorem RZ{R:w5->ay->Prop}{yJ fq:bO}{b0 bK:ae}{env:eC}(D:Nat->ay->Prop)(turn:∀n s,D n s->b7 (bp prog w) A (pT b0) (λr dw=>match r with
   |none=>R (.ok .next) dw
   |some v=>b7 (bp prog w) A (Jd yJ b0 v) (λ_ R_=>b7 (bp prog w) A (yg yJ env v) (λ_ j9=>b7 (bp prog w) A (forIn ib a9 λc r=>if r=a9 then do let ok <-isTrue c env (eval c env);pure (PA ok)else pure (PA r)) (λok p7=>if ok=a9 then b7 (bp prog w) A (eval ic env) (λx y_=>b7 (bp prog w) A (n4 (.builtin "list.append") [bK,x]) (λ_ Fv=>∃m,m<n/\D m Fv) (yo (bp prog w) A env λe a_=>R (.error e) a_) y_) (yo (bp prog w) A env λe a_=>R (.error e) a_) p7 else∃m,m<n/\D m p7) (yo (bp prog w) A env λe a_=>R (.error e) a_) j9) (yo (bp prog w) A env λe a_=>R (.error e) a_) R_) (yo (bp prog w) A env λe a_=>R (.error e) a_) dw) (yo (bp prog w) A env λe a_=>R (.error e) a_) s)(n:Nat)(h:D n s):my (bp prog w) A (.compLoop (.ListComp ic [⟨yJ,fq,ib,0⟩] scope pos) 0 b0 bK env) R s:=by
 refine codeAny_loop Y D (λn s pg=>?_) n h;show b7 _ A ((compTurn (.ListComp ic [⟨yJ,fq,ib,0⟩] scope pos) 0 b0 bK env).onRaise (λx=>do uo x env;theTreesLotGoes x)) _ _ s;refine wpAny_noted ?_;rw[compTurn_list];refine bB (rE (bB (mB (turn n s pg) (λr dw jx=>?_) λ_ _ h'=>h')));cases r with
 |none=>exact eJ jx
 |some v=>refine bB (mB jx (λ_ R_ a3Y=>?_) λ_ _ h'=>h');refine bB (mB a3Y (λ_ j9 tb=>bB (mB tb (λok p7 Bz=>?_) λ_ _ h'=>h')) λ_ _ h'=>h');cases ok with|false=>exact eJ ⟨rfl,Bz⟩|true=>exact bB (bB (mB Bz (λx y_ KU=>bB (mB KU (λ_ Fv KV=>eJ (eJ ⟨rfl,KV⟩)) λ_ _ h'=>h')) λ_ _ h'=>h'))
variable{tg:bO}{g:h7}{tt:TT}
def wL(gL:TI)(g:h7)(tt:TT)(b_:bZ)(vs:sl Nat):bZ:=λG H Q=>gL G H λd5 ai=>∀af,ai af=aa->∃W:Nat->Nat->ag->Prop,(∃m,W 0 m (av ai af (.lst [])))/\∀i m H,W i m H->(d5.stop i H/\Q (.ref af) H)∨(d5.go i H/\∃ie:ag->Prop,(∀H',ie H'->∃m',m'<m/\W (i+1) m' H')/\∀x H',d5.j' i H x H'->g x (eZ G vs) H' λcQ au=>eZ cQ vs=eZ G vs/\tt cQ au λb bc=>if b=a9 then b_ cQ bc λy cU=>∃bK,cU af=B (.lst bK)/\bK.length<cN/\ie (av cU af (.lst (bK++[y])))else ie bc)
theorem R'{Q:c2}{fq:bO}{ja:Pos}{gL:TI}{use:Iw (ae->hX Unit)}{Qf:ae->ay->Prop}(a7:X.calm=a9)(dF:X.N.Nodup)(D:Inv X a4 G H s)(hi:qH X tg fq gL)(ok:wJ X.N X.env.scope scope own)(aI:∀(s:ay)(H:ag)(C:I)(cl:sl (a8×I))(bM:sl I),p4 (X.gY s H scope (kO scope cl C X.env) bM) tg g)(b9:∀(s:ay)(H:ag)(C:I)(cl:sl (a8×I))(bM:sl I),wK (X.gY s H scope (kO scope cl C X.env) bM) ib tt)(aF:∀(s:ay)(H:ag)(C:I)(cl:sl (a8×I))(bM:sl I),bS (X.gY s H scope (kO scope cl C X.env) bM) ic b_)(ax:∀x,AU fq X.env x=pure x)(h:wL gL g tt b_ (own.map (·.2)) G H Q)(KW:∀af C a_ m H',Inv X a4 G H' a_->Q (.ref af) H'->a_.heap.Ns C m->kT X a4 H' C->Ew (bp X.prog X.w) X.A X.bL use Qf (.ref af) C (.ok .next) a_):
  b7 (bp X.prog X.w) X.A (a1z (.ListComp ic [⟨tg,fq,ib,0⟩] scope pos) scope X.env ja (newList []) aK (eval fq X.env) use) Qf X.bL s:=by
 have uE:∀y∈scope.names,y.2=.free->∃c,X.env.cells.lookup y.1=B c:=λy bl e=>by
  obtain k|k:=ok.free y bl e
  .exact D.ok.has _ (.inl k)
  exact D.ok.has _ (.inr k)
 refine aki (use:=use) Y ax (RR uE) ok.kind (λy bl e=>by rw[ok.uniq y bl,e])
  (bW (hi a4 s G H _ D h) λ_ _ ah=>bW ah λ_ s2 a5=>?_)
 obtain⟨b0,bM,tn,_,au,e,cM,T,n',f2,q⟩:=a5;subst e;refine yq (RS ?_) (by show 0<=cN;decide);generalize d3:s2⁻¹=af;have KX:au af=aa:=cM.bQ.fresh (AJ d3);obtain⟨W,⟨ia,iy⟩,turn⟩:=q af KX;generalize nv:({s2 with heap:=s2.heap.push {cls:=.type "list",data:=.seq ([]:sl ae).toArray}}:ay)=bE;have dJ:Inv X a4 G (av au af (.lst [])) bE:=by rw[<-nv];refine cM.laid (t':=s2.toks) (λb o e=>ef _ e) (AJ d3) ⟨es _,[],0,.nil,?_⟩;rw[<-d3];exact hW _ Y
 have aG:bE.heap=s2.heap.push {cls:=.type "list",data:=.seq ([]:sl ae).toArray}:=by rw[<-nv]
 have lp:∀b∈bM,b<s2⁻¹:=λb a0=>by obtain⟨o,e,_⟩:=T.obj _ _ n' b a0;exact dI e
 have dx:∀b∈bM,kT X a4 (av au af (.lst [])) b/\b<bE⁻¹:=λb a0=>by have c6:=lp b a0;refine⟨⟨?_,(f2 b a0).2⟩,by rw[aG,n1];exact PN c6⟩;rw[aM (by rw[<-d3];exact h3 c6)];exact(f2 b a0).1
 have sW:tn 0 bE.heap:=T.keep _ _ _ n' λb _ o e=>by rw[aG];exact ef _ e
 have f':=RU dJ ok dF dx;have qJ:=aI bE (av au af (.lst [])) bE⁻¹ (iv (bE⁻¹+1) scope.names (iC X.env.cells scope.names [])) bM;have pt:=b9 bE (av au af (.lst [])) bE⁻¹ (iv (bE⁻¹+1) scope.names (iC X.env.cells scope.names [])) bM;have wM:=aF bE (av au af (.lst [])) bE⁻¹ (iv (bE⁻¹+1) scope.names (iC X.env.cells scope.names [])) bM;show my _ _ (.compStart (.ListComp ic [⟨tg,fq,ib,0⟩] scope pos) 0 (.ref b0) (.ref af) (kO scope (iv (bE⁻¹+1) scope.names (iC X.env.cells scope.names [])) bE⁻¹ X.env)) (Ew (bp X.prog X.w) X.A X.bL use Qf (.ref af) bE⁻¹) {bE with heap:=uq (bE.heap.push {cls:=.type "dict",data:=.dict #[]}) scope.names};have BA:∀b∈bM,(av au af (.lst [])) b=aa:=λb a0=>(dx b a0).1.1;generalize tc:kO scope (iv (bE⁻¹+1) scope.names (iC X.env.cells scope.names [])) bE⁻¹ X.env=iT at f' qJ pt wM ⊢;have BB:iT.locals=bE⁻¹:=by subst tc;rfl
 generalize a40:av au af (.lst [])=bc at dJ f' qJ pt wM iy BA dx;generalize y':({bE with heap:=uq (bE.heap.push {cls:=.type "dict",data:=.dict #[]}) scope.names}:ay)=s4 at f' ⊢;have BC:tn 0 s4.heap:=T.keep _ _ _ sW λb _ o e=>by rw[<-y'];exact Jf _ _ _ _ (ef _ e)
 have ni:∀{aN:St}{H':ag}{a_:ay},Inv (X.gY bE bc scope iT bM) [] aN H' a_->(∀b∈bM,H' b=aa)->∀b∈bM,kT (X.gY bE bc scope iT bM) [] H' b:=fun{aN H' a_} et aH b a0=>⟨aH b a0,(et.ok.rK b a0).1,et.ok.rL b a0,.inl a0,λx c e=>(et.ok.rK b a0).2 x c e,λp aq=>absurd (show p∈([]:sl (I×bH))++[]from aq) (by simp)⟩;have BD:my (bp X.prog X.w) X.A (.compLoop (.ListComp ic [⟨tg,fq,ib,0⟩] scope pos) 0 (.ref b0) (.ref af) iT) (Ew (bp X.prog X.w) X.A X.bL use Qf (.ref af) bE⁻¹) s4:=by
  refine RZ (λn a_=>∃i H',Inv (X.gY bE bc scope iT bM) [] (eZ G (own.map (·.2))) H' a_/\tn i a_.heap/\(∀b∈bM,H' b=aa)/\W i n H') ?_ ia ⟨0,bc,f',BC,BA,iy⟩;rintro n g0 ⟨i,c',jt,p8,kz,wN⟩;obtain⟨stop,iU⟩|⟨go,ie,KY,step⟩:=turn i n c' wN
  .have a':=T.done (X.gY bE bc scope iT bM) Y Y Y a7 i [] g0 _ c' (λ_ _=>False) jt (ni jt kz) p8 stop;refine q2 a' λr eX ⟨ak,ju⟩=>?_;subst ak;have fR:Inv X a4 G c' eX:=dJ.EW (ch:=bM) ju.os ju.base ju.bQ ju.bare λb a0=>⟨(dx b a0).1.2.2.2.1,(dx b a0).1.2.1,(dx b a0).1.2.2.2.2.1,(dx b a0).1.2.2.2.2.2⟩;have KZ:c' bE⁻¹=aa:=by have z:c' iT.locals=aa:=ju.free;rw[BB]at z;exact z
   obtain⟨m,aH,_⟩:=ju.loc;have aH:eX.heap.Ns iT.locals m:=aH;rw[BB]at aH;exact KW af bE⁻¹ eX m c' fR iU aH (dJ.qG (cP _) KZ)
  have p5:=T.item (X.gY bE bc scope iT bM) Y Y Y a7 i [] g0 _ c' (λ_ _=>False) jt (ni jt kz) p8 go;refine q2 p5 λr eX ⟨u,ak,iV⟩=>?_;subst ak;refine q2 iV λ_ k1 ⟨x,fv,fR,wA,Fw,wO,nj⟩=>?_;have K_:=fR.pinned (ni fR nj) (T.obj _ _ wO);refine q2 (qJ _ k1 _ fv x u _ K_ wA (step x fv Fw)) λ_ q3 ⟨td,q4,uQ,BE,K'⟩=>?_;refine q2 (pt _ q3 td q4 _ uQ K') λb m3 ⟨oc,qO,nx⟩=>?_;have fin:∀{a_:ay}{H':ag},Inv (X.gY bE bc scope iT bM) ([]++wx bM k1.heap) td H' a_->ie H'->∃m,m<n/\∃i H',Inv (X.gY bE bc scope iT bM) [] (eZ G (own.map (·.2))) H' a_/\tn i a_.heap/\(∀b∈bM,H' b=aa)/\W i m H':=fun{a_ H'} et c8=>by
   obtain⟨m',hm,jo⟩:=KY H' c8;have BF:∀b∈bM,∀o,k1.heap.get? b=B o->a_.heap.get? b=B o/\H' b=aa:=λb a0 o e=>
    let z:=et.pin (b,o) (oO _ (oO _ (yN a0 e)))
    ⟨z.1,z.2.1⟩
   have ar:(eZ G (own.map (·.2))).length=td.length:=by rw[<-BE,Ft]
   refine⟨m',hm,i+1,H',(et.uJ (a4:=[])).weak ar (λj v e=>?_),T.keep _ _ _ wO λb a0 o e=>(BF b a0 o e).1,λb a0=>?_,jo⟩
   .rw[<-BE]at e;exact(Fu e).1
   obtain⟨o,e,_⟩:=T.obj _ _ wO b a0;exact(BF b a0 o e).2
  cases b with|false=>simp only[qu,jN]at nx ⊢;exact fin qO nx|true=>simp only[jO]at nx ⊢;refine q2 (wM _ m3 td oc _ qO nx) λz _ ⟨_,_,qP,L0,_,L1,L3,c8⟩=>?_;exact RX (X:=X.gY bE bc scope iT bM) qP L1 L3 L0 λ_ L4=>fin L4 c8
 exact ak2 BD (T.self X.A 0 _ _ _ BC BD)
theorem te{fq:bO}{gL:TI}(a7:X.calm=a9)(dF:X.N.Nodup)(hi:qH X tg fq gL)(ok:wJ X.N X.env.scope scope own)(aI:∀(s:ay)(H:ag)(C:I)(cl:sl (a8×I))(bM:sl I),p4 (X.gY s H scope (kO scope cl C X.env) bM) tg g)(b9:∀(s:ay)(H:ag)(C:I)(cl:sl (a8×I))(bM:sl I),wK (X.gY s H scope (kO scope cl C X.env) bM) ib tt)(aF:∀(s:ay)(H:ag)(C:I)(cl:sl (a8×I))(bM:sl I),bS (X.gY s H scope (kO scope cl C X.env) bM) ic b_)(ax:∀x,AU fq X.env x=pure x:=by intro _;rfl):
  bS X (.ListComp ic [⟨tg,fq,ib,0⟩] scope pos) (wL gL g tt b_ (own.map (·.2))):=by
 intro _ s G H Q D h;rw[ak6];refine R' a7 dF D hi ok aI b9 aF ax h λaf C a_ m H' et q aH f=>⟨m,aH,λ_ cI=>?_⟩;obtain⟨f_,dU,_,dx,fh,fi⟩:=f;exact⟨.ref af,H',et.turned (t':=a_.toks) (λb o a0 e=>(cI.2 b a0).trans e) f_ dU dx fh fi,Y,q⟩
theorem Fx{i:Nat}{y:a8}{oe:Pos}{fq:bO}{uR:Pos}{gL:TI}(a7:X.calm=a9)(dF:X.N.Nodup)(bl:X.N[i]? =B y)(S0:X.env.scope.names.lookup y=B .local)(BG:sN (.ListComp ic [⟨tg,fq,ib,0⟩] scope pos) (B (.Name y oe)) uR.line X.env=pure a9)(hi:qH X tg fq gL)(ok:wJ X.N X.env.scope scope own)(aI:∀(s:ay)(H:ag)(C:I)(cl:sl (a8×I))(bM:sl I),p4 (X.gY s H scope (kO scope cl C X.env) bM) tg g)(b9:∀(s:ay)(H:ag)(C:I)(cl:sl (a8×I))(bM:sl I),wK (X.gY s H scope (kO scope cl C X.env) bM) ib tt)(aF:∀(s:ay)(H:ag)(C:I)(cl:sl (a8×I))(bM:sl I),bS (X.gY s H scope (kO scope cl C X.env) bM) ic b_)(ax:∀x,AU fq X.env x=pure x:=by intro _;rfl):
  jr X (.Assign [.Name y oe] (.ListComp ic [⟨tg,fq,ib,0⟩] scope pos) uR) (p6 (wL gL g tt b_ (own.map (·.2))) (mJ i)):=by
 intro a4 s G H af D h;rw[exec_Assign_Name_used _ _ _ _ BG];refine bB (rE (bB ?_));show b7 _ X.A (do let _ <-a1z (.ListComp ic [⟨tg,fq,ib,0⟩] scope pos) scope X.env (firstIterPos [⟨tg,fq,ib,0⟩] pos) (newList []) aK (eval fq X.env) (B (yg (.Name y oe) X.env))) _ _ s;have h:wL gL g tt b_ (own.map (·.2)) G H (λx ai=>mJ i x G ai af.c8):=h;refine bB (bW (R' (Qf:=λ_ a_=>nc X a4 af .next a_) a7 dF D hi ok aI b9 aF ax h λL C a_ m H' et q aH f=>?_) λ_ a_ aQ=>eJ (eJ aQ));show b7 _ _ (yg (.Name y oe) X.env (.ref L)) _ _ _;refine akh (QG (v:=V.ref L) et dF bl (.inl S0) Y (λs2 cM ⟨a,cI,bf⟩=>?_) (.inr S0));obtain⟨f_,dU,_,dx,fh,fi⟩:=f;have a45:C≠a:=by
  obtain z|z:=bf
  .rw[z];exact dU
  exact λe=>fh y a z e.symm
 refine⟨m,aH.sameBut cI a45,λ_ a46=>?_⟩;exact⟨_,H',cM.turned (t':=s2.toks) (λb o a0 e=>(a46.2 b a0).trans e) f_ dU dx fh fi,q⟩
theorem Fy{ck:sl Comprehension}{oe:Pos}{y:a8}{l:Nat}{env:eC}(aA:env.scope.kind=.function)(bl:env.scope.names.lookup y=B .local)(ar:(oe.line==pos.line)=a9)(bf:(scope.names.any λ(n,k)=>n==y&&(k== .local||k== .cell))=aK):sN (.ListComp ic ck scope pos) (B (.Name y oe)) l env=pure a9:=by
 have a47:env.kindOf y=B .local:=bl;have a0:env.blockKind=.function:=by unfold Env.blockKind;rw[aA];rfl
 unfold sN;simp only[a0,a47,bf];show pure (oe.line==pos.line&&_)=_;rw[ar];rfl
theorem L5{lo:Int}{vs:sl Nat}{ai:ag}{af:I}{Qd:ag->Prop}(Pv:Nat->ag->Prop)(b8:Pv 0 (av ai af (.lst [])))(ax:∀i H,i<n->Pv i H->g (.int (lo+i)) (eZ G vs) H λcQ au=>eZ cQ vs=eZ G vs/\tt cQ au λb bc=>if b=a9 then b_ cQ bc λy cU=>∃bK,cU af=B (.lst bK)/\bK.length<cN/\Pv (i+1) (av cU af (.lst (bK++[y])))else Pv (i+1) bc)(hd:∀H,Pv n H->Qd H):∃W:Nat->Nat->ag->Prop,(∃m,W 0 m (av ai af (.lst [])))/\∀i m H,W i m H->((sV lo n).stop i H/\Qd H)∨((sV lo n).go i H/\∃ie:ag->Prop,(∀H',ie H'->∃m',m'<m/\W (i+1) m' H')/\∀x H',(sV lo n).j' i H x H'->g x (eZ G vs) H' λcQ au=>eZ cQ vs=eZ G vs/\tt cQ au λb bc=>if b=a9 then b_ cQ bc λy cU=>∃bK,cU af=B (.lst bK)/\bK.length<cN/\ie (av cU af (.lst (bK++[y])))else ie bc):=by
 refine⟨λi m H=>m=n-i/\i<=n/\Pv i H,⟨n,by simp,es _,b8⟩,?_⟩;rintro i m H ⟨rfl,hi,p⟩;by_cases c6:i<n
 .refine .inr ⟨c6,Pv (i+1),λH' fS=>⟨n-(i+1),by lia,Y,c6,fS⟩,λx H' y=>?_⟩;obtain⟨e,y⟩:=y;subst e y;exact ax i _ c6 p
 have e:i=n:=by lia
 subst e;exact .inl ⟨cP _,hd H p⟩
variable{K:bb}
theorem uS{xs:sl V}{vs:sl Nat}{ai:ag}{af:I}{Qd:ag->Prop}(Pv:Nat->ag->Prop)(b8:Pv 0 (av ai af (.lst [])))(ar:∀i H,i<=xs.length->Pv i H->bo K H a xs)(ax:∀i x H,xs[i]? =B x->Pv i H->g x (eZ G vs) H λcQ au=>eZ cQ vs=eZ G vs/\tt cQ au λb bc=>if b=a9 then b_ cQ bc λy cU=>∃bK,cU af=B (.lst bK)/\bK.length<cN/\Pv (i+1) (av cU af (.lst (bK++[y])))else Pv (i+1) bc)(hd:∀H,Pv xs.length H->Qd H):∃W:Nat->Nat->ag->Prop,(∃m,W 0 m (av ai af (.lst [])))/\∀i m H,W i m H->((uH K a).stop i H/\Qd H)∨((uH K a).go i H/\∃ie:ag->Prop,(∀H',ie H'->∃m',m'<m/\W (i+1) m' H')/\∀x H',(uH K a).j' i H x H'->g x (eZ G vs) H' λcQ au=>eZ cQ vs=eZ G vs/\tt cQ au λb bc=>if b=a9 then b_ cQ bc λy cU=>∃bK,cU af=B (.lst bK)/\bK.length<cN/\ie (av cU af (.lst (bK++[y])))else ie bc):=by
 refine⟨λi m H=>m=xs.length-i/\i<=xs.length/\Pv i H,⟨xs.length,by simp,es _,b8⟩,?_⟩;rintro i m H ⟨rfl,hi,p⟩;have q:=ar i H hi p;by_cases c6:i<xs.length
 .refine .inr ⟨⟨xs,xs[i],q,by simp[c6]⟩,Pv (i+1),λH' fS=>⟨xs.length-(i+1),by lia,Y,c6,fS⟩,λx H' y=>?_⟩;obtain⟨e,y⟩:=y;subst e;exact ax i x _ (y xs q) p
 have e:i=xs.length:=by lia
 subst e;exact .inl ⟨⟨xs,q,cP _⟩,hd H p⟩
theorem a48{xs:sl V}{vs:sl Nat}{ai:ag}{af:I}{Qd:ag->Prop}(Pv:Nat->ag->Prop)(b8:Pv 0 (av ai af (.lst [])))(ar:∀i H,i<=xs.length->Pv i H->dt K H a xs)(ax:∀i x H,xs[i]? =B x->Pv i H->g x (eZ G vs) H λcQ au=>eZ cQ vs=eZ G vs/\tt cQ au λb bc=>if b=a9 then b_ cQ bc λy cU=>∃bK,cU af=B (.lst bK)/\bK.length<cN/\Pv (i+1) (av cU af (.lst (bK++[y])))else Pv (i+1) bc)(hd:∀H,Pv xs.length H->Qd H):∃W:Nat->Nat->ag->Prop,(∃m,W 0 m (av ai af (.lst [])))/\∀i m H,W i m H->((uI K a).stop i H/\Qd H)∨((uI K a).go i H/\∃ie:ag->Prop,(∀H',ie H'->∃m',m'<m/\W (i+1) m' H')/\∀x H',(uI K a).j' i H x H'->g x (eZ G vs) H' λcQ au=>eZ cQ vs=eZ G vs/\tt cQ au λb bc=>if b=a9 then b_ cQ bc λy cU=>∃bK,cU af=B (.lst bK)/\bK.length<cN/\ie (av cU af (.lst (bK++[y])))else ie bc):=by
 refine⟨λi m H=>m=xs.length-i/\i<=xs.length/\Pv i H,⟨xs.length,by simp,es _,b8⟩,?_⟩;rintro i m H ⟨rfl,hi,p⟩;have q:=ar i H hi p;by_cases c6:i<xs.length
 .refine .inr ⟨⟨xs,xs[i],q,by simp[c6]⟩,Pv (i+1),λH' fS=>⟨xs.length-(i+1),by lia,Y,c6,fS⟩,λx H' y=>?_⟩;obtain⟨e,y⟩:=y;subst e;exact ax i x _ (y xs q) p
 have e:i=xs.length:=by lia
 subst e;exact .inl ⟨⟨xs,q,cP _⟩,hd H p⟩
def S1(N:sl a8)(f6 scope:i8)(own:sl (a8×Nat)):Bool:=
 (match scope.kind with|.function=>a9|_=>aK)&&(scope.names.all λy=>decide (scope.names.lookup y.1=B y.2))&&(own.all λp=>decide (N[p.2]? =B p.1))&&
  (scope.names.all λy=>match y.2 with
   |.free=>(match f6.names.lookup y.1 with|some .cell=>a9|some .free=>a9|_=>aK)
   |.local=>decide (y.1∈own.map (·.1))||decide (y.1∉N)
   |.cell=>decide (y.1∈own.map (·.1))||decide (y.1∉N)
   |_=>a9)
theorem og{N:sl a8}{f6:i8}(h:S1 N f6 scope own=a9):wJ N f6 scope own:=by
 unfold S1 at h;simp only[j3,y0,decide_eq_true_eq]at h;obtain⟨⟨⟨O,a5⟩,aG⟩,cJ⟩:=h;refine⟨?_,a5,aG,λy bl e=>?_,λy bl e=>?_⟩
 .split at O
  .assumption
  cases O
 .have q:=cJ y bl;simp only[e]at q;split at q<;>first|exact .inl (by assumption)|exact .inr (by assumption)|cases q
 have q:=cJ y bl;rcases e with e|e<;>(simp only[e,sE,decide_eq_true_eq]at q;exact q)
variable{o:Iw V}
section
variable{fu:Type}[DecidableEq fu]
noncomputable def k7(aW:sl (fu×V))(k:fu):Iw V:=(aW.find? λgk=>decide (gk.1=k)).map (·.2)
noncomputable def iD(aW:sl (fu×V))(k:fu)(v:V):sl (fu×V):=
 if(aW.any λgk=>decide (gk.1=k))=a9 then aW.map (λgk=>if gk.1=k then(gk.1,v)else gk)else aW++[(k,v)]
theorem qQ{p:fu×V}{r:sl (fu×V)}{k:fu}(e:p.1=k):k7 (p::r) k=B p.2:=by simp[k7,sF,e]
theorem qR{p:fu×V}{r:sl (fu×V)}{k:fu}(e:¬p.1=k):k7 (p::r) k=k7 r k:=by simp[k7,sF,e]
theorem Fz(k:fu):∀aW:sl (fu×V),(aW.any λgk=>decide (gk.1=k))=(k7 aW k).isSome
 |[]=>rfl
 |p::r=>by
  rw[Aw];by_cases e:p.1=k
  .simp only[qQ e,eL e,aix,ajb]
  rw[qR e,gW e,E4];exact Fz k r
theorem S2(k j:fu)(y:V):∀aW:sl (fu×V),k7 (aW.map λgk=>if gk.1=k then(gk.1,y)else gk) j=(k7 aW j).map λx=>if j=k then y else x
 |[]=>rfl
 |p::r=>by
  have ih:=S2 k j y r;rw[ir];by_cases h:p.1=k
  .rw[aZ h];by_cases e:p.1=j
   .rw[qQ (p:=(p.1,y)) e,qQ e,PR,aZ (e.symm.trans h)]
   rw[qR (p:=(p.1,y)) e,qR e,ih]
  rw[aL h];by_cases e:p.1=j
  .rw[qQ (p:=p) e,qQ e,PR,aL (λz=>h (e.trans z))]
  rw[qR (p:=p) e,qR e,ih]
theorem S3(k j:fu)(y:V):∀aW:sl (fu×V),k7 aW k=aa->k7 (aW++[(k,y)]) j=if j=k then B y else k7 aW j
 |[],_=>by
  by_cases e:k=j
  .rw[aZ e.symm];exact qQ (p:=(k,y)) e
  rw[aL (λz=>e z.symm)];exact qR (p:=(k,y)) e
 |p::r,aH=>by
  rw[oN];have aA:¬p.1=k:=λz=>by rw[qQ z]at aH;cases aH
  rw[qR aA]at aH;have ih:=S3 k j y r aH;by_cases e:p.1=j
  .rw[qQ e,qQ e,aL (λz=>aA (e.trans z))]
  rw[qR e,qR e,ih]
theorem S4(aW:sl (fu×V))(k j:fu)(y:V):k7 (iD aW k y) j=if j=k then B y else k7 aW j:=by
 unfold iD;by_cases a:(aW.any λgk=>decide (gk.1=k))=a9
 .rw[aZ a,S2];rw[Fz]at a;by_cases e:j=k
  .obtain⟨x,ah⟩:=PQ.mp a;rw[aZ e,e,ah,PR,aZ Y]
  rw[aL e];cases k7 aW j with|none=>rfl|some x=>rw[PR,aL e]
 rw[aL a];refine S3 k j y aW ?_;rw[Fz]at a;cases q:k7 aW k with|none=>rfl|some x=>rw[q]at a;exact(a Y).elim
theorem FA(aW:sl (fu×V))(k:fu)(v:V):(iD aW k v).length<=aW.length+1:=by
 unfold iD;split
 .rw[cX];lia
 rw[dh,fX,uc];lia
theorem j_.a49{u:Iw ae}(r:j_ o u):o.isSome=u.isSome:=by
 cases o with
 |none=>cases u with|none=>rfl|some _=>exact(show False from r).elim
 |some _=>cases u with|none=>exact(show False from r).elim|some _=>rfl
theorem j_.getD{u:Iw ae}{d:V}{d':ae}(r:j_ o u)(cF:RelV d d'):RelV (o.getD d) (u.getD d'):=by
 cases o with
 |none=>cases u with|none=>exact cF|some _=>exact(show False from r).elim
 |some _=>cases u with|none=>exact(show False from r).elim|some _=>exact r
theorem kP.val{aW:sl (fu×V)}{vs:sl (fu×ae)}(r:kP aW vs)(k:fu):j_ (k7 aW k) (EA vs k):=by
 unfold kP at r;induction r with
 |nil=>exact B0
 | @cons p q aJ fD h t ih=>
  obtain⟨O,a5⟩:=h;by_cases e:p.1=k
  .have d8:q.1=k:=O.symm.trans e;have b:EA (q::fD) k=B q.2:=by simp[EA,sF,d8]
   rw[qQ e,b];exact a5
  have d8:¬q.1=k:=λz=>e (O.trans z);have b:EA (q::fD) k=EA fD k:=by simp[EA,sF,d8]
  rw[qR e,b];exact ih
theorem kP.any{aW:sl (fu×V)}{vs:sl (fu×ae)}(r:kP aW vs)(k:fu):(aW.any λgk=>decide (gk.1=k))=vs.any λgk=>decide (gk.1=k):=by unfold kP at r;induction r with|nil=>rfl|cons h t ih=>rw[Aw,Aw,ih,h.1]
theorem kP.L6{aW:sl (fu×V)}{vs:sl (fu×ae)}(r:kP aW vs)(k:fu)(cD:RelV y u):kP (aW.map λgk=>if gk.1=k then(gk.1,y)else gk) (vs.map λgk=>if gk.1=k then(gk.1,u)else gk):=by
 unfold kP at r ⊢;induction r with
 |nil=>exact .nil
 | @cons p q aJ fD h t ih=>
  rw[ir,ir];refine .cons ?_ ih;obtain⟨O,a5⟩:=h;by_cases e:p.1=k
  .rw[aZ e,aZ (O.symm.trans e)];exact⟨O,cD⟩
  rw[aL e,aL (λz=>e (O.trans z))];exact⟨O,a5⟩
theorem kP.put{aW:sl (fu×V)}{vs:sl (fu×ae)}(r:kP aW vs)(k:fu)(cD:RelV y u):kP (iD aW k y) (stored vs k u):=by
 unfold iD stored;rw[r.any k];by_cases e:(vs.any λgk=>decide (gk.1=k))=a9
 .rw[aZ e,aZ e];exact r.L6 k cD
 rw[aL e,aL e];exact ajC r ⟨Y,cD⟩
theorem kP.length{aW:sl (fu×V)}{vs:sl (fu×ae)}(r:kP aW vs):aW.length=vs.length:=a1j r
end
variable{P:bP}
theorem L7{k:Key}(r:RelV (ey k) u):(n9 P w).is k u=a9:=by cases k with|inl i=>obtain⟨t,e⟩:=(show∃t,u=w6 i t from r);subst e;exact a2e P w i t|inr x=>obtain⟨t,e⟩:=(show∃t,u=Q1 x t from r);subst e;exact a2f P w x t
theorem S5{P:bP}{w:bG}:∀{uL:sl Key}{us:sl ae},cC (uL.map ey) us->ItemsAre (n9 P w) uL us
 |[],_,r=>by rw[vZ]at r;cases r;exact .nil
 |k::uL,_,r=>by rw[ir]at r;cases r with|cons h t=>exact .cons (L7 h) (S5 t)
abbrev KT(H:ag):sl (sl Key×V)->sl (sl Key×I×ae)->Prop:=Paired λp q=>p.1=q.1/\H q.2.1=B (.tup (p.1.map ey))/\RelV p.2 q.2.2
variable{aW:sl (sl Key×V)}{xs:sl (sl Key×I×ae)}
theorem KT.val(r:KT H aW xs)(k:sl Key):j_ (k7 aW k) ((yh xs k).map (·.2)):=by
 induction r with
 |nil=>exact B0
 | @cons p q aJ fD h t ih=>
  obtain⟨O,_,a5⟩:=h;by_cases e:p.1=k
  .have d8:q.1=k:=O.symm.trans e;have b:yh (q::fD) k=B q.2:=by simp[yh,sF,d8]
   rw[qQ e,b];exact a5
  have d8:¬q.1=k:=λz=>e (O.trans z);have b:yh (q::fD) k=yh fD k:=by simp[yh,sF,d8]
  rw[qR e,b];exact ih
theorem KT.L6(r:KT H aW xs)(k:sl Key)(cD:RelV y u):KT H (aW.map λgk=>if gk.1=k then(gk.1,y)else gk) (xs.map (putAt k u)):=by
 induction r with
 |nil=>exact .nil
 | @cons p q aJ fD h t ih=>
  rw[ir,ir];refine .cons ?_ ih;obtain⟨O,a5,aG⟩:=h;unfold putAt;by_cases e:p.1=k
  .rw[aZ e,aZ (O.symm.trans e)];exact⟨O,a5,cD⟩
  rw[aL e,aL (λz=>e (O.trans z))];exact⟨O,a5,aG⟩
theorem KT.put(r:KT H aW xs)(k:sl Key){b:I}(a0:H b=B (.tup (k.map ey)))(cD:RelV y u):KT H (iD aW k y) (storedH xs k b u):=by
 have e:(aW.any λgk=>decide (gk.1=k))=(yh xs k).isSome:=by rw[Fz,(r.val k).a49,Option.isSome_map]
 unfold iD storedH;rw[e];by_cases q:(yh xs k).isSome=a9
 .rw[aZ q,aZ q];exact r.L6 k cD
 rw[aL q,aL q];exact ajC r ⟨Y,a0,cD⟩
theorem KT.keeps{H':ag}(r:KT H aW xs)(b9:∀b ys,H b=B (.tup ys)->H' b=B (.tup ys)):KT H' aW xs:=
 Paired.JB r λ_ _ z=>⟨z.1,b9 _ _ z.2.1,z.2.2⟩
section
variable{h:bq}
theorem S6{u:dA}(ok:g6 P w H h)(e:fg H a u):hj P w H h a u:=e.ok ok
theorem L8{aW:sl (Key×V)}(ok:g6 P w H h)(e:fg H a (.oW aW)):aW.length<=cN/\(a==uu)=aK/\∃vs,kP aW vs/\h.DictOf (n9 P w) a vs:=
 show hj P w H h a (.oW aW)from S6 ok e
theorem a4a{aW:sl (Key×V)}(ok:g6 P w H h)(e:H a=B (.oW aW)):aW.length<=cN/\(a==uu)=aK/\∃vs,kP aW vs/\h.DictOf (n9 P w) a vs:=L8 ok (.inl e)
theorem L9{uL:sl Key}(ok:g6 P w H h)(e:H a=B (.tup (uL.map ey))):(Ez (n9 P w)).is h uL a:=by obtain⟨_,b6,r,o,O,a5,n,aG⟩:=(show hj P w H h a (.tup (uL.map ey))from ok a _ e);exact⟨o,b6.toArray,n,O,a5,aG,by simpa using S5 r⟩
theorem La(ok:g6 P w H h)(e:fg H a (.gf aW)):aW.length<=cN/\(a==uu)=aK/\∃xs,KT H aW xs/\h.DictOfH (Ez (n9 P w)) a xs:=by
 obtain⟨z,y,xs,r,o,b5,fZ,O,a5,aG,cJ,f7⟩:=(show hj P w H h a (.gf aW)from S6 ok e);refine⟨z,y,xs,r,o,b5,fZ,O,a5,aG,cJ,λx ah=>?_,f7⟩;have all:∀{l:sl (sl Key×V)}{m:sl (sl Key×I×ae)},KT H l m->∀x∈m,(Ez (n9 P w)).is h x.1 x.2.1:=by
  intro l m q;induction q with
  |nil=>intro x ah;exact nomatch ah
  | @cons p q aJ fD aQ t ih=>
   intro x ah;obtain e|ah:=dz.mp ah
   .subst e;exact L9 ok (by rw[<-aQ.1];exact aQ.2.1)
   exact ih x ah
 exact all r x ah
theorem a4b(ok:g6 P w H h)(e:H a=B (.gf aW)):aW.length<=cN/\(a==uu)=aK/\∃xs,KT H aW xs/\h.DictOfH (Ez (n9 P w)) a xs:=La ok (.inl e)
end
def BH(H:ag)(a:I)(y:V)(r:Iw V):Prop:=
 (∃aW k,fg H a (.oW aW)/\y=ey k/\r=k7 aW k)∨∃aW k b,fg H a (.gf aW)/\y=.ref b/\H b=B (.tup (k.map ey))/\r=k7 aW k
def z0(H:ag)(a:I)(y v:V)(H':ag):Prop:=
 (∃aW k,H a=B (.oW aW)/\y=ey k/\aW.length<cN/\H'=av H a (.oW (iD aW k v)))∨∃aW k b,H a=B (.gf aW)/\y=.ref b/\H b=B (.tup (k.map ey))/\aW.length<cN/\H'=av H a (.gf (iD aW k v))
theorem BH.t{b:I}{k:sl Key}(e:H a=B (.gf aW))(hl:H b=B (.tup (k.map ey))):BH H a (.ref b) (k7 aW k):=.inr ⟨aW,k,b,.inl e,Y,hl,Y⟩
theorem z0.t{b:I}{k:sl Key}{v:V}(e:H a=B (.gf aW))(hl:H b=B (.tup (k.map ey)))(ar:aW.length<cN):z0 H a (.ref b) v (av H a (.gf (iD aW k v))):=.inr ⟨aW,k,b,e,Y,hl,ar,Y⟩
section
variable{v:V}{r:ae}
theorem Inv.big(D:Inv X a4 G H s):uu<s⁻¹:=by have h:mz<s⁻¹:=(D.mod.glob.keeps D.gK).lt;exact IX dQ h
theorem S7{h':bq}{t':Nat}{cG:dA}(D:Inv X a4 G H s)(j6:rI (H a))(ax:Ej a s.heap h')(aF:∃q,h'.get? a=B q)(new:hj X.prog X.w (av H a cG) h' a cG):Inv X a4 G (av H a cG) {s with heap:=h',toks:=t'}:=
 D.write (x:=a) (e:=a) j6 (.inl Y) (λb q a0 z=>(ax.2 b a0).trans z) aF new
theorem a4c{H':ag}{h':bq}{aW:sl (Key×V)}{vs:sl (Key×ae)}(z:aW.length<=cN)(hd:(a==uu)=aK)(qS:kP aW vs)(dd:h'.DictOf (n9 P w) a vs):hj P w H' h' a (.oW aW):=⟨z,hd,vs,qS,dd⟩
theorem a4d{H':ag}{Q:Unit->ay->Prop}(bx:A.units+1<uk)(D:Inv X a4 G H s)(g:z0 H a y v H')(cD:RelV y u)(cB:RelV v r)(h:∀a_,Inv X a4 G H' a_->Q () a_):b7 (bp X.prog X.w) A (setItem (.ref a) u r) Q E s:=by
 obtain⟨aW,k,e,ph,l,Lb⟩|⟨aW,k,b,e,ph,hl,l,Lb⟩:=g
 .subst ph Lb;obtain⟨z,hd,vs,qS,dd⟩:=a4a D.bQ e;have aR:vs.length<=cN:=by rw[<-qS.length];exact z
  have ar:(iD aW k v).length<=cN:=by have:=FA aW k v;lia
  refine wpAny_setItem_pairs (hsz:=aR) (L7 cD) dd λh' FC ax=>h _ ?_;have aF:∃q,h'.get? a=B q:=let⟨q,_,_,aQ,_⟩:=FC;⟨q,aQ⟩
  exact S7 D (by rw[e];exact B0) ax aF (a4c ar hd (qS.put k cB) FC)
 subst ph Lb;cases(show u=dO b from cD);obtain⟨z,hd,xs,qS,dd⟩:=a4b D.bQ e;have aR:xs.length<=cN:=by rw[<-a1j qS];exact z
 have ar:(iD aW k v).length<=cN:=by have:=FA aW k v;lia
 refine wpAny_setItem_heap (hsz:=aR) (ake bx) (L9 D.bQ hl) dd λh' FC ax=>h _ ?_;obtain⟨q,b5,fZ,aQ,a5,aG,cJ,_,f7⟩:=FC;refine S7 D (by rw[e];exact B0) ax ⟨q,aQ⟩ ⟨ar,hd,_,(qS.put k hl cB).keeps λc _ qT=>?_,q,b5,fZ,aQ,a5,aG,cJ,f7⟩;rw[aM (JA qT e (λz=>nomatch z))];exact qT
end
def a4e(a' ty k4:bZ):ez:=λaf G H=>k4 G H λv ai=>a' G ai λx au=>ty G au λy bc=>∃a cU,x=.ref a/\z0 bc a y v cU/\af.c8 G cU
variable{a':bZ}
section
variable{o i lr:bO}{ja lu:Pos}{ty k4:bZ}
theorem S8(bx:X.A.units+1<uk)(aU:bS X o a')(hi:bS X i ty)(bk:bS X lr k4)(ax:sN lr (B (.Subscript o i ja)) pos.line X.env=pure aK):jr X (.Assign [.Subscript o i ja] lr pos) (a4e a' ty k4):=by intro a4 s G H _ D h;refine wpAny_Assign_Subscript (bW (bk a4 s G H _ D h) λr s1 ⟨v,ai,aP,cB,bw⟩=>bW (aU a4 s1 G ai _ aP bw) λu s2 ⟨x,au,cM,ct,cy⟩=>bW (hi a4 s2 G au _ cM cy) λ_ _ ⟨y,_,dJ,cD,a,cU,ex,g,h9⟩=>?_) ax;subst ex;obtain rfl:u=dO a:=ct;exact a4d bx dJ g cD cB λ_ f'=>⟨G,cU,f',h9⟩
end
theorem a4f(h:bq)(a0:uu<h.objs.size):hj P w H (h.push {cls:=.type "dict",data:=.dict #[]}) h.objs.size (.gf []):=
 ⟨es _,EO.mpr (ej (h3 a0)),[],.nil,_,#[],0,hW _ Y,⟨Y,Y,Y⟩,Y,Y,aiS⟩
def a4g:bZ:=λ_ H Q=>∀p,H p=aa->Q (.ref p) (av H p (.gf []))
theorem a4h:bS X (.Dict [] [] pos) a4g:=λ_ s G H Q D h=>wpAny_Dict_empty ⟨.ref s⁻¹,_,D.laid (a:=s⁻¹) (o:=.gf []) (t':=s.toks) (λ_ _ q=>ef _ q) (cP _) (a4f s.heap D.big),Y,h _ (D.bQ.fresh (cP _))⟩
structure a4i (X:bA) (o:bO) (m:a8) (fw:Pos) (e f:bO) (k6:Pos):Prop where
 base:yi o m X.env (eval o X.env)=eval o X.env
 a4j:((lS k6 (fI [e,f] X.env)).all (λx=>!x.1)&&(uj k6 (um [] X.env)).all (λx=>x.1.isSome)
  &&decide (([e,f]:sl bO).length+([]:sl J3).length+(if([]:sl J3).isEmpty then 0 else 1)<30))=a9
 line:(fw.endLine==k6.line)=a9
 trees:lS k6 (fI [e,f] X.env)=[(aK,eval e X.env),(aK,eval f X.env)]
def S9(H:ag)(a:I):Prop:=(∃aW,fg H a (.oW aW))∨∃aW,fg H a (.gf aW)
theorem a4k(D:Inv X a4 G H s)(d:S9 H a):s.TypeIs (.ref a) "dict"/\(∀b,dO a=.ref b->∃cG,s.heap.get? b=B cG/\cG.dict=aa)/\(a==uu)=aK:=by
 obtain⟨aW,e⟩|⟨aW,e⟩:=d
 .obtain⟨_,hd,_,_,dd⟩:=L8 D.bQ e;refine⟨dd.typeIs,λb q=>?_,hd⟩;cases q;obtain⟨cG,_,_,O,a5,_⟩:=dd;exact⟨cG,O,a5.2.1⟩
 obtain⟨_,hd,_,_,dd⟩:=La D.bQ e;refine⟨dd.typeIs,λb q=>?_,hd⟩;cases q;obtain⟨cG,_,_,O,a5,_⟩:=dd;exact⟨cG,O,a5.2.1⟩
section
variable{d:V}{r:ae}
theorem a4l(bx:A.units+1<uk)(D:Inv X a4 G H s)(g:BH H a y o)(cD:RelV y u)(cF:RelV d r)(h:∀jo a_,Inv X a4 G H a_->RelV (o.getD d) jo->Q jo a_):b7 (bp X.prog X.w) A (n4 (.builtin "dict.get") [.ref a,u,r]) Q E s:=by
 obtain⟨aW,k,e,ph,l⟩|⟨aW,k,b,e,ph,hl,l⟩:=g
 .subst ph;obtain⟨z,hd,_,qS,dd⟩:=L8 D.bQ e;refine call_meetsIn a1f dd.typeIs ajt (ajs _ _ _) (meets_dict_get_default (n9 X.prog X.w) a (L7 cD) hd r) ⟨_,dd.mapOf,h _ _ (D.tok _) ?_⟩;rw[l];exact(qS.val k).getD cF
 subst ph;cases(show u=dO b from cD);obtain⟨z,hd,xs,qS,dd⟩:=La D.bQ e;refine call_meetsIn a1f dd.typeIs ajt (ajs _ _ _) (meetsH_dict_get_default (Ez (n9 X.prog X.w)) a b hd r) ⟨ake bx,k,xs,L9 D.bQ hl,dd,h _ _ (D.tok _) ?_⟩;rw[l];exact(qS.val k).getD cF
end
def a4m(a' ty wQ:bZ):bZ:=λG H Q=>a' G H λx ai=>∃a,x=.ref a/\S9 ai a/\ty G ai λy au=>wQ G au λz bc=>∃o,BH bc a y o/\Q (o.getD z) bc
section
variable{o f:bO}{ty wQ:bZ}
theorem a4n(bx:X.A.units+1<uk)(aU:bS X o a')(aF:bS X e ty)(hf:bS X f wQ)(m:a4i X o "get" fw e f k6):bS X (.Call (.Attribute o "get" fw) [e,f] [] k6) (a4m a' ty wQ):=by intro a4 s G H Q D h;refine wpAny_Call_method m.base m.a4j m.line PySem.F.plainAttrs_dict a1f PySem.F.type_dict_get (bW (aU a4 s G H _ D h) λu s1 ⟨x,ai,aP,ct,a,ex,d,bw⟩=>?_);subst ex;obtain rfl:u=dO a:=ct;obtain⟨gQ,nz,_⟩:=a4k aP d;refine⟨gQ,nz,?_⟩;rw[m.trees];refine PU Y (a1c (PV (bW (aF a4 s1 G ai _ aP bw) λ_ s2 ⟨y,au,cM,cD,cy⟩=>PV (bW (hf a4 s2 G au _ cM cy) λ_ _ ⟨z,bc,dJ,Ke,_,g,h9⟩=>a1d ?_))));exact a4l bx dJ g cD Ke λ_ _ f' Bs=>⟨_,bc,f',Bs,h9⟩
end
section
variable{h':bq}
theorem Inv.Sa{t':Nat}{ch:sl I}(D:Inv X a4 G H s)(k:∀b o,b∉ch->s.heap.get? b=B o->h'.get? b=B o)(hf:∀b∈ch,kT X a4 H b):Inv X a4 G H {s with heap:=h',toks:=t'}:=by
 have uD:∀b u,H b=B u->b∉ch:=λb u e z=>by have q:=(hf b z).1;rw[q]at e;cases e
 refine D.step (g':=s.gens) (d':=s.drawn) (ch:=ch) (λb a0=>⟨(hf b a0).2.2.2.1,(hf b a0).2.1,(hf b a0).2.2.2.2.1,(hf b a0).2.2.2.2.2⟩) (λb o _ _ a7 e _=>k b o a7 e) (λb o _ _ a7 e _=>⟨o.slots,k b o a7 e⟩)
  (λ_ _ _ _ n=>n) (λb o a7 e=>⟨o,k b o a7 e⟩) (λ_ _ e=>e) (λ_ _ _ e=>e) (λb _ e=>⟨#[],by rw[e];simp⟩) (λm hm=>?_) (λb u e=>?_) D.bare
 .obtain⟨o,b5,fZ,aU,r⟩:=hm;exact⟨o,b5,fZ,k _ o (λz=>(hf _ z).2.1 Y) aU,r⟩
 refine(D.bQ b u e).rH (λc v a7 q=>k c v ?_ q) (λ_ q=>q) λ_ _ q=>q;obtain z|z:=a7
 .rw[z];exact uD b u e
 exact uD c _ z
theorem Inv.FD{t':Nat}{ch:sl I}{T:I}{cG:dA}(D:Inv X a4 G H s)(k:∀b o,b∉ch->s.heap.get? b=B o->h'.get? b=B o)(hf:∀b∈ch,kT X a4 H b)(dq:s⁻¹<=T)(new:hj X.prog X.w (av H T cG) h' T cG):Inv X a4 G (av H T cG) {s with heap:=h',toks:=t'}:=by
 have aH:H T=aa:=D.bQ.fresh dq;have uD:∀b u,H b=B u->b∉ch:=λb u e z=>by have q:=(hf b z).1;rw[q]at e;cases e
 refine D.step (g':=s.gens) (d':=s.drawn) (ch:=ch) (λb a0=>⟨(hf b a0).2.2.2.1,(hf b a0).2.1,(hf b a0).2.2.2.2.1,(hf b a0).2.2.2.2.2⟩) (λb o _ _ a7 e _=>k b o a7 e) (λb o _ _ a7 e _=>⟨o.slots,k b o a7 e⟩)
  (λb o _ e n=>?_) (λb o a7 e=>⟨o,k b o a7 e⟩) (λb xs e=>?_) (λb o u e=>?_) (λb _ e=>⟨#[],?_⟩) (λm hm=>?_) (λb u e=>?_) D.bare
 .rw[aM (h3 (la (dI e) dq))];exact n
 .rw[aM (cV e aH)];exact e
 .rw[aM (cV e aH)];exact e
 .rw[aM (cV e aH),e];simp
 .obtain⟨o,b5,fZ,aU,r⟩:=hm;exact⟨o,b5,fZ,k _ o (λz=>(hf _ z).2.1 Y) aU,r⟩
 by_cases a0:b=T
 .subst a0;rw[b3]at e;cases e;exact new
 rw[aM a0]at e;refine(D.bQ b u e).rH (λc v a7 q=>k c v ?_ q) (λc q=>by rw[aM (cV q aH)];exact q) λc xs q=>by rw[aM (cV q aH)];exact q
 obtain z|z:=a7
 .rw[z];exact uD b u e
 exact uD c _ z
end
theorem Lc{R:iz->ag->Prop}{d5:iz}{tn:Nat->bq->Prop}{tk:Nat}(D:Inv X a4 G H s)(o:bH)(T:rQ X.prog X.w X.K tg d5 [s⁻¹] s⁻¹ tn)(st:tn 0 (s.heap.push o))(q:R d5 H):F1 X a4 G tg R (.ref s⁻¹) {s with heap:=s.heap.push o,toks:=tk}:=by
 refine⟨s⁻¹,[s⁻¹],tn,d5,H,Y,D.kept λb _ e=>ef _ e,T,st,λb a0=>?_,q⟩;have e:b=s⁻¹:=by simpa using a0
 subst e;exact D.qG (cP _) (D.bQ.fresh (cP _))
def BI(lo c:Int)(n:Nat):iz:=⟨λi _=>i<n,λi H x H'=>H'=H/\x=.int (lo+(i:Nat)*c),λi _=>n<=i⟩
theorem a4o(b0:I)(lo c:Int)(n:Nat):rQ P w K tg (BI lo c n) [b0] b0 (λi h=>P' h b0 (lo+(i:Nat)*c) ((n:Int)-(i:Nat)) c) where
 mem:=by simp
 obj:=λi h st b a0=>by
  have e:b=b0:=by simpa using a0
  subst e;exact⟨_,st,λv z=>nomatch z⟩
 keep:=λi h h' st k=>k b0 (by simp) _ st
 item:=by intro X bI hw fB a7 i a4 s G H E D hf st aI;subst bI hw fB;obtain⟨f_,dU,f2,dx,fh,fi⟩:=hf b0 (by simp);have W:=ajV (prog:=X.prog) (w:=X.w) (D.ok.hd a7) b0 lo c n;refine W.item i s _ _ aI st λv h' tk bk lX c9=>?_;obtain⟨t,rfl⟩:=bk;have aP:Inv X a4 G H {s with heap:=h',toks:=tk}:=D.turned (λb o a0 e=>c9 b o (by simpa using a0) e) f_ dU dx fh fi;exact⟨_,Y,yM (s:={s with heap:=h',toks:=tk}) (n:="range_iterator") lX Y Y dQ ⟨.int (lo+(i:Nat)*c),H,aP,⟨t,Y⟩,⟨Y,Y⟩,lX,λb a0=>(hf b a0).1⟩⟩
 done:=by intro X bI hw fB a7 i a4 s G H E D hf st aI;subst bI hw fB;obtain⟨f_,dU,f2,dx,fh,fi⟩:=hf b0 (by simp);exact akv (D.ok.hd a7) st (by have:n<=i:=aI;lia) λh' hl=>⟨Y,D.turned (t':=s.toks) (λb o a0 e=>hl b o a0 e) f_ dU dx fh fi⟩
 self:=λA i s Q E st h=>akt st h
def BJ(i j c:Int)(n:Nat):Prop:=c≠0/\c.natAbs<1073741824/\am5 i j c=a9/\a19 i j c=n
theorem BJ.neg{i j:Int}(bf: -(2^62)<=i)(a4p:i<2^62)(a0: -(2^62)<=j)(s':j<2^62):BJ i j (-1) (i-j).toNat:=
 ⟨dQ,dQ,PySem.W.small_down bf a4p a0 s',PySem.W.rangeSize_downNat i j⟩
def a4q(c1:gA):TI:=λG H R=>c1 G H λvs ai=>∃(i j c:Int)(n:Nat),vs=[.int i,.int j,.int c]/\BJ i j c n/\R (BI i c n) ai
theorem a4r{a b c:bO}{c1:gA}{p:Pos}(aI:hJ X "range")(hm:X.a6 "range" =aa)(bf:hI X [a,b,c] c1)(ax:fI [a,b,c] X.env=(aK,eval a X.env)::fI [b,c] X.env:=by rfl)(eN:(lS pos (fI [b,c] X.env)).any (·.1)=aK:=by rfl):
  qH X tg (.Call (.Name "range" p) [a,b,c] [] pos) (a4q c1):=by
 intro a4 s G H R D h;refine I_ (wm D aI hm boot_range (Ei (bW (bf pos a4 s G H _ D h) λ_ s1 ⟨_,ai,aP,cx,bw⟩=>?_) ax eN));obtain⟨i,j,k,n,e,⟨BK,eO,gm,tf⟩,q⟩:=bw;subst e;cases cx with
 |cons r iQ=>
  cases iQ with
  |cons g7 iQ=>
   cases iQ with
   |cons a4s iQ=>
    cases iQ;obtain⟨t,rfl⟩:=r;obtain⟨t',rfl⟩:=g7;obtain⟨a4t,rfl⟩:=a4s;refine call_range_3 BK ?_ (.inl (aji eO));refine aks (ajB ..) gm ?_;have cM:Inv X a4 G ai {s1 with heap:=s1.heap.push {cls:=.type "range",data:=.fields #[.int i t,.int j t',.int k a4t]}}:=aP.kept (t':=s1.toks) λb o e=>ef _ e;refine Lc (tk:=s1.toks) cM _ (a4o _ i k n) ?_ q;have aO:i+((0:Nat):Int)*k=i:=by simp
    have aT:(n:Int)-((0:Nat):Int)=a19 i j k:=by rw[tf];simp
    show P' _ _ (i+((0:Nat):Int)*k) ((n:Int)-((0:Nat):Int)) k;rw[aO,aT];exact hW _ Y
theorem a4u{lo c:Int}{cf:ez}{af:Ends}(Pv:Nat->St->ag->Prop)(b8:Pv 0 G H)(ax:∀i G H,i<n->Pv i G H->g (.int (lo+(i:Nat)*c)) G H λcQ au=>cf {af with c8:=Pv (i+1),dX:=Pv (i+1),gK:=af.c8} cQ au)(hd:∀G H,Pv n G H->af.c8 G H):∃W:Nat->Nat->St->ag->Prop,(∃m,W 0 m G H)/\∀i m G H,W i m G H->((BI lo c n).stop i H/\af.c8 G H)∨((BI lo c n).go i H/\∃N:St->ag->Prop,(∀aN H',N aN H'->∃m',m'<m/\W (i+1) m' aN H')/\∀x H',(BI lo c n).j' i H x H'->g x G H' λcQ au=>cf {af with c8:=N,dX:=N,gK:=af.c8} cQ au):=by
 refine⟨λi m G H=>m=n-i/\i<=n/\Pv i G H,⟨n,by simp,es _,b8⟩,?_⟩;rintro i m G H ⟨rfl,hi,p⟩;by_cases c6:i<n
 .refine .inr ⟨c6,Pv (i+1),λaN H' fS=>⟨n-(i+1),by lia,Y,c6,fS⟩,λx H' y=>?_⟩;obtain⟨e,y⟩:=y;subst e y;exact ax i G _ c6 p
 have e:i=n:=by lia
 subst e;exact .inl ⟨cP _,hd G H p⟩
def pj(x:a8):iz:=⟨λi _=>i<x.cps.size,λi H v H'=>H'=H/\∃c,x.cps[i]? =B c/\v=.str ⟨#[c]⟩,λi _=>x.cps.size<=i⟩
theorem z1(b0:I)(x:a8)(t:jL)(ty:String)(uP:ty="str_ascii_iterator"∨ty="str_iterator"):rQ P w K tg (pj x) [b0] b0 (λi h=>h.IsStrIter b0 ty x t i) where
 mem:=by simp
 obj:=λi h st b a0=>by
  have e:b=b0:=by simpa using a0
  subst e;obtain⟨o,e,c,d⟩:=st;exact⟨o,e,λv z=>by rw[d]at z;cases z⟩
 keep:=λi h h' st k=>let⟨o,aU,r⟩:=st;⟨o,k b0 (by simp) o aU,r⟩
 item:=by
  intro X bI hw fB a7 i a4 s G H E D hf st aI;subst bI hw fB;obtain⟨f_,dU,f2,dx,fh,fi⟩:=hf b0 (by simp);have W:Walks X.prog X.w X.A b0 [b0] [b0] x.cps.size (SignAt x) (λi h=>h.IsStrIter b0 ty x t i):=by
   obtain e|e:=uP
   .rw[e];exact Walks.strAscii (D.ok.hd a7) b0 x t
   rw[e];exact Walks.strWide (D.ok.hd a7) b0 x t
  have iE:["enumerate","zip","dict_itemiterator","dict_reverseitemiterator","odict_iterator","itertools.zip_longest","itertools.pairwise"].contains ty=aK:=by
   obtain e|e:=uP
   .rw[e];decide
   rw[e];decide
  refine W.item i s _ _ aI st λv h' tk bk lX c9=>?_;obtain⟨c,u,z2,rfl⟩:=bk;have aP:Inv X a4 G H {s with heap:=h',toks:=tk}:=D.turned (λb o a0 e=>c9 b o (by simpa using a0) e) f_ dU dx fh fi;obtain⟨_,e,Ld,dd⟩:=id lX;exact⟨_,Y,yM (s:={s with heap:=h',toks:=tk}) e Ld dd iE ⟨.str ⟨#[c]⟩,H,aP,⟨u,Y⟩,⟨Y,c,z2,Y⟩,lX,λb a0=>(hf b a0).1⟩⟩
 done:=by
  intro X bI hw fB a7 i a4 s G H E D hf st aI;subst bI hw fB;obtain⟨f_,dU,f2,dx,fh,fi⟩:=hf b0 (by simp);have ah:x.cps[i]? =aa:=aiq aI;obtain e|e:=uP
  .rw[e]at st;exact wpAny_pyNext_ascii_end (D.ok.hd a7) st ah λh' hl=>⟨Y,D.turned (t':=s.toks) (λb o a0 e=>hl b o a0 e) f_ dU dx fh fi⟩
  rw[e]at st;exact wpAny_pyNext_wide_end (D.ok.hd a7) st ah λh' hl=>⟨Y,D.turned (t':=s.toks) (λb o a0 e=>hl b o a0 e) f_ dU dx fh fi⟩
 self:=λA i s Q E st h=>by
  obtain e|e:=uP
  .rw[e]at st;exact wpAny_pyIter_striter_ascii st h
  rw[e]at st;exact wpAny_pyIter_striter_wide st h
def a4w(b_:bZ):TI:=λG H R=>b_ G H λv ai=>∃x,v=.str x/\R (pj x) ai
theorem Sb(aF:bS X e b_):qH X tg e (a4w b_):=by
 intro a4 s G H R D h;refine bW (aF a4 s G H _ D h) λv s1 ⟨y,_,aP,cx,x,ex,q⟩=>?_;subst ex;obtain⟨t,rfl⟩:=cx;cases bf:x.cps.all (·<128)
 .exact wpAny_pyIter_wide bf (Lc (tk:=s1.toks) aP _ (z1 _ x t "str_iterator" (.inr Y)) ⟨_,hW _ Y,Y,Y⟩ q)
 exact akr bf (Lc (tk:=s1.toks) aP _ (z1 _ x t "str_ascii_iterator" (.inl Y)) ⟨_,hW _ Y,Y,Y⟩ q)
def uT(K:bb)(a:I):iz:=
 ⟨λi H=>∃(xs:sl V)(x:V),bo K H a xs/\xs[i]? =B x,λi H v H'=>∃T x,v=.ref T/\H T=aa/\H'=av H T (.tup [.int (i:Nat),x])/\∀xs,bo K H a xs->xs[i]? =B x,λi H=>∃xs:sl V,bo K H a xs/\xs.length<=i⟩
theorem a4x{kY:sl bO}{c9:Nat}{lu:Pos}(a e b0:I):rQ P w K (.Tuple kY c9 lu) (uT K a) [e,b0] e (λi h=>(∃pk,J2 h e b0 ((i:Nat):Int) pk)/\h.IsListIter b0 a i/\e≠b0) where
 mem:=by simp
 obj:=λi h st b a0=>by
  obtain⟨⟨pk,aF⟩,⟨o,aU,a7,hd⟩,_⟩:=st;have d8:b=e∨b=b0:=by simpa using a0
  obtain z|z:=d8
  .rw[z];exact⟨_,aF,λv q=>nomatch q⟩
  rw[z];exact⟨o,aU,λv q=>by rw[hd]at q;cases q⟩
 keep:=λi h h' st k=>let⟨⟨pk,aF⟩,hi,bV⟩:=st;⟨⟨pk,k e (by simp) _ aF⟩,hi.at λo q=>k b0 (by simp) o q,bV⟩
 item:=by
  intro X bI hw fB a7 i a4 s G H E D hf st aI;subst bI hw fB;obtain⟨⟨pk,aF⟩,gn,bV⟩:=st;obtain⟨xs,x,aQ,ah⟩:=aI;obtain⟨b6,cB,p,aR⟩:=D.list aQ;obtain⟨u,bx,hk⟩:=cB.get ah;have rV:e<s⁻¹:=dI aF;have Le:b0<s⁻¹:=by obtain⟨_,q,_⟩:=gn;exact dI q
  refine wpAny_pyNext_enum_item aF gn p.isList (x:=u) (by simpa using bx) bV λh' aU BL dq _ aA=>?_;refine⟨_,Y,akl (s:={s with heap:=h',toks:=s.toks+1}) aU λjy wI cI=>?_⟩;have wR:jy.get? s⁻¹=B {cls:=.type "tuple",data:=.seq #[.int i s.toks,u]}:=(cI.2 _ (y8 rV)).trans dq;have new:hj X.prog X.w (av H s⁻¹ (.tup [.int (i:Nat),x])) jy s⁻¹ (.tup [.int (i:Nat),x]):=
   ⟨by show 2<=cN;decide,[.int i s.toks,u],.cons ⟨_,Y⟩ (.cons hk .nil),⟨_,wR,Y,_,Y⟩⟩
  have aP:Inv X a4 G (av H s⁻¹ (.tup [.int (i:Nat),x])) {s with heap:=jy,toks:=s.toks+1}:=
   D.FD (ch:=[e,b0]) (λb cG a0 q=>(cI.2 b (λz=>a0 (by simp[z]))).trans (aA b cG (λz=>a0 (by simp[z])) (λz=>a0 (by simp[z])) q)) hf (cP _) new
  refine⟨.ref s⁻¹,_,aP,Y,⟨_,x,Y,D.bQ.fresh (cP _),Y,λ_ bl=>by rw[D.yI bl aQ];exact ah⟩,⟨⟨u,?_⟩,BL.at λo q=>(cI.2 b0 (ej bV)).trans q,bV⟩,λb a0=>?_⟩
  .have aO:((i+1:Nat):Int)=(i:Int)+1:=by lia
   rw[aO];exact wI
  have s':b<s⁻¹:=by
   have d8:b=e∨b=b0:=by simpa using a0
   obtain z|z:=d8
   .rw[z];exact rV
   rw[z];exact Le
  rw[aM (h3 s')];exact(hf b a0).1
 done:=by intro X bI hw fB a7 i a4 s G H E D hf st aI;subst bI hw fB;obtain⟨⟨pk,aF⟩,gn,bV⟩:=st;obtain⟨xs,aQ,ah⟩:=aI;obtain⟨b6,cB,p,aR⟩:=D.list aQ;obtain⟨f_,dU,_,dx,fh,fi⟩:=hf b0 (by simp);have ar:=cB.length;exact wpAny_pyNext_enum_end (D.ok.hd a7) aF gn p.isList (by simp;lia) λh' hl=>⟨Y,D.turned (t':=s.toks) (λb o a0 q=>hl b o a0 q) f_ dU dx fh fi⟩
 self:=λA i s Q E st h=>let⟨⟨_,aF⟩,_⟩:=st;Jj aF h
theorem Sd:Et "zip" =B (.type "zip"):=by decide+kernel
def ti(K:bb)(a b:I):iz:=
 ⟨λi H=>∃(xs ys:sl V)(x y:V),bo K H a xs/\bo K H b ys/\xs[i]? =B x/\ys[i]? =B y,λi H v H'=>∃T x y,v=.ref T/\H T=aa/\H'=av H T (.tup [x,y])/\(∀xs,bo K H a xs->xs[i]? =B x)/\∀ys,bo K H b ys->ys[i]? =B y,λi H=>∃xs ys:sl V,bo K H a xs/\bo K H b ys/\(xs.length<=i∨ys.length<=i)⟩
theorem a4y{kY:sl bO}{c9:Nat}{lu:Pos}{b z TI g4 gO g9:I}(af:a1t z TI g4 gO g9 a b):rQ P w K (.Tuple kY c9 lu) (ti K a b) [z,TI,g4,gO,g9] z (λi h=>Ek h z TI g4 .none/\AN h TI (.ref gO) (.ref g9)/\(∃x y,AN h g4 x y)/\h.IsListIter gO a i/\h.IsListIter g9 b i) where
 mem:=by simp
 obj:=λi h st c a7=>by
  obtain⟨aR,iW,⟨x,y,jz⟩,⟨o1,aO,_,p2⟩,⟨o2,aT,_,hb⟩⟩:=st;have d8:c=z∨c=TI∨c=g4∨c=gO∨c=g9:=by simpa using a7
  obtain q|q|q|q|q:=d8
  .rw[q];exact⟨_,aR,λv q=>nomatch q⟩
  .rw[q];exact⟨_,iW,λv q=>nomatch q⟩
  .rw[q];exact⟨_,jz,λv q=>nomatch q⟩
  .rw[q];exact⟨o1,aO,λv q=>by rw[p2]at q;cases q⟩
  rw[q];exact⟨o2,aT,λv q=>by rw[hb]at q;cases q⟩
 keep:=λi h h' st k=>by obtain⟨aR,iW,⟨x,y,jz⟩,O,a5⟩:=st;exact⟨k z (by simp) _ aR,k TI (by simp) _ iW,⟨x,y,k g4 (by simp) _ jz⟩,O.at λo q=>k gO (by simp) o q,a5.at λo q=>k g9 (by simp) o q⟩
 item:=by
  intro X bI hw fB a7 i a4 s G H E D hf st aI;subst bI hw fB;obtain⟨aR,iW,⟨Lf,Lg,jz⟩,O,a5⟩:=st;obtain⟨xs,ys,x,y,pn,pq,ah,bl⟩:=aI;obtain⟨b6,cB,p,_⟩:=D.list pn;obtain⟨nu,tj,eb,_⟩:=D.list pq;obtain⟨u,bx,hk⟩:=cB.get ah;obtain⟨gR,Lh,Li⟩:=tj.get bl;have BM:z<s⁻¹:=dI aR;refine akx af aR iW jz O a5 p.isList eb.isList (x:=u) (y:=gR) (by simpa using bx) (by simpa using Lh) λh' mI Lj uU BN dq _ aA=>?_;refine⟨_,Y,akm (s:={s with heap:=h'}) mI λjy Lk cI=>?_⟩;have wR:jy.get? s⁻¹=B {cls:=.type "tuple",data:=.seq #[u,gR]}:=(cI.2 _ (y8 BM)).trans dq;have new:hj X.prog X.w (av H s⁻¹ (.tup [x,y])) jy s⁻¹ (.tup [x,y]):=
   ⟨by show 2<=cN;decide,[u,gR],.cons hk (.cons Li .nil),⟨_,wR,Y,_,Y⟩⟩
  have aP:Inv X a4 G (av H s⁻¹ (.tup [x,y])) {s with heap:=jy}:=
   D.FD (t':=s.toks) (ch:=[z,TI,g4,gO,g9]) (λc o a0 q=>(cI.2 c (λeW=>a0 (by simp[eW]))).trans (aA c o (λeW=>a0 (by simp[eW])) (λeW=>a0 (by simp[eW])) (λeW=>a0 (by simp[eW])) (λeW=>a0 (by simp[eW])) q)) hf (cP _) new
  refine⟨.ref s⁻¹,_,aP,Y,⟨_,x,y,Y,D.bQ.fresh (cP _),Y,λl ar=>by rw[D.yI ar pn];exact ah,λl ar=>by rw[D.yI ar pq];exact bl⟩,⟨Lk,?_,⟨u,gR,?_⟩,?_,?_⟩,λc tl=>?_⟩
  .exact(cI.2 _ af.TIz).trans (aA _ _ af.TIz af.TITO af.TIi1 af.TIi2 iW)
  .exact(cI.2 _ af.TOz).trans Lj
  .exact uU.at λo q=>(cI.2 _ af.i1z).trans q
  .exact BN.at λo q=>(cI.2 _ af.i2z).trans q
  have c6:c<s⁻¹:=by
   have d8:c=z∨c=TI∨c=g4∨c=gO∨c=g9:=by simpa using tl
   obtain q|q|q|q|q:=d8
   .rw[q];exact BM
   .rw[q];exact dI iW
   .rw[q];exact dI jz
   .rw[q];obtain⟨_,aO,_⟩:=O;exact dI aO
   rw[q];obtain⟨_,aT,_⟩:=a5;exact dI aT
  rw[aM (h3 c6)];exact(hf c tl).1
 done:=by
  intro X bI hw fB a7 i a4 s G H E D hf st aI;subst bI hw fB;obtain⟨aR,iW,⟨Lf,Lg,jz⟩,O,a5⟩:=st;obtain⟨xs,ys,pn,pq,BO⟩:=aI;obtain⟨b6,cB,p,_⟩:=D.list pn;obtain⟨nu,tj,eb,_⟩:=D.list pq;have iX:=cB.length;have gD:=tj.length;have aF:b6.toArray[i]? =aa∨nu.toArray[i]? =aa:=by
   obtain q|q:=BO
   .exact .inl (by simp;lia)
   exact .inr (by simp;lia)
  exact wpAny_pyNext_zip_end (D.ok.hd a7) af aR iW jz O a5 p.isList eb.isList aF λh' aA=>⟨Y,D.Sa (t':=s.toks) (ch:=[z,TI,g4,gO,g9]) (λc o a0 q=>aA c o (λeW=>a0 (by simp[eW])) (λeW=>a0 (by simp[eW])) (λeW=>a0 (by simp[eW])) (λeW=>a0 (by simp[eW])) q) hf⟩
 self:=λA i s Q E st h=>Qg st.1 h
def Se(K:bb)(c1:gA):TI:=λG H R=>c1 G H λvs ai=>∃a b xs ys,vs=[.ref a,.ref b]/\bo K ai a xs/\bo K ai b ys/\R (ti K a b) ai
theorem a4z{aT:bO}{c1:gA}{p lu:Pos}{kY:sl bO}{c9:Nat}(aI:hJ X "zip")(hm:X.a6 "zip" =aa)(bf:hI X [e,aT] c1)(ax:fI [e,aT] X.env=(aK,eval e X.env)::fI [aT] X.env:=by rfl)(eN:(lS pos (fI [aT] X.env)).any (·.1)=aK:=by rfl):
  qH X (.Tuple kY c9 lu) (.Call (.Name "zip" p) [e,aT] [] pos) (Se X.K c1):=by
 intro a4 s G H R D h;refine I_ (wm D aI hm Sd (Ei (bW (bf pos a4 s G H _ D h) λ_ s1 ⟨_,ai,aP,cx,bw⟩=>?_) ax eN));obtain⟨a,b,_,_,ex,pn,pq,q⟩:=bw;subst ex;cases cx with
 |cons r iQ=>
  cases iQ with
  |cons g7 iQ=>
   cases iQ;cases r;cases g7;obtain⟨_,_,i0,_⟩:=aP.list pn;obtain⟨_,_,eb,_⟩:=aP.list pq;have Ll:a<s1⁻¹:=i0.lt;have Lm:b<s1⁻¹:=eb.lt;refine call_zip_2 i0.isList eb.isList λh' aR iW jz O a5 _ aA=>Qg aR ?_;have cM:Inv X a4 G ai {s1 with heap:=h'}:=aP.kept (t':=s1.toks) aA;refine⟨s1⁻¹+4,[s1⁻¹+4,s1⁻¹+2,s1⁻¹+3,s1⁻¹,s1⁻¹+1],_,_,ai,Y,cM,a4y (ajS s1⁻¹ a b Ll Lm),⟨aR,iW,⟨_,_,jz⟩,O,a5⟩,λc tl=>?_,q⟩;have d8:c=s1⁻¹+4∨c=s1⁻¹+2∨c=s1⁻¹+3∨c=s1⁻¹∨c=s1⁻¹+1:=by simpa using tl
   have hq:s1⁻¹<=c:=by
    obtain z|z|z|z|z:=d8
    .rw[z];exact rx _ _
    .rw[z];exact rx _ _
    .rw[z];exact rx _ _
    .rw[z];exact cP _
    rw[z];exact rx _ _
   exact aP.qG hq (aP.bQ.fresh hq)
end L2
section
namespace Bits
open PySem PyProof.Rows
end Bits
end
section
namespace TL
open PySem PySem.Builtin PySem.Builtin.Str PySem.StrLaws
abbrev dY(x:a8):sl Nat:=x.cps.toList
theorem Ln{x y:a8}(h:dY x=dY y):x=y:=Str.ext' (Array.toList_inj.mp h)
theorem Sf(x y:a8):dY (x++y)=dY x++dY y:=by show(x++y).cps.toList=_;rw[Str.cps_append,Array.toList_append]
def z3(S:sl Nat):sl (sl Nat)->sl Nat
 |[]=>[]
 |[p]=>p
 |p::q::r=>p++(S++z3 S (q::r))
theorem FE(y:a8):∀z4:sl a8,dY (a1m y z4)=z3 (dY y) (z4.map dY)
 |[]=>rfl
 |[_]=>rfl
 |x::z::r=>by show dY (x++y++a1m y (z::r))=dY x++(dY y++z3 (dY y) ((z::r).map dY));rw[Sf,Sf,FE y (z::r),lP]
theorem join_eq(y:a8)(z4:sl a8):Eo y z4=a1m y z4:=glued_eq_join y z4
end TL
end
namespace L2
open PySem PySem.Spec PyProof.Rows
theorem a4A{n:Nat}(h:n<=16777216):a1a n=aK:=by
 have e:(2:Nat)^24=16777216:=by decide
 unfold a1a cN;exact gW (by lia)
theorem Lo:∀{ys:sl a8}{us:sl ae},cC (ys.map V.str) us->StrsAre us ys
 |[],_,.nil=>.nil
 |y::ys,_,.cons r t=>by obtain⟨k,rfl⟩:=r;exact .cons y k (Lo t)
variable{X:bA}
theorem a4B:yX X "str.join" (λx xs H Q=>∃a p,∃ys:sl a8,x=.str a/\xs=[.ref p]/\(bo X.K H p (ys.map V.str)∨dt X.K H p (ys.map V.str))/\(ys.map (·.length)).sum+ys.length*a.length<=16777216/\Q (.str (Eo a ys)) H):=by
 intro _ s G H x xs v _ Q D ct cY h;obtain⟨a,p,ys,rfl,rfl,aq,aR,h⟩:=h;obtain⟨t,rfl⟩:=ct;cases cY with
 |cons cx cY=>
  cases cY;cases cx;obtain aq|aq:=aq
  .obtain⟨b6,r,⟨o,n,aU,a7,_,hd⟩,_⟩:=D.list aq;exact alZ (items:=b6.toArray) ⟨o,aU,a7,n,hd⟩ (by rw[aiW];exact Lo r) aR λt' k=>⟨.str _,H,D.tok k,⟨t',Y⟩,h⟩
  obtain⟨b6,r,b9,_⟩:=D.tuple aq;exact am0 (items:=b6.toArray) b9 (by rw[aiW];exact Lo r) aR λt' k=>⟨.str _,H,D.tok k,⟨t',Y⟩,h⟩
theorem a4C{id:String}{g:a8->a8->V}(qA:∀(a b:a8)(t u:jL)(s:ay)(Q:ae->ay->Prop),(∀(v:ae)(k:Nat),RelV (g a b) v->Q v {s with toks:=k})->b7 (bp X.prog X.w) X.A (n4 (.builtin id) [.str a t,.str b u]) Q X.bL s):yX X id (λx xs H Q=>∃a b,x=.str a/\xs=[.str b]/\Q (g a b) H):=by intro _ s G H x xs v _ Q D ct cY h;obtain⟨a,b,rfl,rfl,h⟩:=h;obtain⟨t,rfl⟩:=ct;cases cY with|cons cx cY=>cases cY;obtain⟨u,rfl⟩:=cx;exact qA a b t u s _ λv k r=>⟨g a b,H,D.tok k,r,h⟩
theorem a4D:yX X "str.find" (λx xs H Q=>∃a b,x=.str a/\xs=[.str b]/\Q (.int (En a b)) H):=
 a4C (g:=λa b=>.int (En a b)) λ_ _ _ _ s _ h=>PySem.SC.find (h _ (s.toks+1) ⟨_,Y⟩)
section
variable{o e:bO}{to b_:bZ}
def Sg(r:V->sl V->ag->c2->Prop)(to b_:bZ):bZ:=λG H Q=>to G H λx ai=>(∃a,x=.str a)/\b_ G ai λy au=>r x [y] au Q
theorem Sh{id:String}{name:a8}{fw pos:Pos}{r:V->sl V->ag->c2->Prop}(slot:Slot "str" name id)(ty:typeOf (.builtin id)=pure (.type "method_descriptor"))(qA:yX X id r)(aU:bS X o to)(aF:bS X e b_)(ax:fI [e] X.env=[(aK,eval e X.env)]:=by rfl)(qM:yi o name X.env (eval o X.env)=eval o X.env:=by rfl)(wG:(fw.endLine==pos.line)=a9:=by rfl):
  bS X (.Call (.Attribute o name fw) [e] [] pos) (Sg r to b_):=by
 intro a4 s G H Q D h;refine PySem.Call_method1 qM ax wG (bW (aU a4 s G H _ D h) λv s1 ⟨x,ai,aP,cx,bw⟩=>?_);obtain⟨⟨a,rfl⟩,bw⟩:=bw;obtain⟨t,rfl⟩:=_root_.id cx;refine⟨"str",_,F.plainAttrs_str,slot,ty,Qe _ _ _,(λ_ e=>nomatch e),PU Y (a1c (PV ?_))⟩;exact bW (aF a4 s1 G ai _ aP bw) λu s2 ⟨y,au,cM,dT,cy⟩=>a1d (qA a4 s2 G au _ [y] _ [u] Q cM cx (.cons dT .nil) cy)
theorem BP{fw pos:Pos}(aU:bS X o to)(aF:bS X e b_)(ax:fI [e] X.env=[(aK,eval e X.env)]:=by rfl)(qM:yi o "join" X.env (eval o X.env)=eval o X.env:=by rfl)(wG:(fw.endLine==pos.line)=a9:=by rfl):
  bS X (.Call (.Attribute o "join" fw) [e] [] pos) (Sg (λx xs H Q=>∃a p,∃ys:sl a8,x=.str a/\xs=[.ref p]/\(bo X.K H p (ys.map V.str)∨dt X.K H p (ys.map V.str))/\(ys.map (·.length)).sum+ys.length*a.length<=16777216/\Q (.str (Eo a ys)) H) to b_):=
 Sh F.slot_str_join F.type_str_join a4B aU aF ax qM wG
end
theorem FF:hB X (n5 .NotIn) (λx y H Q=>∃(c:Nat)(z:a8),x=.str ⟨#[c]⟩/\y=.str z/\Q (.c3 (!decide (c∈z.cps.toList))) H):=by intro _ s G H x y v u Q D ct cD h;obtain⟨c,z,rfl,rfl,q⟩:=h;obtain⟨t,rfl⟩:=ct;obtain⟨_,rfl⟩:=cD;exact am1 (hn D q (g5 Bool.not (amK z c).symm))
theorem IsPart.raw{v:ae}{o:Iw Int}(p:IsPart v o):∃l:Iw (Int×jL),v=partValue l/\l.map (·.1)=o:=by cases p with|none=>exact⟨aa,rfl,rfl⟩|int i t=>exact⟨B (i,t),rfl,rfl⟩
noncomputable def BQ(n d:Nat):Iw Int->Int
 |none=>(d:Int)
 |some i=>max 0 (min (if i<0 then i+(n:Int)else i) (n:Int))
theorem Si(n d:Nat)(o:Iw Int):BQ n d o=((HT.eA n d o:Nat):Int):=by
 cases o with
 |none=>rfl
 |some v=>
  show max (0:Int) (min (if v<0 then v+(n:Int)else v) (n:Int))=(((if v<0 then(v+(n:Int)).toNat else min v.toNat n):Nat):Int);by_cases bk:v<0
  .simp only[aZ bk]
   lia
  simp only[aL bk]
  lia
theorem a4E(a b:Iw Int)(n:Nat):w2 a b 1 n=sliceRange (BQ n 0 a) (BQ n n b) 1:=by
 have O:((1:Int)>0)=True:=by simp
 cases a<;>cases b<;>first
  |rfl
  |(simp only[w2,BQ,O,jO];rfl)
  |simp[w2,BQ]
theorem a4F(a b:Iw Int)(n:Nat):w2 a b 1 n=(eI (HT.eA n n b-HT.eA n 0 a)).map (λk=>HT.eA n 0 a+k):=by
 rw[a4E,Si,Si];generalize HT.eA n 0 a=p;generalize HT.eA n n b=q;simp only[sliceRange,show((1:Int)>0)=True from by simp,jO];by_cases c6:(p:Int)<q
 .have e1:(((q:Int)-p+1-1)/1).toNat=q-p:=by first|lia|(simp;done)|(simp;lia)
  simp only[c6,jO,e1];refine ud λk _=>?_
  lia
 have:q-p=0:=by lia
 simp[c6,this]
def BR(z:a8)(lo hi:Iw Int):a8:=
 ⟨((z.cps.toList.drop (HT.eA z.length 0 lo)).take (HT.eA z.length z.length hi-HT.eA z.length 0 lo)).toArray⟩
theorem Sj(z:a8)(lo hi:Iw Int):Em z lo hi=BR z lo hi:=by
 have O:HT.eA z.length 0 lo<=z.length:=HT.Ry _ _ (es _) _;have a5:HT.eA z.length z.length hi<=z.length:=HT.Ry _ _ (cP _) _;have aq:HT.eA z.length 0 lo<=max (HT.eA z.length 0 lo) (HT.eA z.length z.length hi):=a0T _ _;have aQ:max (HT.eA z.length 0 lo) (HT.eA z.length z.length hi)<=z.length:=a0V.mpr ⟨O,a5⟩;have hd:max (HT.eA z.length 0 lo) (HT.eA z.length z.length hi)-HT.eA z.length 0 lo=HT.eA z.length z.length hi-HT.eA z.length 0 lo:=by lia
 have e:w2 lo hi 1 z.length=w2 (B ((HT.eA z.length 0 lo:Nat):Int)) (B ((max (HT.eA z.length 0 lo) (HT.eA z.length z.length hi):Nat):Int)) 1 z.length:=by rw[amM aq aQ,hd,a4F]
 have aT:Em z lo hi=Em z (B ((HT.eA z.length 0 lo:Nat):Int)) (B ((max (HT.eA z.length 0 lo) (HT.eA z.length z.length hi):Nat):Int)):=by unfold Em;rw[e]
 rw[aT,amL z aq aQ,hd];rfl
theorem a4G(z:a8)(lo hi:Iw Int):(BR z lo hi).length<=z.length:=by
 show(((z.cps.toList.drop (HT.eA z.length 0 lo)).take (HT.eA z.length z.length hi-HT.eA z.length 0 lo)).toArray).size<=z.cps.size;rw[j4,ko,m_,a0t]
 lia
def a4H:V->Iw Int->Iw Int->ag->c2->Prop:=λx lo hi H Q=>∃z,x=.str z/\z.length<=cN/\Q (.str (BR z lo hi)) H
theorem a4I:Kr X a4H:=by
 intro a4 s G H x v _ _ _ _ _ Q D ct ax pl Bq h;obtain⟨z,rfl,aR,q⟩:=h;obtain⟨t,rfl⟩:=ct;obtain⟨os,a4J,Lp,Lq⟩:=ax;obtain⟨l,rfl,rfl⟩:=IsPart.raw pl;obtain⟨u,rfl,rfl⟩:=IsPart.raw Bq;refine⟨"str",_,F.slot_str_getitem.lookup,Qe _ _ _,?_⟩;refine wpAny_getItem_str_slice (l:=l) (u:=u) (st:=aa) ⟨os,a4J,Lp,Lq⟩ Y ?_;have ar:(Em z (l.map (·.1)) (u.map (·.1))).length<=cN:=by rw[Sj];exact dE (a4G z _ _) aR
 rw[<-Sj]at q;unfold Em at q ar;show Made.post (if((1:Int)==1&&(w2 (l.map (·.1)) (u.map (·.1)) 1 z.length).length==z.length)=a9 then Made.val (.str z t)else Made.str ⟨((w2 (l.map (·.1)) (u.map (·.1)) 1 z.length).filterMap (z.cps[·]?)).toArray⟩) (h_ X a4 G Q) s;by_cases c:((1:Int)==1&&(w2 (l.map (·.1)) (u.map (·.1)) 1 z.length).length==z.length)=a9
 .rw[aZ c]at q ⊢;exact⟨.str z,H,D,⟨t,Y⟩,q⟩
 rw[aL c]at q ar ⊢;exact⟨ar,.str _,H,D.tok _,⟨_,Y⟩,q⟩
end L2
namespace Att
open PySem PySem.W PySem.Calls PyProof.Rows
end Att
namespace L2
open PySem PySem.Spec PyProof.Rows
def eP(s:bD)(j:Nat):bD:=match s with
 |.ClassDef _ _ _ body _ _ _ _ _ _ _=>body.getD j (.Pass ⟨0,0,0,0⟩)
 |_=>.Pass ⟨0,0,0,0⟩
def oh(s:bD):Arguments:=match s with
 |.FunctionDef _ a _ _ _ _ _ _ _ _=>a
 |_=>{posonlyargs:=[],args:=[],vararg:=aa,kwonlyargs:=[],kw_defaults:=[],kwarg:=aa,defaults:=[]}
def jR(s:bD):sl bD:=match s with
 |.FunctionDef _ _ b _ _ _ _ _ _ _=>b
 |_=>[]
def bh(s:bD):i8:=match s with
 |.FunctionDef _ _ _ _ _ _ f6 _ _ _=>f6
 |_=>{kind:=.function,names:=[],isGenerator:=aK,isCoroutine:=aK}
abbrev cp:ku:=λ_ _ _ _ _ _=>False
abbrev q5:cW:=λ_ _ _=>False
theorem bu{X:bA}:l_ cp X q5:=λ_ _ _ _ _ _ _ h=>h.elim
structure oi (K:bb) (x bX:a8) (st:bD) (f:I) (fd:kp):Prop where
 ex:∃(ks:ae)(od:Iw I)(ey gB gC:ae)(gP:Iw I)(bU dX:ae)(pe:Array (Iw ae)),
  fd=nP x bX (oh st) (jR st) (bh st) .none ey gB gC gP bU dX/\K.lookup f=B ⟨ks,od,.func fd,pe⟩/\AR K bU bX=a9
 dK:nQ K (.ref f)=a9
variable{P:bP}{w:bG}{K:bb}{aJ:sl a8}
section
variable{a6:a8->Iw ae}{base:bq}
theorem oi.ok{x bX:a8}{st:bD}{f:I}{fd:kp}{N:sl a8}{k:Nat}{sp:bN}(F:oi K x bX st f fd)(S:b' N aJ (bh st))(len:∀vs H Q E,sp vs H Q E->vs.length=aJ.length)(s_:∀(bU:ae)(A:da)(outer:sl eC)(s:ay)(H:ag)(vs:sl V)(Q:c2)(E:cW),dp k (A.deeper (fH bX (bh st) s⁻¹ f bU))->sp vs H Q E->∃t,ix (pd cp P w K a6 base N bX (bh st) f bU A outer s H E).B8 (jR st) t/\t {c8:=λ_ H'=>Q .bR H',iw:=Q} (start N vs) H):jP P w K a6 base cp (k+1) f fd aJ sp:=by obtain⟨_,_,_,_,_,_,bU,_,_,rfl,lk,lq⟩:=F.ex;refine Rw lk lq S len λA outer s H vs Q E ak ly=>?_;obtain⟨t,h,q⟩:=s_ bU A outer s H vs Q E ak ly;exact⟨t,h.B8,q⟩
theorem oi.binds{x bX:a8}{st:bD}{f:I}{fd:kp}(F:oi K x bX st f fd)(h:∀(ey gB gC:ae)(gP:Iw I)(bU dX:ae)(us:sl ae),us.length=aJ.length->yj (nP x bX (oh st) (jR st) (bh st) .none ey gB gC gP bU dX) ⟨us,[]⟩=pure (aJ.zip us)):Binds K fd aJ []:=by obtain⟨_,_,ey,gB,gC,gP,bU,dX,_,rfl,_,_⟩:=F.ex;exact .all (h ey gB gC gP bU dX)
theorem FG{x bX:a8}{st:bD}{f:I}{ks:ae}{od gP:Iw I}{pe:Array (Iw ae)}{ey gB gC bU dX:ae}(l:K.lookup f=B ⟨ks,od,.func (nP x bX (oh st) (jR st) (bh st) .none ey gB gC gP bU dX),pe⟩)(c:AR K bU bX=a9)(k:nQ K (.ref f)=a9):oi K x bX st f (nP x bX (oh st) (jR st) (bh st) .none ey gB gC gP bU dX):=⟨⟨ks,od,ey,gB,gC,gP,bU,dX,pe,Y,l,c⟩,k⟩
end
theorem FH{A:da}{k:Nat}(ak:dp k A):A.units+1<uk:=lR (PK (by decide:1<=64) _) ak.units
theorem gE{n:Nat}(h:n<=1000):n<cN:=lR h dQ
section
variable{X:bA}
theorem J(i:Nat){x:a8}{pos:Pos}(dF:X.N[i]? =B x:=by rfl)(bk:yG X.env.scope x:=by first|exact v' rfl|exact a11 (v' Y)|exact a11 (a11 Y))(hd:(x==("__debug__" :a8))=aK:=by decide)(lq:(x==("__classdict__" :a8))=aK:=by decide):bS X (.Name x pos) (dc i):=a2q dF bk hd lq
end
theorem gF{A gp:Prop}(h:gp):if aK=a9 then A else gp:=by rw[aL i6];exact h
theorem hM{A gp:Prop}(h:A):if a9=a9 then A else gp:=by rw[aZ Y];exact h
theorem gq{c A gp:Prop}[Decidable c](O:c->A)(a5:¬c->gp):if c then A else gp:=by
 by_cases h:c
 .rw[aZ h];exact O h
 rw[aL h];exact a5 h
def aw(H H':ag):Prop:=∀b o,H b=B o->H' b=B o
theorem aw.refl(H:ag):aw H H:=λ_ _ h=>h
variable{H:ag}
theorem aw.trans{ai au:ag}(a:aw H ai)(b:aw ai au):aw H au:=λc o h=>b c o (a c o h)
theorem aw.free{H':ag}(e:aw H H'){l:I}(h:H' l=aa):H l=aa:=by cases q:H l with|none=>rfl|some o=>rw[e l o q]at h;cases h
theorem aw.seq{H':ag}{a:I}{xs:sl V}(e:aw H H')(h:bo K H a xs):bo K H' a xs:=by
 obtain(h|⟨o,h⟩)|h:=h
 .exact .inl (.inl (e _ _ h))
 .exact .inl (.inr ⟨o,e _ _ h⟩)
 exact .inr h
open PySem.W (WData Codec OpenSpec Well WellAll ReadsW ReadsAllW)
mutual
inductive k8 (K:bb) (H:ag):V->jm->Prop
 |bR:k8 K H .bR .none
 |c3 (b:Bool):k8 K H (.c3 b) (.bool b)
 |int (i:Int):k8 K H (.int i) (.int i)
 |str (x:a8):k8 K H (.str x) (.str x)
 |lT (b:Array UInt8):k8 K H (.lT b) (.bytes b.toList)
 |lst {a:I} {xs:sl V} {cc:sl jm}:bo K H a xs->q6 K H xs cc->k8 K H (.ref a) (.list cc)
 |tup {a:I} {xs:sl V} {cc:sl jm}:dt K H a xs->q6 K H xs cc->k8 K H (.ref a) (.tuple cc)
inductive q6 (K:bb) (H:ag):sl V->sl jm->Prop
 |nil:q6 K H [] []
 |cons {v:V} {vs:sl V} {d:jm} {cc:sl jm}:k8 K H v d->q6 K H vs cc->q6 K H (v::vs) (d::cc)
end
theorem Lr{K:bb}{H:ag}:∀ns:sl Int,q6 K H (ns.map V.int) (ns.map ajN)
 |[]=>.nil
 |n::r=>.cons (.int n) (Lr r)
theorem Ls{K:bb}{H:ag}:∀(ns:sl Int)(xs:sl V),q6 K H xs (ns.map ajN)->xs=ns.map V.int
 |[],xs,h=>by cases h;rfl
 |n::r,xs,h=>by cases h with|cons O a5=>cases O;rw[Ls r _ a5]<;>rfl
variable{h:bq}
section
variable{R:ajO}{cl:a8->Iw I}
theorem a4K{a:I}{xs:sl V}(bQ:g6 P w H h)(ba:K.In h)(q:bo K H a xs):∃(b6:sl ae)(o:bH)(n:Nat),cC xs b6/\h.get? a=B o/\o.cls=.type "list"/\o.data=.seq b6.toArray n:=by
 obtain q|⟨o,b6,n,e,a7,_,hd,_,bk⟩:=q
 .obtain⟨_,b6,n,bk,e⟩:=(show hj P w H h a (.lst xs)from q.ok bQ);exact⟨b6,_,n,bk,e,Y,Y⟩
 exact⟨b6.toList,o,n,bk,ba _ _ e,a7,by simp[hd]⟩
theorem a4L{a:I}{xs:sl V}(bQ:g6 P w H h)(ba:K.In h)(q:dt K H a xs):∃(b6:sl ae)(o:bH)(n:Nat),cC xs b6/\h.get? a=B o/\o.cls=.type "tuple"/\o.data=.seq b6.toArray n:=by
 obtain q|⟨o,b6,n,e,a7,hd,_,bk⟩:=q
 .obtain⟨_,b6,bk,o,e,a7,n,hd⟩:=(show hj P w H h a (.tup xs)from q.ok bQ);exact⟨b6,o,n,bk,e,a7,hd⟩
 exact⟨b6.toList,o,n,bk,ba _ _ e,a7,by simp[hd]⟩
mutual
theorem k8.reads(bQ:g6 P w H h)(ba:K.In h):∀(d:jm)(v:V)(u:ae),k8 K H v d->RelV v u->∃cT,ReadsW R cl h u d cT
 |.none,_,_,x,r=>by cases x;cases r;exact⟨_,ReadsW.none⟩
 |.bool b,_,_,x,r=>by cases x;cases r;exact⟨_,ReadsW.bool b⟩
 |.int i,_,_,x,r=>by cases x;obtain⟨t,rfl⟩:=r;exact⟨_,ReadsW.int i t⟩
 |.str s,_,_,x,r=>by cases x;obtain⟨t,rfl⟩:=r;exact⟨_,ReadsW.str s t⟩
 |.bytes b,_,_,x,r=>by cases x;obtain⟨t,rfl⟩:=r;exact⟨_,ReadsW.bytes _ t⟩
 |.list cc,_,_,x,r=>by cases x with|lst ax bf=>cases r;obtain⟨b6,o,n,cB,aU,a7,hd⟩:=a4K bQ ba ax;obtain⟨cT,ak⟩:=k8.readsAll bQ ba cc _ b6 bf cB;exact⟨_,ReadsW.list aU a7 hd ak⟩
 |.tuple cc,_,_,x,r=>by cases x with|tup ax bf=>cases r;obtain⟨b6,o,n,cB,aU,a7,hd⟩:=a4L bQ ba ax;obtain⟨cT,ak⟩:=k8.readsAll bQ ba cc _ b6 bf cB;exact⟨_,ReadsW.tuple aU a7 hd ak⟩
 |.float _,_,_,x,_=>by cases x
 |.dict _,_,_,x,_=>by cases x
 |.bytearray _,_,_,x,_=>by cases x
 |.set _,_,_,x,_=>by cases x
 |.frozenset _,_,_,x,_=>by cases x
 |.obj _ _,_,_,x,_=>by cases x
theorem k8.readsAll(bQ:g6 P w H h)(ba:K.In h):∀(cc:sl jm)(vs:sl V)(us:sl ae),q6 K H vs cc->cC vs us->∃cT,ReadsAllW R cl h us cc cT
 |[],_,_,x,r=>by cases x;cases r;exact⟨_,ReadsAllW.nil⟩
 |d::cc,_,_,x,r=>by
  cases x with
  |cons O a5=>cases r with|cons cx dT=>obtain⟨cT,bw⟩:=k8.reads bQ ba d _ _ O cx;obtain⟨_,cy⟩:=k8.readsAll bQ ba cc _ _ a5 dT;exact⟨_,ReadsAllW.cons bw cy⟩
end
end
mutual
def oj:jm->Bool
 |.none=>a9
 |.bool _=>a9
 |.int _=>a9
 |.str _=>a9
 |.bytes _=>a9
 |.list xs=>q7 xs
 |.tuple xs=>q7 xs
 |_=>aK
def q7:sl jm->Bool
 |[]=>a9
 |x::r=>oj x&&q7 r
end
theorem Sk{br:Type}{f:br->jm}(h:∀a,oj (f a)=a9):∀l:sl br,q7 (l.map f)=a9
 |[]=>rfl
 |x::r=>by show(oj (f x)&&q7 (r.map f))=a9;rw[h x,Sk h r]<;>rfl
theorem uV:∀(c:Codec)(a:c.denote),oj (c.enc a)=a9
 |.unit,_=>rfl
 |.bool,_=>rfl
 |.int _ _,_=>rfl
 |.nat _ _,_=>rfl
 |.u8,_=>rfl
 |.bytes _ _,_=>rfl
 |.text _ _ _ _,_=>rfl
 |.list _ _ c,a=>Sk (λx=>uV c x) a
 |.pair c d,a=>by show(oj (c.enc a.1)&&(oj (d.enc a.2)&&a9))=a9;rw[uV c a.1,uV d a.2]<;>rfl
 |.triple c d e,a=>by show(oj (c.enc a.1)&&(oj (d.enc a.2.1)&&(oj (e.enc a.2.2)&&a9)))=a9;rw[uV c a.1,uV d a.2.1,uV e a.2.2]<;>rfl
 |.option c,aa=>rfl
 |.option c,B x=>uV c x
theorem Sl:∀(c4:sl Codec)(a:Q2 c4),q7 (Ep c4 a)=a9
 |[],_=>rfl
 |c::c4,a=>by show(oj (c.enc a.1)&&q7 (Ep c4 a.2))=a9;rw[uV c a.1,Sl c4 a.2]<;>rfl
theorem Lu:∀{xs:sl jm}{d:jm},d∈xs->d.weight<=Q3 xs
 |[],d,h=>absurd h (by simp)
 |x::r,d,h=>by
  show d.weight<=x.weight+1+Q3 r;obtain e|m:=dz.mp h
  .rw[e];omega
  have z:=Lu m;omega
noncomputable def m4:ae->V
 |.none=>.bR
 |.bool b=>.c3 b
 |.int i _=>.int i
 |.str x _=>.str x
 |.bytes b _=>.lT b
 |.ref a=>.ref a
 |_=>.bR
def ps(A:sl I):ae->Prop
 |.none=>True
 |.bool _=>True
 |.int _ _=>True
 |.str _ _=>True
 |.bytes _ _=>True
 |.ref a=>a∈A
 |_=>False
variable{A:sl I}
theorem ps.mono{gp:sl I}(h:∀a∈A,a∈gp):∀{u:ae},ps A u->ps gp u:=fun{u} x=>by cases u with|ref a=>exact h a x|none=>trivial|bool b=>trivial|int i t=>trivial|str s t=>trivial|bytes b t=>trivial|_=>exact hu x
theorem a4M{u:ae}(x:ps A u):RelV (m4 u) u:=by cases u with|ref a=>rfl|none=>rfl|bool b=>rfl|int i t=>exact⟨t,rfl⟩|str s t=>exact⟨t,rfl⟩|bytes b t=>exact⟨t,rfl⟩|_=>exact hu x
theorem z5{A:sl I}:∀{vs:sl ae},(∀u∈vs,ps A u)->cC (vs.map m4) vs
 |[],_=>.nil
 |u::r,h=>.cons (a4M (h u (iM ..))) (z5 λx ah=>h x (eH _ ah))
def q8(h:bq)(A:sl I)(a:I):Prop:=∃vs:sl ae,vs.length<=cN/\(∀u∈vs,ps A u)/\(h.get? a=B {cls:=.type "list",data:=.seq vs.toArray}∨h.get? a=B {cls:=.type "tuple",data:=.seq vs.toArray})
theorem q8.mono{gp:sl I}{a:I}(k:∀a∈A,a∈gp)(x:q8 h A a):q8 h gp a:=by obtain⟨vs,O,a5,aG⟩:=x;exact⟨vs,O,λu bx=>(a5 u bx).mono k,aG⟩
theorem FI{P:w4}{h:bq}:∀{vs:sl ae}{cc:sl jm},yd P h vs cc->vs.length=cc.length
 |_,_,.nil=>rfl
 |_,_,.cons _ b=>by show _+1=_+1;rw[FI b]
variable{cc:sl jm}
theorem Sm{P:w4}{v:ae}(x:Well P h v (.list cc)):∃(a:I)(vs:sl ae),v=.ref a/\h.get? a=B {cls:=.type "list",data:=.seq vs.toArray}/\yd P h vs cc:=by cases x with|list aU m5=>exact⟨_,_,rfl,aU,m5⟩
theorem Sn{P:w4}{v:ae}(x:Well P h v (.tuple cc)):∃(a:I)(vs:sl ae),v=.ref a/\h.get? a=B {cls:=.type "tuple",data:=.seq vs.toArray}/\yd P h vs cc:=by cases x with|tuple aU m5=>exact⟨_,_,rfl,aU,m5⟩
theorem So{P:w4}{us:sl ae}{d:jm}(x:yd P h us (d::cc)):∃(v:ae)(vs:sl ae),us=v::vs/\Well P h v d/\yd P h vs cc:=by cases x with|cons a b=>exact⟨_,_,rfl,a,b⟩
theorem Sp{n:Nat}(h:n<=1048576):n<=cN:=dE h dQ
section
variable{P:w4}
mutual
theorem a4N:∀(d:jm)(v:ae),Well P h v d->oj d=a9->d.weight<=1048576->∃A:sl I,ps A v/\∀a∈A,q8 h A a
 |.none,_,x,_,_=>by cases x;exact⟨[],trivial,λa m=>absurd m (by simp)⟩
 |.bool b,_,x,_,_=>by cases x;exact⟨[],trivial,λa m=>absurd m (by simp)⟩
 |.int i,_,x,_,_=>by cases x;exact⟨[],trivial,λa m=>absurd m (by simp)⟩
 |.str s,_,x,_,_=>by cases x;exact⟨[],trivial,λa m=>absurd m (by simp)⟩
 |.bytes b,_,x,_,_=>by cases x;exact⟨[],trivial,λa m=>absurd m (by simp)⟩
 |.list cc,_,x,p,z=>by
  obtain⟨a,vs,rfl,aU,m5⟩:=Sm x;have g8:Q3 cc<=1048576:=z;obtain⟨A,O,a5⟩:=FJ cc _ m5 p λd hd=>dE (Lu hd) g8;have k:∀b∈A,b∈a::A:=λb a0=>eH _ a0;refine⟨a::A,iM ..,λb a0=>?_⟩;obtain e|m:=dz.mp a0
  .rw[e];exact⟨vs,Sp (by rw[FI m5];exact dE (ajT cc) g8),λu bx=>(O u bx).mono k,.inl aU⟩
  exact(a5 b m).mono k
 |.tuple cc,_,x,p,z=>by
  obtain⟨a,vs,rfl,aU,m5⟩:=Sn x;have g8:Q3 cc<=1048576:=z;obtain⟨A,O,a5⟩:=FJ cc _ m5 p λd hd=>dE (Lu hd) g8;have k:∀b∈A,b∈a::A:=λb a0=>eH _ a0;refine⟨a::A,iM ..,λb a0=>?_⟩;obtain e|m:=dz.mp a0
  .rw[e];exact⟨vs,Sp (by rw[FI m5];exact dE (ajT cc) g8),λu bx=>(O u bx).mono k,.inr aU⟩
  exact(a5 b m).mono k
 |.float _,_,_,p,_=>oM (show aK=a9 from p)
 |.dict _,_,_,p,_=>oM (show aK=a9 from p)
 |.bytearray _,_,_,p,_=>oM (show aK=a9 from p)
 |.set _,_,_,p,_=>oM (show aK=a9 from p)
 |.frozenset _,_,_,p,_=>oM (show aK=a9 from p)
 |.obj _ _,_,_,p,_=>oM (show aK=a9 from p)
theorem FJ:∀(cc:sl jm)(vs:sl ae),yd P h vs cc->q7 cc=a9->(∀d∈cc,d.weight<=1048576)->∃A:sl I,(∀u∈vs,ps A u)/\∀a∈A,q8 h A a
 |[],_,x,_,_=>by cases x;exact⟨[],λu m=>absurd m (by simp),λa m=>absurd m (by simp)⟩
 |d::cc,_,x,p,z=>by
  obtain⟨v,vs,rfl,eM,eG⟩:=So x;have q:oj d=a9/\q7 cc=a9:=Py.mp p;obtain⟨A,dr,dy⟩:=a4N d v eM q.1 (z d (iM ..));obtain⟨gp,b1,b2⟩:=FJ cc vs eG q.2 λe aF=>z e (eH _ aF);have Sq:∀b∈A,b∈A++gp:=λb a0=>kN.mpr (.inl a0);have Sr:∀b∈gp,b∈A++gp:=λb a0=>kN.mpr (.inr a0);refine⟨A++gp,λu bx=>?_,λb a0=>?_⟩
  .obtain e|m:=dz.mp bx
   .rw[e];exact dr.mono Sq
   exact(b1 u m).mono Sr
  obtain m|m:=kN.mp a0
  .exact(dy b m).mono Sq
  exact(b2 b m).mono Sr
end
end
def FK(o:bH):Iw dA:=match o.data with
 |.seq vs _=>if(o.cls==ui "list")=a9 then B (.kQ o (.lst (vs.toList.map m4)))else B (.kQ o (.tup (vs.toList.map m4)))
 |_=>aa
def kZ(K:bb)(h:bq)(A:sl I):ag:=λb=>if b∈A then(if(K.lookup b).isNone=a9 then(h.get? b).bind FK else aa)else aa
def BS(H:ag):Prop:=∀b,H b=aa∨∃o u,H b=B (.kQ o u)
theorem Ss(vs:sl ae):FK {cls:=.type "list",data:=.seq vs.toArray}=B (.kQ {cls:=.type "list",data:=.seq vs.toArray} (.lst (vs.map m4))):=by show(if(ui "list" ==ui "list")=a9 then B (dA.kQ {cls:=.type "list",data:=.seq vs.toArray} (.lst (vs.toArray.toList.map m4)))else B (dA.kQ {cls:=.type "list",data:=.seq vs.toArray} (.tup (vs.toArray.toList.map m4))))=_;rw[aZ (Qw _)]
theorem Su(vs:sl ae):FK {cls:=.type "tuple",data:=.seq vs.toArray}=B (.kQ {cls:=.type "tuple",data:=.seq vs.toArray} (.tup (vs.map m4))):=by show(if(ui "tuple" ==ui "list")=a9 then B (dA.kQ {cls:=.type "tuple",data:=.seq vs.toArray} (.lst (vs.toArray.toList.map m4)))else B (dA.kQ {cls:=.type "tuple",data:=.seq vs.toArray} (.tup (vs.toArray.toList.map m4))))=_;rw[aL dQ]
theorem FL{b:I}{o:bH}(a0:b∈A)(aA:K.lookup b=aa)(e:h.get? b=B o):kZ K h A b=FK o:=by unfold kZ;rw[aZ a0,aA,aZ (show(aa:Iw bH).isNone=a9 from Y),e]<;>rfl
theorem a4O{b:I}{u:dA}(q:kZ K h A b=B u):b∈A/\K.lookup b=aa:=by
 unfold kZ at q;by_cases a0:b∈A
 .rw[aZ a0]at q;cases aA:K.lookup b with|none=>exact⟨a0,rfl⟩|some o=>rw[aA,aL (by simp)]at q;cases q
 rw[aL a0]at q;cases q
theorem FN(jA:∀a∈A,q8 h A a){b:I}{u:dA}(q:kZ K h A b=B u):K.lookup b=aa/\∃vs:sl ae,vs.length<=cN/\(∀u∈vs,ps A u)/\((h.get? b=B {cls:=.type "list",data:=.seq vs.toArray}/\u=.kQ {cls:=.type "list",data:=.seq vs.toArray} (.lst (vs.map m4)))∨(h.get? b=B {cls:=.type "tuple",data:=.seq vs.toArray}/\u=.kQ {cls:=.type "tuple",data:=.seq vs.toArray} (.tup (vs.map m4)))):=by
  obtain⟨a0,aA⟩:=a4O q;obtain⟨vs,O,a5,aG⟩:=jA b a0;refine⟨aA,vs,O,a5,?_⟩;obtain e|e:=aG
  . rw[FL a0 aA e,Ss]at q;exact .inl ⟨e,(h4 q).symm⟩
  rw[FL a0 aA e,Su]at q;exact .inr ⟨e,(h4 q).symm⟩
theorem a4P(jA:∀a∈A,q8 h A a):BS (kZ K h A):=λb=>by
 cases q:kZ K h A b with
 |none=>exact .inl Y
 |some u=>
  obtain⟨_,_,_,_,⟨_,e⟩|⟨_,e⟩⟩:=FN jA q
  .exact .inr ⟨_,_,by rw[e]⟩
  exact .inr ⟨_,_,by rw[e]⟩
theorem a4Q(jA:∀a∈A,q8 h A a):g6 P w (kZ K h A) h:=λb u q=>by
 obtain⟨_,vs,O,a5,⟨e,rfl⟩|⟨e,rfl⟩⟩:=FN jA q
 .exact⟨e,by rw[cX];exact O,vs,_,z5 a5,e⟩
 exact⟨e,by rw[cX];exact O,vs,z5 a5,_,e,Y,_,Y⟩
theorem FO{c e8:ae}{vs us:sl ae}(e:(B {cls:=c,data:=.seq vs.toArray}:Iw bH)=B {cls:=e8,data:=.seq us.toArray}):c=e8/\vs=us:=by have aO:=h4 e;have aT:c=e8:=g5 Obj.cls aO;have e1:PW vs.toArray=PW us.toArray:=g5 Obj.data aO;injection e1 with hN;refine⟨aT,?_⟩;have kA:=g5 a0u hN;simpa using kA
theorem a4R(ba:K.In h)(jA:∀a∈A,q8 h A a){a:I}{vs:sl ae}(bf:a∈A)(e:h.get? a=B {cls:=.type "list",data:=.seq vs.toArray}):(∀u∈vs,ps A u)/\bo K (kZ K h A) a (vs.map m4):=by
 obtain⟨us,O,a5,aG⟩:=jA a bf;have bx:us=vs:=by
  obtain q|q:=aG
  .rw[e]at q;exact(FO q).2.symm
  rw[e]at q;exact absurd (ajL (FO q).1) dQ
 subst bx;refine⟨a5,?_⟩;cases aA:K.lookup a with|none=>exact .inl (.inr ⟨_,by rw[FL bf aA e,Ss]⟩)|some o=>have aT:=ba a o aA;rw[e]at aT;obtain rfl:=h4 aT;exact .inr ⟨_,us.toArray,_,aA,Y,Y,Y,by rw[j4];exact O,by simpa using z5 a5⟩
theorem a4S(ba:K.In h)(jA:∀a∈A,q8 h A a){a:I}{vs:sl ae}(bf:a∈A)(e:h.get? a=B {cls:=.type "tuple",data:=.seq vs.toArray}):(∀u∈vs,ps A u)/\dt K (kZ K h A) a (vs.map m4):=by
 obtain⟨us,O,a5,aG⟩:=jA a bf;have bx:us=vs:=by
  obtain q|q:=aG
  .rw[e]at q;exact absurd (ajL (FO q).1) dQ
  rw[e]at q;exact(FO q).2.symm
 subst bx;refine⟨a5,?_⟩;cases aA:K.lookup a with|none=>exact .inl (.inr ⟨_,by rw[FL bf aA e,Su]⟩)|some o=>have aT:=ba a o aA;rw[e]at aT;obtain rfl:=h4 aT;exact .inr ⟨_,us.toArray,_,aA,Y,Y,by rw[j4];exact O,by simpa using z5 a5⟩
mutual
theorem a4T{Lv:w4}(ba:K.In h)(jA:∀a∈A,q8 h A a):∀(d:jm)(v:ae),Well Lv h v d->oj d=a9->ps A v->k8 K (kZ K h A) (m4 v) d
 |.none,_,x,_,_=>by cases x;exact .bR
 |.bool b,_,x,_,_=>by cases x;exact .c3 b
 |.int i,_,x,_,_=>by cases x;exact .int i
 |.str s,_,x,_,_=>by cases x;exact .str s
 |.bytes b,_,x,_,_=>by cases x;have z:=k8.lT (K:=K) (H:=kZ K h A) b.toArray;exact z
 |.list cc,_,x,p,bx=>by obtain⟨a,vs,rfl,aU,m5⟩:=Sm x;obtain⟨a5,ax⟩:=a4R ba jA bx aU;exact .lst ax (FP ba jA cc _ m5 p a5)
 |.tuple cc,_,x,p,bx=>by obtain⟨a,vs,rfl,aU,m5⟩:=Sn x;obtain⟨a5,ax⟩:=a4S ba jA bx aU;exact .tup ax (FP ba jA cc _ m5 p a5)
 |.float _,_,_,p,_=>oM (show aK=a9 from p)
 |.dict _,_,_,p,_=>oM (show aK=a9 from p)
 |.bytearray _,_,_,p,_=>oM (show aK=a9 from p)
 |.set _,_,_,p,_=>oM (show aK=a9 from p)
 |.frozenset _,_,_,p,_=>oM (show aK=a9 from p)
 |.obj _ _,_,_,p,_=>oM (show aK=a9 from p)
theorem FP{Lv:w4}(ba:K.In h)(jA:∀a∈A,q8 h A a):∀(cc:sl jm)(vs:sl ae),yd Lv h vs cc->q7 cc=a9->(∀u∈vs,ps A u)->q6 K (kZ K h A) (vs.map m4) cc
 |[],_,x,_,_=>by cases x;exact .nil
 |d::cc,_,x,p,bx=>by obtain⟨v,vs,rfl,eM,eG⟩:=So x;have q:oj d=a9/\q7 cc=a9:=Py.mp p;exact .cons (a4T ba jA d v eM q.1 (bx _ (iM ..))) (FP ba jA cc vs eG q.2 λu m=>bx u (eH _ m))
end
theorem a4U{a6 kr:a8->Iw ae}{CX:ku}{k:Nat}{en:I}{fd:kp}{sp:bN}{dw:ay}{rW:sl ae}{R:ajO}{cl:a8->Iw I}{d0:jm}(ba:K.In dw.heap)(rX:dw.heap.Ns mz a6)(a0:dw.heap.Ns a1v kr)(wU:∀x:a8,x≠"__name__"->kr x=Et x)(Sv:dw.heap.NoLimit)(aI:dw.gens=#[])(rY:yd w.params dw.heap rW cc)(eN:q7 cc=a9)(a4V:∀d∈cc,d.weight<=1048576)(ak:dp k Eu)(F:∀base:bq,K.In base->base.Ns mz a6->jP P w K a6 base CX k en fd aJ sp)(a4W:∀(s:ay)(us:sl ae),us.length=aJ.length->ya s fd ⟨us,[]⟩ (aJ.zip us))(eY:cc.length=aJ.length)(ly:∀(H:ag)(xs:sl V),BS H->q6 K H xs cc->sp xs H (λv H'=>k8 K H' v d0) λ_ _ _=>False)(BU:∀H e a_,CX [] H dw (λ_ _ _=>False) e a_->False):my (bp P w) Eu (.call (.ref en) ⟨rW,[]⟩) (λr a_=>∃u cT,r=.ok (.ret u)/\ReadsW R cl a_.heap u d0 cT/\OldK dw.heap a_.heap/\a_.os=dw.os/\y9 a_.gens) dw:=by
 obtain⟨A,aU,jA⟩:=FJ cc rW rY eN a4V;have z6:BS (kZ K dw.heap A):=a4P jA;have bQ:g6 P w (kZ K dw.heap A) dw.heap:=a4Q jA;have lB:=FP ba jA cc rW rY eN aU;have a4X:=z5 aU;have fB:∀b u,kZ K dw.heap A b=B u->K.lookup b=aa:=λb u q=>(FN jA q).1;have yU:∀{b:I}{o:bH}{b5:Array PX}{fZ:Nat},dw.heap.get? b=B o->o.data=.dict b5 fZ->kZ K dw.heap A b=aa:=fun{b o b5 fZ} e d=>by
  cases q:kZ K dw.heap A b with
  |none=>rfl
  |some u=>
   obtain⟨_,vs,_,_,⟨aT,_⟩|⟨aT,_⟩⟩:=FN jA q
   .rw[aT]at e;cases e;have d':PW vs.toArray _=ajq b5 fZ:=d;cases d'
   rw[aT]at e;cases e;have d':PW vs.toArray _=ajq b5 fZ:=d;cases d'
 generalize kZ K dw.heap A=H at z6 bQ lB fB yU;have Sw:∀{b:I}{o:bH},dw.heap.get? b=B o->H b=aa->(sS dw.heap H).get? b=B o:=λe n=>a2i e n;have FQ:∀{b:I}{m:a8->Iw ae},dw.heap.Ns b m->(sS dw.heap H).Ns b m:=fun{b m} ⟨o,b5,fZ,e,d,r⟩=>⟨o,b5,fZ,Sw e (yU e d),d,r⟩;have a4Y:∀b o,K.lookup b=B o->H b=aa:=λb o e=>by cases q:H b with|none=>rfl|some u=>rw[fB b u q]at e;cases e
 have Sx:K.In (sS dw.heap H):=λb o e=>Sw (ba b o e) (a4Y b o e);have gS:Mod K a6 (sS dw.heap H):=⟨Sx,FQ rX,⟨kr,FQ a0,wU⟩,let⟨pv,O,a5⟩:=Sv;⟨pv,FQ O,a5⟩⟩;have e0:qK P w K a6 (sS dw.heap H) Eu [] dw H:=⟨Y,gS,λb o e=>a2j e,AJ (a2h _ _),trivial,λb a0=>absurd (show b∈([]:sl I)from a0) (by simp),bQ,.of_eq aI⟩;have ar:rW.length=aJ.length:=by rw[FI rY];exact eY
 refine w8 ((F _ Sx (FQ rX)).run Eu [] dw H ⟨rW,[]⟩ rW (rW.map m4) _ _ ak e0 (a4W dw rW ar) a4X (ly H _ z6 lB)) λr a_ x=>?_;cases r with
 |error e=>exact(BU H e a_ x).elim
 |ok dG=>
  cases dG with
  |next=>exact hu x
  |brk=>exact hu x
  |cont=>exact hu x
  |ret u=>
   obtain⟨v,H',os,bare,un,Sy,g7,q⟩:=x;have kept:∀b o,dw.heap.get? b=B o->a_.heap.get? b=B o:=λb o e=>by
    cases cy:H b with
    |none=>exact un.keep b o e cy (by intro z;exact absurd (show b∈([]:sl I)from z) (by simp)) (by simp)
    |some gR=>
     obtain z|⟨cG,om,z⟩:=z6 b
     .rw[cy]at z;cases z
     have g8:=un.rJ b cG _ z;obtain⟨aO,_⟩:=bQ b _ z;obtain⟨aT,_⟩:=Sy b _ g8;rw[e]at aO;cases aO;exact aT
   have a4Z:K.In a_.heap:=λb o e=>kept b o (ba b o e);obtain⟨cT,eu⟩:=k8.reads (R:=R) (cl:=cl) Sy a4Z d0 v u q g7;exact⟨u,cT,Y,eu,OldK.of_keep kept,os,bare⟩
theorem a50(h:WData.layableAll cc=a9):∀d∈cc,d.weight<=1048576:=λd hd=>(PySem.W.layableW_iff.mp (y0.mp h d hd)).2.2
theorem Sz:∀(c4:sl Codec)(a:Q2 c4),(Ep c4 a).length=c4.length
 |[],_=>rfl
 |c::c4,a=>by show(Ep c4 a.2).length+1=c4.length+1;rw[Sz c4 a.2]
theorem a51{r:OpenSpec}{k:Nat}{q:bP}{Lw:sl a8}{Lx:(a8->Iw ae)->bq->Prop}{wV:bG->bq->Prop}{d:DefRec}{K:w4->bb}{CX:bG->ku}{sp:bG->bN}(Ly:r.wellSaid=a9)(SA:d.params.defaults=[])(eY:r.args.length=aJ.length)(ak:dp k Eu)(Lz:∀(w:bG)(h:bq),wV w h->(K w.params).In h)(F:∀(w:bG)(a6:a8->Iw ae)(en:I)(h:bq),wV w h->(K w.params).In h->h.Ns mz a6->a6 d.name=B (.ref en)->∃fd:kp,(∀(s:ay)(us:sl ae),us.length=aJ.length->ya s fd ⟨us,[]⟩ (aJ.zip us))/\∀base:bq,(K w.params).In base->base.Ns mz a6->jP r.prog w (K w.params) a6 base (CX w) k en fd aJ (sp w))(ly:∀(w:bG)(H:ag)(xs:sl V)(a:Q2 r.args),BS H->ajM r.args a=a9->J7 r.args r.asked a=a9->q6 (K w.params) H xs (Ep r.args a)->sp w xs H (λv H'=>k8 (K w.params) H' v (r.ret.enc (J7 r.args r.f a))) λ_ _ _=>False)(BU:∀(w:bG)(H:ag)(s:ay)(e:ae)(a_:ay),CX w [] H s (λ_ _ _=>False) e a_->False):ajP q Lw Lx wV r d [] (λf vs=>n4 f vs):=by intro w gz dw a6 _ aj BV en o _ _ _ _ _ _ _ _ _ LA aI args _ _ wW a52 _ rY _;obtain⟨a,aO,aT⟩:=PySem.W.os_pre_some wW;obtain⟨e1,pf⟩:=Codec.encAll_of_decAll r.args args a aO;subst e1;have ba:=Lz w _ BV;obtain⟨fd,a0,fk⟩:=F w a6 en _ BV ba aj.T.g LA;refine PySem.W.enter_call (w8 (a4U (R:=[]) (cl:=classAt gz.heap) (d0:=r.ret.enc (J7 r.args r.f a)) ba aj.T.g aj.T.b aj.T.builtins aj.T.nolimit aI rY (Sl _ _) (a50 a52) ak fk a0 (by rw[Sz];exact eY) (λH xs z6 lB=>ly w H xs a z6 pf aT lB) λH e a_=>BU w H dw e a_) λ_ a_ aQ=>?_);obtain⟨u,a53,rfl,O,a5,aG,cJ⟩:=aQ;exact⟨.inl ⟨u,_,a53,Y,λ_=>rfl,O,(OpenSpec.post_iff Ly pf _ _).mpr Y,λz=>oM (show aK=a9 from z)⟩,a5,aG,cJ⟩
theorem SD{r:OpenSpec}{k:Nat}{q:bP}{Lw:sl a8}{Lx:(a8->Iw ae)->bq->Prop}{wV:bG->bq->Prop}{d:DefRec}{K:w4->bb}{CX:ku}{sp:bb->bN}(Ly:r.wellSaid=a9)(SA:d.params.defaults=[])(eY:r.args.length=aJ.length)(ak:dp k Eu)(Lz:∀(w:bG)(h:bq),wV w h->(K w.params).In h)(F:∀(w:bG)(a6:a8->Iw ae)(en:I)(h:bq),wV w h->(K w.params).In h->h.Ns mz a6->a6 d.name=B (.ref en)->∃fd:kp,(∀(s:ay)(us:sl ae),us.length=aJ.length->ya s fd ⟨us,[]⟩ (aJ.zip us))/\∀base:bq,(K w.params).In base->base.Ns mz a6->jP r.prog w (K w.params) a6 base CX k en fd aJ (sp (K w.params)))(ly:∀(K:bb)(H:ag)(xs:sl V)(a:Q2 r.args),BS H->ajM r.args a=a9->J7 r.args r.asked a=a9->q6 K H xs (Ep r.args a)->sp K xs H (λv H'=>k8 K H' v (r.ret.enc (J7 r.args r.f a))) λ_ _ _=>False)(BU:∀(H:ag)(s:ay)(e:ae)(a_:ay),CX [] H s (λ_ _ _=>False) e a_->False):ajP q Lw Lx wV r d [] (λf vs=>n4 f vs):=
 a51 (K:=K) (CX:=λ_=>CX) (sp:=λw=>sp (K w.params)) Ly SA eY ak Lz F (λw H xs a O a5 aG cJ=>ly (K w.params) H xs a O a5 aG cJ) λ_ H s e a_=>BU H s e a_
end L2
namespace Tf
open Tafl
theorem SE(c:Nat):∀(l:sl Nat)(n:Nat),(l.foldl (λ(n c:Nat)=>n|||2^c) n).testBit c=(n.testBit c||decide (c∈l))
 |[],n=>by simp
 |x::l,n=>by
  rw[vX,SE c l,Nat.testBit_or,Nat.testBit_two_pow];by_cases h:x=c
  .subst h;simp
  have h':¬c=x:=λe=>h e.symm;simp[h,h']
theorem FR(l:sl Nat)(c:Nat):(pW l).testBit c=decide (c∈l):=by unfold pW;rw[SE];simp
variable{n c:Nat}
theorem FT:c∈ux n↔c<192/\n.testBit c=a9:=by unfold ux GONE;rw[jk,fY]
abbrev Cell(r:Rules)(c:Nat):Prop:=r.isCell c=a9
variable{r:Rules}
theorem kB:Cell r c↔c%13<r.wide/\c/13<r.high:=by unfold Cell Rules.isCell mC;simp
structure dj (r:Rules):Prop where
 wN:5<=r.wide
 pw:r.wide<=13
 f7:5<=r.high
 q9:r.high<=13
theorem dj.lt(s:dj r)(h:Cell r c):c<169:=by
 have O:=(kB.mp h).2;have:=s.q9
 lia
structure eg (r:Rules) (p:Pos):Prop where
 a7:∀c,p.hunters.testBit c=a9->Cell r c
 pv:∀c,p.men.testBit c=a9->Cell r c
 eo:p.king=255∨Cell r p.king
 hm:∀c,p.hunters.testBit c=a9->p.men.testBit c=aK
 aA:p.hunters.testBit p.king=aK
 tm:p.men.testBit p.king=aK
 gT:p.side<=1
theorem a54(s:dj r):¬Cell r 255:=λh=>by have:=s.lt h;lia
variable{p:Pos}
theorem lC:p.on c=.king↔p.king=c:=by
 unfold yu;by_cases h:p.king=c
 .simp[h]
 simp[h];split<;>(try split)<;>simp
theorem wX(w:eg r p):p.on c=.hunter↔p.hunters.testBit c=a9:=by
 unfold yu;by_cases h:p.king=c
 .have:=w.aA;rw[h]at this;simp[h,this]
 rw[aL h];cases a5:p.hunters.testBit c<;>cases aG:p.men.testBit c<;>simp
theorem wY(w:eg r p):p.on c=.man↔p.men.testBit c=a9:=by
 unfold yu;by_cases h:p.king=c
 .have:=w.tm;rw[h]at this;simp[h,this]
 rw[aL h];have:=w.hm c;cases a5:p.hunters.testBit c<;>cases aG:p.men.testBit c<;>simp_all
theorem LB(w:eg r p)(s:dj r)(h:p.on c≠ .none)(a5:c≠255):Cell r c:=by
 cases e:p.on c with
 |none=>exact absurd e h
 |hunter=>exact w.a7 c ((wX w).mp e)
 |man=>exact w.pv c ((wY w).mp e)
 |king=>
  have:=lC.mp e;obtain k|k:=w.eo
  .lia
  rw[<-this];exact k
variable{q:Pos}
theorem a55(s:dj r)(wp:eg r p)(jS:eg r q)(h:∀c,c<169->p.on c=q.on c)(ax:p.side=q.side):p=q:=by
 have bT:p.hunters=q.hunters:=aj0 λc=>by
  by_cases a7:c<169
  .have e:=h c a7;have a:=wX wp (c:=c);have b:=wX jS (c:=c);rw[e]at a;exact hT.mpr (a.symm.trans b)
  have a:p.hunters.testBit c=aK:=by cases z:p.hunters.testBit c with|false=>rfl|true=>exact absurd (s.lt (wp.a7 c z)) a7
  have b:q.hunters.testBit c=aK:=by cases z:q.hunters.testBit c with|false=>rfl|true=>exact absurd (s.lt (jS.a7 c z)) a7
  rw[a,b]
 have hm:p.men=q.men:=aj0 λc=>by
  by_cases a7:c<169
  .have e:=h c a7;have a:=wY wp (c:=c);have b:=wY jS (c:=c);rw[e]at a;exact hT.mpr (a.symm.trans b)
  have a:p.men.testBit c=aK:=by cases z:p.men.testBit c with|false=>rfl|true=>exact absurd (s.lt (wp.pv c z)) a7
  have b:q.men.testBit c=aK:=by cases z:q.men.testBit c with|false=>rfl|true=>exact absurd (s.lt (jS.pv c z)) a7
  rw[a,b]
 have aA:p.king=q.king:=by
  obtain k|k:=wp.eo
  .obtain kU|kU:=jS.eo
   .lia
   have lt:=s.lt kU;have e:=h q.king lt;rw[lC.mpr (rfl:q.king=q.king)]at e;exact lC.mp e
  have lt:=s.lt k;have e:=h p.king lt;rw[lC.mpr (rfl:p.king=p.king)]at e;exact(lC.mp e.symm).symm
 cases p;cases q;simp_all
noncomputable def room(r:Rules)(d c:Nat):Nat:=if d=0 then r.high-1-c/13 else if d=1 then r.wide-1-c%13 else if d=2 then c/13 else c%13
def jB(d c n:Nat):Prop:=if d=0 then n%13=c%13/\c<n else if d=1 then n/13=c/13/\c<n else if d=2 then n%13=c%13/\n<c else n/13=c/13/\n<c
variable{d:Nat}
theorem jB.trans{a b:Nat}(h:jB d a b)(h':jB d b c):jB d a c:=by
 unfold jB at*;split at h
 .simp_all;lia
 split at h
 .simp_all;lia
 split at h
 .simp_all;lia
 simp_all;lia
theorem jB.ne{a b:Nat}(h:jB d a b):a≠b:=by
 unfold jB at h;intro e;subst e;split at h
 .lia
 split at h
 .lia
 split at h<;>lia
theorem jB.dir{d' a b:Nat}(hd:d<4)(ES:d'<4)(h:jB d a b)(h':jB d' a b):d=d':=by
 unfold jB at h h';have aO:d=0∨d=1∨d=2∨d=3:=by lia
 have aT:d'=0∨d'=1∨d'=2∨d'=3:=by lia
 rcases aO with rfl|rfl|rfl|rfl<;>rcases aT with rfl|rfl|rfl|rfl<;>simp at h h' ⊢<;>lia
theorem wZ(s:dj r)(a7:Cell r c)(h:r.next d c=B n):Cell r n/\room r d n+1=room r d c/\jB d c n:=by
 have oY:=kB.mp a7;have:=s.pw;have:=s.q9;unfold akF mC cellOf mC at h;rw[kB];unfold room jB;by_cases d0:d=0
 .subst d0;simp only[jO]at h ⊢;split at h
  .cases h
   lia
  cases h
 by_cases p2:d=1
 .subst p2;simp at h ⊢;obtain⟨O,rfl⟩:=h
  lia
 by_cases hb:d=2
 .subst hb;simp at h ⊢;obtain⟨O,rfl⟩:=h;omega
 simp[d0,p2,hb]at h ⊢;obtain⟨O,rfl⟩:=h;omega
theorem a56(s:dj r)(a7:Cell r c):room r d c<13:=by
 have oY:=kB.mp a7;have:=s.pw;have:=s.q9;unfold room;split
 .lia
 split
 .lia
 split<;>lia
theorem SF(s:dj r){d:Nat}:∀(f c:Nat),Cell r c->(∀n∈r.manWay p d f c,jB d c n/\Cell r n)/\(r.manWay p d f c).Pairwise (jB d)
 |0,c,_=>by simp[yw]
 |f+1,c,a7=>by
  unfold yw;cases e:r.next d c with
  |none=>simp
  |some n=>
   obtain⟨O,_,aG⟩:=wZ s a7 e;have ih:=SF s (d:=d) f n O;dsimp only;split
   .simp
   split
   .simp
   .split
    .exact⟨λm hm=>⟨aG.trans (ih.1 m hm).1,(ih.1 m hm).2⟩,ih.2⟩
    simp
   refine⟨λm hm=>?_,Ed.mpr ⟨λm hm=>(ih.1 m hm).1,ih.2⟩⟩;obtain rfl|hm:=dz.mp hm
   .exact⟨aG,O⟩
   exact⟨aG.trans (ih.1 m hm).1,(ih.1 m hm).2⟩
theorem SG(s:dj r){d:Nat}:∀(f c:Nat),Cell r c->(∀n∈r.kingWay p d f c,jB d c n/\Cell r n)/\(r.kingWay p d f c).Pairwise (jB d)
 |0,c,_=>by simp[yv]
 |f+1,c,a7=>by
  unfold yv;cases e:r.next d c with
  |none=>simp
  |some n=>
   obtain⟨O,_,aG⟩:=wZ s a7 e;have ih:=SG s (d:=d) f n O;dsimp only;split
   .simp
   split
   .refine⟨λm hm=>?_,Ed.mpr ⟨λm hm=>(ih.1 m hm).1,ih.2⟩⟩;obtain rfl|hm:=dz.mp hm
    .exact⟨aG,O⟩
    exact⟨aG.trans (ih.1 m hm).1,(ih.1 m hm).2⟩
   refine⟨λm hm=>?_,by simp⟩;simp at hm;subst hm;exact⟨aG,O⟩
def way(r:Rules)(p:Pos)(c d:Nat):sl Nat:=if p.king=c then r.kingWay p d mC c else r.manWay p d mC c
theorem SH(c:Nat):r.reach p c=hH.flatMap (way r p c):=rfl
theorem FU(s:dj r)(a7:Cell r c)(d:Nat):(∀n∈way r p c d,jB d c n/\Cell r n)/\(way r p c d).Pairwise (jB d):=by
 unfold way;split
 .exact SG s _ _ a7
 exact SF s _ _ a7
theorem FV(s:dj r)(a7:Cell r c)(d:Nat):(way r p c d).Nodup:=(FU s a7 d).2.imp λh=>h.ne
theorem SI(s:dj r)(a7:Cell r c):(r.reach p c).Nodup/\∀n∈r.reach p c,Cell r n/\n≠c:=by
 rw[SH];refine⟨?_,λn aH=>?_⟩
 .unfold hH;simp only[mZ,PG,hU];have z7:∀a b,a<4->b<4->a≠b->∀n,n∈way r p c a->n∈way r p c b->False:=λa b bf a0 ne n O a5=>ne (jB.dir bf a0 ((FU s a7 a).1 n O).1 ((FU s a7 b).1 n a5).1);refine a0M.mpr ⟨FV s a7 0,a0M.mpr ⟨FV s a7 1,a0M.mpr ⟨FV s a7 2,FV s a7 3,?_⟩,?_⟩,?_⟩
  .intro a bf b a0 e;subst e;exact z7 2 3 (by lia) (by lia) (by lia) a bf a0
  .intro a bf b a0 e;subst e;obtain a0|a0:=kN.mp a0
   .exact z7 1 2 (by lia) (by lia) (by lia) a bf a0
   exact z7 1 3 (by lia) (by lia) (by lia) a bf a0
  intro a bf b a0 e;subst e;obtain a0|a0:=kN.mp a0
  .exact z7 0 1 (by lia) (by lia) (by lia) a bf a0
  obtain a0|a0:=kN.mp a0
  .exact z7 0 2 (by lia) (by lia) (by lia) a bf a0
  exact z7 0 3 (by lia) (by lia) (by lia) a bf a0
 obtain⟨d,_,hd⟩:=AG.mp aH;have:=(FU s a7 d).1 n hd;exact⟨this.2,λe=>this.1.ne e.symm⟩
theorem LC:∀{l gh:sl Nat},l.Pairwise (·< ·)->gh.Pairwise (·< ·)->(∀x,x∈l↔x∈gh)->l=gh
 |[],[],_,_,_=>rfl
 |[],b::gh,_,_,h=>by have:=(h b).mpr (iM);simp at this
 |a::l,[],_,_,h=>by have:=(h a).mp (iM);simp at this
 |a::l,b::gh,O,a5,h=>by
  obtain⟨dr,dy⟩:=Ed.mp O;obtain⟨b1,b2⟩:=Ed.mp a5;have e:a=b:=by
   obtain e|m:=dz.mp ((h a).mp iM)
   .exact e
   obtain e|m':=dz.mp ((h b).mpr iM)
   .exact e.symm
   have:=b1 a m;have:=dr b m';lia
  subst e;rw[LC dy b2 λx=>?_];constructor
  .intro ah;obtain e|m:=dz.mp ((h x).mp (eH _ ah))
   .have:=dr x ah;lia
   exact m
  intro ah;obtain e|m:=dz.mp ((h x).mpr (eH _ ah))
  .have:=b1 x ah;lia
  exact m
theorem LD(n:Nat)(q:Nat->Bool):((eI n).filter q).Pairwise (·< ·):=alV _ a0N
theorem sorted_ints{l:sl Nat}{ns:sl Int}(aq:ns.Perm (l.map λ(n:Nat)=>(n:Int)))(ax:ns.Pairwise (·<=·))(aH:l.Nodup)(a0:∀x∈l,x<192):
  ns=((eI 192).filter λt=>l.contains t).map λ(n:Nat)=>(n:Int):=by
 have z8:∀z∈ns,∃n:Nat,n∈l/\z=n:=λz aR=>by obtain⟨n,O,a5⟩:=fG.mp (aq.mem_iff.mp aR);exact⟨n,O,a5.symm⟩
 have aO:ns=(ns.map aiC).map λ(n:Nat)=>(n:Int):=by
  rw[iL];conv=>lhs;rw[<-a0K ns]
  refine ud λz aR=>?_;obtain⟨n,_,rfl⟩:=z8 z aR;simp
 have uW:ns.Nodup:=aq.nodup_iff.mpr (aH.map _ λa b h e=>h (by exact_mod_cast e));have c6:(ns.map aiC).Pairwise (·< ·):=by
  rw[a0O];have a57:=alU ax uW;refine aiE (fun{a b} bf a0 h=>?_) a57;obtain⟨n,_,rfl⟩:=z8 a bf;obtain⟨m,_,rfl⟩:=z8 b a0;have O:=h.1;have a5:=h.2;simp
  lia
 rw[aO,LC c6 (LD 192 _) λx=>?_];rw[jk,fY,y1];constructor
 .intro h;obtain⟨z,aR,rfl⟩:=fG.mp h;obtain⟨n,aH,rfl⟩:=z8 z aR;simp;exact⟨a0 n aH,aH⟩
 intro h;refine fG.mpr ⟨(x:Int),aq.mem_iff.mpr (fG.mpr ⟨x,h.2,Y⟩),by simp⟩
variable{m:Nat×Nat}
theorem SJ{d:Nat}:∀(f c:Nat),∀n∈r.manWay p d f c,r.free p n=a9
 |0,c=>by simp[yw]
 |f+1,c=>by
  unfold yw;cases e:r.next d c with
  |none=>simp
  |some n=>
   have ih:=SJ (d:=d) f n;dsimp only;split
   .simp
   rename_i hf
   have hf:r.free p n=a9:=by simpa using hf
   split
   .simp
   .split
    .exact ih
    simp
   intro m hm;obtain rfl|hm:=dz.mp hm
   .exact hf
   exact ih m hm
theorem SK{d:Nat}:∀(f c:Nat),∀n∈r.kingWay p d f c,r.free p n=a9
 |0,c=>by simp[yv]
 |f+1,c=>by
  unfold yv;cases e:r.next d c with
  |none=>simp
  |some n=>
   have ih:=SK (d:=d) f n;dsimp only;split
   .simp
   rename_i hf
   have hf:r.free p n=a9:=by simpa using hf
   intro m hm;obtain rfl|hm:=dz.mp hm
   .exact hf
   split at hm
   .exact ih m hm
   simp at hm
theorem a58(h:n∈r.reach p c):r.free p n=a9:=by
 rw[SH]at h;obtain⟨d,_,hd⟩:=AG.mp h;unfold way at hd;split at hd
 .exact SK _ _ n hd
 exact SJ _ _ n hd
theorem a59(h:r.free p n=a9):p.on n=.none:=by unfold Jo at h;simp at h;exact h.2
noncomputable def i1(p:Pos)(c:Nat):Bool:=if p.side=0 then p.on c== .hunter else p.on c== .man||p.on c== .king
theorem SM(w:eg r p)(s:dj r)(aA:p.king≠255):c∈p.own↔Cell r c/\i1 p c=a9:=by
 unfold Pos.own i1;split
 .rw[FT];constructor
  .rintro⟨_,h⟩;exact⟨w.a7 c h,by rw[(wX w).mpr h];rfl⟩
  rintro⟨O,a5⟩;have a5:p.on c=.hunter:=by simpa using a5
  exact⟨by have:=s.lt O;lia,(wX w).mp a5⟩
 rw[jk,fY];unfold GONE;constructor
 .rintro⟨_,h⟩;rw[sE]at h;obtain h|h:=h
  .exact⟨w.pv c h,by rw[(wY w).mpr h];rfl⟩
  have h:c=p.king:=by simpa using h
  subst h;refine⟨w.eo.resolve_left aA,?_⟩;rw[lC.mpr Y];rfl
 rintro⟨O,a5⟩;refine⟨by have:=s.lt O;lia,?_⟩;rw[sE]at a5 ⊢;obtain a5|a5:=a5
 .have a5:p.on c=.man:=by simpa using a5
  exact .inl ((wY w).mp a5)
 have a5:p.on c=.king:=by simpa using a5
 have:=lC.mp a5;exact .inr (by simp[this])
theorem SN(h:r.ended p=0):p.king≠255:=by unfold Jn Jr at h;intro e;simp[e]at h
theorem a5a:m∈r.moves p↔r.ended p=0/\m.1∈p.own/\m.2<192/\m.2∈r.reach p m.1:=by
 unfold akC GONE;by_cases h:r.ended p=0
 .simp only[h,ne_eq,not_true_eq_false,jN,Qx];rw[AG];constructor
  .rintro⟨c,O,a5⟩;obtain⟨t,aG,rfl⟩:=fG.mp a5;rw[jk,fY,y1]at aG;exact⟨O,aG⟩
  rintro⟨O,a5,aG⟩;refine⟨m.1,O,fG.mpr ⟨m.2,?_,Y⟩⟩;rw[jk,fY,y1];exact⟨a5,aG⟩
 simp[h]
structure px (r:Rules) (p:Pos) (m:Nat×Nat):Prop where
 eO:Cell r m.1
 gm:Cell r m.2
 own:i1 p m.1=a9
 free:p.on m.2=.none
 nw:r.kindAt m.2≠ .wall
 ne:m.2≠m.1
 SO:p.king≠255
theorem pz(w:eg r p)(s:dj r)(h:m∈r.moves p):px r p m:=by obtain⟨b8,O,_,aG⟩:=a5a.mp h;have aA:=SN b8;obtain⟨eO,own⟩:=(SM w s aA).mp O;have f:=a58 aG;have q:=(SI s eO).2 _ aG;exact⟨eO,q.1,own,a59 f,by unfold Jo at f;simp at f;exact f.1,q.2,aA⟩
theorem SP(w:eg r p):p.side=0∨p.side=1:=by have:=w.gT;lia
theorem a5b(w:eg r p)(h:p.on c=.none):p.hunters.testBit c=aK/\p.men.testBit c=aK/\p.king≠c:=by
 refine⟨?_,?_,λe=>?_⟩
 .cases z:p.hunters.testBit c with|false=>rfl|true=>have:=(wX w).mpr z;rw[h]at this;cases this
 .cases z:p.men.testBit c with|false=>rfl|true=>have:=(wY w).mpr z;rw[h]at this;cases this
 have:=lC.mpr e;rw[h]at this;cases this
theorem SQ{a b:Nat}(aH:∀c,n.testBit c=a9->c<192):(pW (b::(ux n).filter λ(c:Nat)=>c !=a)).testBit c=decide (c=b∨(n.testBit c=a9/\c≠a)):=by
 rw[FR];apply EP.mpr;rw[dz,jk,FT];constructor
 .rintro(h|⟨⟨O,a5⟩,aG⟩)
  .exact .inl h
  exact .inr ⟨a5,by simpa using aG⟩
 rintro(h|⟨O,a5⟩)
 .exact .inl h
 exact .inr ⟨⟨aH c O,O⟩,by simpa using a5⟩
theorem FW(w:eg r p)(m:Nat×Nat):(p.shifted m).side=1-p.side:=by
 unfold Ql;split
 .rfl
 split
 .rename_i h;simp[h]
 have:=SP w;simp;lia
theorem FX(w:eg r p)(s:dj r)(l:px r p m):eg r (p.shifted m)/\(p.shifted m).king≠255/\∀c,(p.shifted m).on c=if c=m.2 then p.on m.1 else if c=m.1 then .none else p.on c:=by
 obtain⟨b1,b2,m6⟩:=a5b w l.free;have pA:=FW w m;have e3:m.1≠255:=λe=>by have:=s.lt l.eO;lia
 have cS:m.2≠255:=λe=>by have:=s.lt l.gm;lia
 have a0:∀c,p.hunters.testBit c=a9->c<192:=λc h=>by have:=s.lt (w.a7 c h);lia
 have kr:∀c,p.men.testBit c=a9->c<192:=λc h=>by have:=s.lt (w.pv c h);lia
 by_cases aA:p.king=m.1
 .
  have e:p.shifted m={p with king:=m.2,side:=1-p.side}:=by unfold Ql;rw[aZ aA]
  rw[e];refine⟨⟨w.a7,w.pv,.inr l.gm,w.hm,b1,b2,by show 1-p.side<=1;lia⟩,cS,λc=>?_⟩;show(if m.2=c then Qk else if p.hunters.testBit c=a9 then .hunter else if p.men.testBit c=a9 then .man else .none)=_;by_cases a5:c=m.2
  .rw[aZ a5.symm,aZ a5,lC.mpr aA]
  rw[aL (λe=>a5 e.symm),aL a5];by_cases O:c=m.1
  .have:=w.aA;have:=w.tm;rw[O,<-aA];simp_all
  rw[aL O];unfold yu;rw[aL (show¬p.king=c from λe=>O (e.symm.trans aA))]
 have own:=l.own;have a5c:p.on m.1≠ .king:=λe=>aA (lC.mp e);unfold i1 at own;by_cases b8:p.side=0
 .rw[aZ b8]at own;have o1:p.on m.1=.hunter:=by simpa using own
  have LG:=(wX w).mp o1;have e:p.shifted m={p with hunters:=pW (m.2::(ux p.hunters).filter λ(c:Nat)=>c !=m.1),side:=1}:=by unfold Ql;rw[aL aA,aZ b8]
  rw[e];have tp:∀c,(pW (m.2::(ux p.hunters).filter λ(c:Nat)=>c !=m.1)).testBit c=decide (c=m.2∨(p.hunters.testBit c=a9/\c≠m.1)):=λc=>SQ a0;refine⟨⟨λc h=>?_,w.pv,w.eo,λc h=>?_,?_,w.tm,by show 1<=1;lia⟩,l.SO,λc=>?_⟩
  .dsimp only at h;rw[tp]at h;obtain h|h:=e7 h
   .rw[h];exact l.gm
   exact w.a7 c h.1
  .dsimp only at h;rw[tp]at h;obtain h|h:=e7 h
   .rw[h];exact b2
   exact w.hm c h.1
  .dsimp only;rw[tp];apply gW;rintro(h|h)
   .exact m6 h
   have:=w.aA;rw[this]at h;simp at h
  show(if p.king=c then Qk else if(pW _).testBit c=a9 then .hunter else if p.men.testBit c=a9 then .man else .none)=_;rw[tp];by_cases a5:c=m.2
  .subst a5;rw[aL m6,aZ Y,aZ (by simp),o1]
  rw[aL a5];by_cases O:c=m.1
  .subst O;have:=w.hm _ LG;simp[aA,a5,this]
  rw[aL O];unfold yu;simp[O,a5]
 rw[aL b8]at own;have o1:p.on m.1=.man:=by
  rw[sE]at own;obtain h|h:=own
  .simpa using h
  exact absurd (by simpa using h) a5c
 have LG:=(wY w).mp o1;have e:p.shifted m={p with men:=pW (m.2::(ux p.men).filter λ(c:Nat)=>c !=m.1),side:=0}:=by unfold Ql;rw[aL aA,aL b8]
 rw[e];have tp:∀c,(pW (m.2::(ux p.men).filter λ(c:Nat)=>c !=m.1)).testBit c=decide (c=m.2∨(p.men.testBit c=a9/\c≠m.1)):=λc=>SQ kr;refine⟨⟨w.a7,λc h=>?_,w.eo,λc h=>?_,w.aA,?_,by show 0<=1;lia⟩,l.SO,λc=>?_⟩
 .dsimp only at h;rw[tp]at h;obtain h|h:=e7 h
  .rw[h];exact l.gm
  exact w.pv c h.1
 .dsimp only;rw[tp];apply gW;have h:p.hunters.testBit c=a9:=h;rintro(h'|h')
  .rw[h',b1]at h;cases h
  have:=w.hm c h;rw[this]at h';simp at h'
 .dsimp only;rw[tp];apply gW;rintro(h|h)
  .exact m6 h
  have:=w.tm;rw[this]at h;simp at h
 show(if p.king=c then Qk else if p.hunters.testBit c=a9 then .hunter else if(pW _).testBit c=a9 then .man else .none)=_;rw[tp];by_cases a5:c=m.2
 .subst a5;rw[aL m6,aZ Y,aL (by rw[b1];simp),aZ (by simp),o1]
 rw[aL a5];by_cases O:c=m.1
 .subst O;have:p.hunters.testBit m.1=aK:=by cases z:p.hunters.testBit m.1 with|false=>rfl|true=>have:=w.hm _ z;rw[LG]at this;cases this
  simp[aA,a5,this]
 rw[aL O];unfold yu;simp[O,a5]
theorem FY(w:eg r p)(s:dj r)(l:px r p m):eg r (r.comes p m)/\(r.comes p m).side=1-p.side/\∀c,c≠255->(r.comes p m).on c=if(r.takes p m).contains c=a9 then .none else(p.shifted m).on c:=by
 obtain⟨jS,gr,_⟩:=FX w s l;have pA:=FW w m;have a0:∀c,(pW ((ux (p.shifted m).hunters).filter λ(c:Nat)=>!(r.takes p m).contains c)).testBit c=decide ((p.shifted m).hunters.testBit c=a9/\(r.takes p m).contains c=aK):=λc=>by
  rw[FR];apply EP.mpr;rw[jk,FT];constructor
  .rintro⟨⟨O,a5⟩,aG⟩;exact⟨a5,by simpa using aG⟩
  rintro⟨O,a5⟩;exact⟨⟨by have:=s.lt (jS.a7 c O);lia,O⟩,by simpa using a5⟩
 have kr:∀c,(pW ((ux (p.shifted m).men).filter λ(c:Nat)=>!(r.takes p m).contains c)).testBit c=decide ((p.shifted m).men.testBit c=a9/\(r.takes p m).contains c=aK):=λc=>by
  rw[FR];apply EP.mpr;rw[jk,FT];constructor
  .rintro⟨⟨O,a5⟩,aG⟩;exact⟨a5,by simpa using aG⟩
  rintro⟨O,a5⟩;exact⟨⟨by have:=s.lt (jS.pv c O);lia,O⟩,by simpa using a5⟩
 have nW:¬Cell r 255:=a54 s;have a5d:(p.shifted m).hunters.testBit 255=aK:=by cases z:(p.shifted m).hunters.testBit 255 with|false=>rfl|true=>exact absurd (jS.a7 _ z) nW
 have a5e:(p.shifted m).men.testBit 255=aK:=by cases z:(p.shifted m).men.testBit 255 with|false=>rfl|true=>exact absurd (jS.pv _ z) nW
 unfold Rules.comes Jr;refine⟨⟨λc h=>?_,λc h=>?_,?_,λc h=>?_,?_,?_,?_⟩,pA,λc a7=>?_⟩
 .dsimp only at h;rw[a0]at h;exact jS.a7 c (e7 h).1
 .dsimp only at h;rw[kr]at h;exact jS.pv c (e7 h).1
 .dsimp only;split
  .exact .inl Y
  exact jS.eo
 .dsimp only at h ⊢;rw[a0]at h;rw[kr];apply gW;have:=jS.hm c (e7 h).1;rw[this];simp
 .dsimp only;rw[a0];apply gW;split
  .rw[a5d];simp
  rw[jS.aA];simp
 .dsimp only;rw[kr];apply gW;split
  .rw[a5e];simp
  rw[jS.tm];simp
 .dsimp only;have:=jS.gT;exact this
 show(if(if(r.takes p m).contains (p.shifted m).king=a9 then 255 else(p.shifted m).king)=c then Qk else if(pW _).testBit c=a9 then .hunter else if(pW _).testBit c=a9 then .man else .none)=_;rw[a0,kr];unfold yu;by_cases aA:(p.shifted m).king=c
 .subst aA;have aO:=jS.aA;have aT:=jS.tm;by_cases b9:(r.takes p m).contains (p.shifted m).king=a9
  .simp only[b9,jO,aO,aT,qu,B1,decide_false,jN];rw[aL (λe=>gr e.symm)]
  rw[aL b9,aZ Y,aL b9,aZ Y]
 have LH:¬(if(r.takes p m).contains (p.shifted m).king=a9 then 255 else(p.shifted m).king)=c:=by
  split
  .exact λe=>a7 e.symm
  exact aA
 rw[aL LH];by_cases b9:(r.takes p m).contains c=a9
 .simp only[b9,jO,a0v,and_false,decide_false,qu,jN]
 have FZ:(r.takes p m).contains c=aK:=by simpa using b9
 simp only[FZ,aA,and_true,Bool.decide_eq_true,qu,jN]
noncomputable def heldBy(r:Rules)(q:Pos)(men:Bool):Iw Nat->Bool
 |none=>aK
 |some b=>r.helps men (q.on b)||r.against q men b
def qa(r:Rules)(q:Pos)(d n:Nat):Bool:=if q.on n=.king/\r.four=a9 then hH.all λe=>heldBy r q a9 (r.next e n)else heldBy r q (q.on n != .hunter) (r.next d n)
def kC(r:Rules)(q:Pos)(t d:Nat):Iw Nat:=match r.next d t with
 |none=>aa
 |some n=>if i1 q n=a9/\qa r q d n=a9 then B n else aa
def found(r:Rules)(q:Pos)(t:Nat):sl Nat:=if q.on t=.king/\r.armed=aK then[]else hH.filterMap (kC r q t)
theorem F_:(d,n)∈r.neighbours c↔d∈hH/\r.next d c=B n:=by
 unfold akE;rw[v_];constructor
 .rintro⟨e,O,a5⟩;cases z:r.next e c with|none=>rw[z]at a5;cases a5|some k=>rw[z]at a5;have a5:(e,k)=(d,n):=h4 a5;cases a5;exact⟨O,z⟩
 rintro⟨O,a5⟩;exact⟨d,O,by rw[a5];rfl⟩
theorem a5f(f:Nat->Bool)(c:Nat):(((r.neighbours c).length==4&&(r.neighbours c).all λ(m:Nat×Nat)=>f m.2)=a9)↔(hH.all λe=>match r.next e c with|none=>aK|some b=>f b)=a9:=by unfold akE hH;cases b8:r.next 0 c<;>cases O:r.next 1 c<;>cases a5:r.next 2 c<;>cases aG:r.next 3 c<;>simp[List.filterMap,b8,O,a5,aG]
theorem a5g{hunters:Bool}{t:Nat}:c∈r.menTaken q hunters t↔¬(hunters=aK/\q.king=t/\r.armed=aK)/\∃d,d∈hH/\r.next d t=B c/\q.on c=(if hunters=a9 then akz else .hunter)/\heldBy r q hunters (r.next d c)=a9:=by
 unfold Rules.menTaken;by_cases h:hunters=aK/\q.king=t/\r.armed=aK
 .simp[h]
 rw[aL h,v_];constructor
 .rintro⟨⟨d,n⟩,O,a5⟩;obtain⟨aG,cJ⟩:=F_.mp O;refine⟨h,d,aG,?_⟩;dsimp only at a5;by_cases f7:(q.on n==(if hunters=a9 then akz else .hunter))=a9
  .rw[aZ f7]at a5;have f7:=eq_of_beq f7;cases z:r.next d n with
   |none=>rw[z]at a5;cases a5
   |some b=>
    rw[z]at a5;dsimp only at a5;split at a5
    .rename_i iV
     cases a5;refine⟨cJ,f7,?_⟩;rw[z];show(r.helps hunters (q.on b)||r.against q hunters b)=a9;rw[sE];exact iV
    cases a5
  rw[aL f7]at a5;cases a5
 rintro⟨_,d,O,a5,aG,cJ⟩;refine⟨(d,c),F_.mpr ⟨O,a5⟩,?_⟩;dsimp only;rw[aZ (i9.mpr aG)];cases z:r.next d c with
 |none=>rw[z]at cJ;cases cJ
 |some b=>rw[z]at cJ;have cJ:(r.helps hunters (q.on b)||r.against q hunters b)=a9:=cJ;rw[sE]at cJ;dsimp only;rw[aZ cJ]
theorem a5h(b:Iw Nat):heldBy r q a9 b=(match b with|none=>aK|some b=>q.on b== .hunter||r.against q a9 b):=by cases b<;>rfl
theorem a5i{t:Nat}:r.kingTaken q t=a9↔∃d,d∈hH/\r.next d t=B q.king/\qa r q d q.king=a9:=by
  unfold Rules.kingTaken;rw[Ax];have aU:q.on q.king=.king:=lC.mpr Y;have key:∀d,qa r q d q.king=a9↔(if r.four=a9 then(r.neighbours q.king).length==4&&(r.neighbours q.king).all λ(m:Nat×Nat)=>q.on m.2== .hunter||r.against q a9 m.2 else match r.next d q.king with
      |some b=>q.on b== .hunter||r.against q a9 b
      |none=>aK)=a9:=λd=>by
    unfold qa;rw[aU];by_cases cJ:r.four=a9
    . rw[aZ ⟨Y,cJ⟩,aZ cJ,a5f λb=>q.on b== .hunter||r.against q a9 b];apply Eq.to_iff;congr 2
    rw[aL (λe=>cJ e.2),aL cJ];show heldBy r q a9 _=a9↔_;rw[a5h];cases r.next d q.king<;>rfl
  constructor
  . rintro⟨⟨d,n⟩,O,a5⟩;obtain⟨aG,cJ⟩:=F_.mp O;dsimp only at a5;rw[j3]at a5;have e:=eq_of_beq a5.1;subst e;exact⟨d,aG,cJ,(key d).mpr a5.2⟩
  rintro⟨d,O,a5,aG⟩;refine⟨(d,q.king),F_.mpr ⟨O,a5⟩,?_⟩;dsimp only;rw[j3];exact⟨by simp,(key d).mp aG⟩
theorem SR{t:Nat}:c∈found r q t↔¬(q.on t=.king/\r.armed=aK)/\∃d,d∈hH/\r.next d t=B c/\i1 q c=a9/\qa r q d c=a9:=by
 unfold found;by_cases h:q.on t=.king/\r.armed=aK
 .simp[h]
 rw[aL h,v_];constructor
 .rintro⟨d,O,a5⟩;refine⟨h,d,O,?_⟩;unfold kC at a5;cases z:r.next d t with
  |none=>rw[z]at a5;cases a5
  |some n=>
   rw[z]at a5;dsimp only at a5;split at a5
   .rename_i aG
    cases a5;exact⟨Y,aG⟩
   cases a5
 rintro⟨_,d,O,a5,aG⟩;refine⟨d,O,?_⟩;unfold kC;rw[a5];dsimp only;rw[aZ aG]
theorem LI(w:eg r p)(s:dj r)(l:px r p m):r.takes p m=(eI 192).filter λc=>(found r (p.shifted m) m.2).contains c:=by
 obtain⟨_,_,a5j⟩:=FX w s l;have pA:=FW w m;have BW:(p.shifted m).on m.2=p.on m.1:=by rw[a5j,aZ Y]
 unfold Rules.takes GONE;dsimp only;refine IL λc _=>?_;apply hT.mpr;rw[sE,y1,y1,j3,j3,i9,i9,a5g,SR,a5i,BW];have own:=l.own;unfold i1 at own;obtain b8|O:=SP w
 .
  rw[aZ b8]at own;have o1:p.on m.1=.hunter:=by simpa using own
  have os:∀c,i1 (p.shifted m) c=((p.shifted m).on c== .man||(p.shifted m).on c== .king):=λc=>by unfold i1;rw[pA,b8];rfl
  rw[b8,o1];simp only[Qw,a0v,B1,not_false_eq_true,Qx,jO,reduceCtorEq];constructor
  .rintro(⟨d,O,a5,aG,cJ⟩|⟨⟨d,O,a5,aG⟩,rfl⟩)
   .refine⟨d,O,a5,by rw[os,aG];rfl,?_⟩;unfold qa;rw[aG];simp only[reduceCtorEq,B1,jN];exact cJ
   exact⟨d,O,a5,by rw[os,lC.mpr Y];rfl,aG⟩
  rintro⟨d,O,a5,aG,cJ⟩;rw[os,sE]at aG;obtain aG|aG:=aG
  .have aG:=eq_of_beq aG;refine .inl ⟨d,O,a5,aG,?_⟩;unfold qa at cJ;rw[aG]at cJ;simp only[reduceCtorEq,B1,jN]at cJ;exact cJ
  have aG:=lC.mp (eq_of_beq aG);subst aG;exact .inr ⟨⟨d,O,a5,cJ⟩,Y⟩
 .
  have b8:¬p.side=0:=by lia
  have os:∀c,i1 (p.shifted m) c=((p.shifted m).on c== .hunter):=λc=>by unfold i1;rw[pA,O];rfl
  have a5k:(p.shifted m).king=m.2↔p.on m.1=.king:=by rw[<-BW];exact lC.symm
  rw[O];simp only[Nat.one_ne_zero,B1,qD,jN,qu,Qx,a5k,show((1:Nat)==0)=aK from Y];constructor
  .rintro⟨a5,d,aG,cJ,f7,iV⟩;refine⟨a5,d,aG,cJ,by rw[os,f7];rfl,?_⟩;unfold qa;rw[f7];simp only[reduceCtorEq,B1,jN];exact iV
  rintro⟨a5,d,aG,cJ,f7,iV⟩;rw[os]at f7;have f7:=eq_of_beq f7;refine⟨a5,d,aG,cJ,f7,?_⟩;unfold qa at iV;rw[f7]at iV;simp only[reduceCtorEq,B1,jN]at iV;exact iV
theorem LJ(s:dj r){t:Nat}(b9:Cell r t):(found r q t).Nodup/\∀c∈found r q t,Cell r c/\c≠t:=by
 refine⟨?_,λc a7=>?_⟩
 .unfold found;split
  .simp
  have aq:hH.Pairwise (λa b=>a≠b/\a<4/\b<4):=by unfold hH;simp
  refine aiD _ (λa b h x ah y bl=>?_) aq;have key:∀d x,kC r q t d=B x->jB d t x:=λd x ah=>by
   unfold kC at ah;cases z:r.next d t with
   |none=>rw[z]at ah;cases ah
   |some n=>
    rw[z]at ah;dsimp only at ah;split at ah
    .cases ah;exact(wZ s b9 z).2.2
    cases ah
  intro e;subst e;exact h.1 (jB.dir h.2.1 h.2.2 (key a x ah) (key b x bl))
 obtain⟨_,d,_,h,_⟩:=SR.mp a7;have:=wZ s b9 h;exact⟨this.1,λe=>this.2.2.ne e.symm⟩
def i2(r:Rules)(p:Pos)(c:Nat):sl Nat:=if i1 p c=a9 then(eI 192).filter λt=>(r.reach p c).contains t else[]
variable{f:Nat}
theorem SS(h:i1 p c=a9):p.on c≠ .none:=by unfold i1 at h;intro e;rw[e]at h;split at h<;>simp at h
theorem a5l(w:eg r p)(s:dj r)(aA:p.king≠255):p.own=(eI 169).filter λc=>i1 p c:=by
 refine LC ?_ (LD 169 _) λc=>?_
 .unfold Pos.own ux GONE;split<;>exact LD 192 _
 rw[SM w s aA,jk,fY];constructor
 .rintro⟨O,a5⟩;exact⟨s.lt O,a5⟩
 rintro⟨O,a5⟩;exact⟨LB w s (SS a5) (by lia),a5⟩
theorem SU{br hz:Type}(q:br->Bool)(f:br->sl hz):∀l:sl br,(l.filter q).flatMap f=l.flatMap λa=>if q a=a9 then f a else[]
 |[]=>rfl
 |a::l=>by rw[qw,mZ,<-SU q f l];split<;>simp
theorem LK(w:eg r p)(s:dj r)(h:r.ended p=0):r.moves p=(eI 169).flatMap λc=>(i2 r p c).map λt=>(c,t):=by have aA:=SN h;unfold akC;rw[aL (by simp[h]),a5l w s aA,SU];congr 1;funext c;unfold i2 GONE;split<;>simp
theorem a5m(w:eg r p)(s:dj r)(h:r.ended p=0):m∈r.moves p↔m.1<169/\m.2∈i2 r p m.1:=by
 rw[LK w s h,AG];constructor
 .rintro⟨c,O,a5⟩;obtain⟨t,aG,rfl⟩:=fG.mp a5;exact⟨fY.mp O,aG⟩
 rintro⟨O,a5⟩;exact⟨m.1,fY.mpr O,fG.mpr ⟨m.2,a5,Y⟩⟩
theorem SV(w:eg r p)(s:dj r)(h:r.ended p=0):r.moves p=[]↔∀c,c<169->i2 r p c=[]:=by
 rw[LK w s h,List.flatMap_eq_nil_iff];constructor
 .intro h c a7;have:=h c (fY.mpr a7);simpa using this
 intro h c a7;rw[h c (fY.mp a7)];rfl
theorem a5n(s:dj r)(e:r.next d c=B n):r.manWay p d (f+1) c=if r.free p n=aK then[]else match r.kindAt n with
   |.exit=>[]
   |.seat=>if r.passed=a9 then r.manWay p d f n else[]
   |_=>n::r.manWay p d f n:=by
 conv=>lhs;unfold yw
 rw[e];dsimp only;split
 .rfl
 cases r.kindAt n<;>rfl
theorem a5o(s:dj r)(e:r.next d c=B n):r.kingWay p d (f+1) c=if r.free p n=aK then[]else n::(if r.slides=a9 then r.kingWay p d f n else[]):=by
 conv=>lhs;unfold yv
 rw[e]
theorem SW(e:r.next d c=aa):r.manWay p d (f+1) c=[]/\r.kingWay p d (f+1) c=[]:=by unfold yw yv;rw[e];exact⟨Y,Y⟩
def z9(r:Rules)(k:Bool)(n:Nat):Bool:=k||r.kindAt n== .plain
def za(r:Rules)(k:Bool)(n:Nat):Bool:=if k=a9 then r.slides else match r.kindAt n with
 |.seat=>r.passed
 |.exit=>aK
 |_=>a9
def pB(r:Rules)(p:Pos)(k:Bool)(d:Nat):Nat->Nat->sl Nat:=if k=a9 then r.kingWay p d else r.manWay p d
theorem a5p(s:dj r){k:Bool}(e:r.next d c=B n):pB r p k d (f+1) c=if r.free p n=aK then[]else(if z9 r k n=a9 then[n]else[])++(if za r k n=a9 then pB r p k d f n else[]):=by
 unfold pB z9 za;cases k with
 |true=>
  simp only[jO,aix];rw[a5o s e];split
  .rfl
  rfl
 |false=>
  simp only[qu,jN,E4];rw[a5n s e];split
  .rfl
  rename_i hf
  have hw:r.kindAt n≠ .wall:=by intro d8;unfold Jo at hf;rw[d8]at hf;simp at hf
  cases a5q:r.kindAt n with|plain=>simp|seat=>simp|exit=>simp|wall=>exact absurd a5q hw
theorem SX{k:Bool}(e:r.next d c=aa):pB r p k d (f+1) c=[]:=by
 unfold pB;cases k
 .exact(SW e).1
 exact(SW e).2
theorem LL(c d:Nat):way r p c d=pB r p (p.on c== .king) d 13 c:=by
 unfold way pB mC;by_cases h:p.king=c
 .rw[aZ h,aZ (by rw[lC.mpr h];rfl)]
 rw[aL h,aL (by simp only[i9];exact λe=>h (lC.mp e))]
theorem zb:∀b:aS,cj b []=0
 |[]=>rfl
 |_::_=>rfl
theorem qU(b:aS):cj [] b=0:=by cases b<;>rfl
theorem iY(x y:UInt8)(l m:aS):cj (x::l) (y::m)=if x=y then cj l m+1 else 0:=rfl
theorem pC:∀(w b:aS),du w b=a9↔cj b w=w.length
 |[],b=>by simp[du,zb]
 |x::w,[]=>by simp[du,qU]
 |x::w,y::b=>by
  rw[iY];show(x==y&&du w b)=a9↔_;rw[j3,pC w b,i9];by_cases h:x=y
  .subst h;simp
  have:¬y=x:=λe=>h e.symm;simp[h,this]
theorem zc:∀(b w:aS),cj b w<=w.length
 |[],w=>by rw[qU];lia
 |_::_,[]=>by simp[cj]
 |x::b,y::w=>by rw[iY];have:=zc b w;split<;>simp<;>lia
theorem SY:∀(b w:aS),cj b w<=b.length
 |[],w=>by rw[qU];simp
 |_::_,[]=>by simp[cj]
 |x::b,y::w=>by rw[iY];have:=SY b w;split<;>simp<;>lia
def kD(c:eV)(n:Nat):eV:=⟨c.rest.drop n,c.at_+n⟩
theorem S_(c:eV):kD c 0=c:=rfl
theorem a5r(c:eV):c.on=kD c 1:=rfl
theorem F':∀(w:aS)(c:eV),eD w c=if du w c.rest=a9 then .ok (kD c w.length)else .error (c.at_+cj c.rest w)
 |[],c=>by simp[eD,du,S_]
 |x::w,⟨[],a⟩=>by simp[eD,a1Z,du,cj]
 |x::w,⟨y::b,a⟩=>by
  unfold eD;show(if B y=B x then _ else _)=_;rw[iY];by_cases h:y=x
  .subst h;rw[aZ Y,F' w];simp only[a5r,kD,PE,E8,du,Qw,E5,jO,fX];split
   .rw[show a+1+w.length=a+(w.length+1) by lia]
   rw[show a+1+cj b w=a+(cj b w+1) by lia]
  have h':¬x=y:=λe=>h e.symm;simp[h,h',du]
theorem LM:∀(w v:aS)(c:eV),eD (w++v) c=(eD w c).bind (eD v)
 |[],v,c=>rfl
 |x::w,v,c=>by
  show(if c.next=B x then eD (w++v) c.on else .error c.at_)=aiy (if c.next=B x then eD w c.on else .error c.at_) (eD v);split
  .exact LM w v c.on
  rfl
def tq(b:aS)(l:sl (Nat×aS)):Nat:=(l.map λw=>cj b w.2).foldr max 0
theorem S'(b:aS)(w:Nat×aS)(l:sl (Nat×aS)):tq b (w::l)=max (cj b w.2) (tq b l):=rfl
def uX(l:sl (Nat×aS)):Prop:=l.Pairwise λa b=>du a.2 b.2=aK/\du b.2 a.2=aK
theorem LN(b:aS):du [] b=a9:=by cases b<;>rfl
def m7(x:UInt8)(l:sl (Nat×aS)):sl (Nat×aS):=l.filterMap λ(w:Nat×aS)=>if w.2.head? =B x then B (w.1,w.2.drop 1)else aa
theorem T1(x:UInt8)(i:Nat)(y:UInt8)(w:aS)(l:sl (Nat×aS)):m7 x ((i,y::w)::l)=if y=x then(i,w)::m7 x l else m7 x l:=by unfold m7;rw[vW];by_cases h:y=x<;>simp[h]
theorem a5s{x:UInt8}:∀{l:sl (Nat×aS)},uX l->uX (m7 x l):=fun{l} h=>by
 unfold uX m7 at*;refine aiD _ (λa b a5t u bx v bk=>?_) h;obtain⟨i,T2⟩:=a;obtain⟨j,T3⟩:=b;cases T2 with
 |nil=>simp at bx
 |cons y T2=>cases T3 with|nil=>simp at bk|cons z T3=>simp only[List.head?_cons,alX,PE,E8,Option.ite_none_right_eq_some]at bx bk;obtain⟨rfl,rfl⟩:=bx;obtain⟨rfl,rfl⟩:=bk;simpa[du]using a5t
theorem T4(x:UInt8)(b:aS):∀{l:sl (Nat×aS)},(∀w∈l,w.2≠[])->(l.find? λw=>du w.2 (x::b))=((m7 x l).find? λw=>du w.2 b).map λw=>(w.1,x::w.2)
 |[],_=>rfl
 |(i,[])::l,h=>absurd Y (h _ iM)
 |(i,y::w)::l,h=>by
  rw[T1,sF,T4 x b λw hw=>h w (eH _ hw)];by_cases e:y=x
  .subst e;rw[aZ Y,sF];show(match(y==y&&du w b)with|true=>_|false=>_)=_;rw[Qw,E5];cases du w b<;>rfl
  rw[aL e];show(match(y==x&&du w b)with|true=>_|false=>_)=_;rw[EO.mpr e];rfl
theorem T5(x:UInt8)(b:aS):∀{l:sl (Nat×aS)},(∀w∈l,w.2≠[])->tq (x::b) l=if m7 x l=[]then 0 else tq b (m7 x l)+1
 |[],_=>rfl
 |(i,[])::l,h=>absurd Y (h _ iM)
 |(i,y::w)::l,h=>by
  rw[T1,S',T5 x b λw hw=>h w (eH _ hw)];show max (cj (x::b) (y::w)) _=_;rw[iY];by_cases e:y=x
  .subst e;rw[aZ Y,aZ Y,aL (show¬((i,w)::m7 y l=[]) by intro e;cases e),S'];show max (cj b w+1) _=max (cj b w) _+1;by_cases e:m7 y l=[]
   .rw[e];simp[tq]
   rw[aL e];lia
  rw[aL (λq=>e q.symm),aL e];simp
theorem T6:∀(f:Nat)(l:sl (Nat×aS))(c:eV),uX l->l≠[]->(∀w∈l,w.2.length<f)->Ju f l c=match l.find? λw=>du w.2 c.rest with
   |some w=>.ok (w.1,kD c w.2.length)
   |none=>.error (c.at_+tq c.rest l)
 |0,l,c,_,bV,ar=>by cases l with|nil=>exact absurd rfl bV|cons w l=>have:=ar w iM;lia
 |f+1,l,c,aq,bV,ar=>by
  unfold Ju;cases aF:l.find? λ(w:Nat×aS)=>w.2.isEmpty with
  |some w=>
   have a5u:=PF aF;have a5v:=Eb aF;have LO:w.2=[]:=by simpa using a5u
   have:l=[w]:=by
    cases l with
    |nil=>exact absurd Y bV
    |cons a l=>
     obtain⟨O,_⟩:=Ed.mp aq;obtain e|m:=dz.mp a5v
     .subst e;cases l with|nil=>rfl|cons b l=>have:=(O b iM).1;rw[LO,LN]at this;cases this
     have:=(O w m).2;rw[LO,LN]at this;cases this
   subst this;simp[List.find?,LO,LN,S_]
  |none=>
   have aH:∀w∈l,w.2≠[]:=λw hw e=>by have:=y2.mp aF w hw;simp[e]at this
   obtain⟨b,a⟩:=c;cases b with
   |nil=>
    show aiz a=_;have aO:(l.find? λw=>du w.2 [])=aa:=y2.mpr λw hw=>by have:=aH w hw;cases z:w.2 with|nil=>exact absurd z this|cons x t=>simp[du]
    have aT:tq [] l=0:=by unfold tq;clear aF aH aO ar aq bV;induction l with|nil=>rfl|cons w l ih=>rw[ir,a0F,ih,qU];rfl
    simp only[aO,aT,Ee]
   |cons x b=>
    show(if(m7 x l).isEmpty=a9 then aiz a else Ju f (m7 x l) ⟨b,a+1⟩)=_;dsimp only;rw[T4 x b aH,T5 x b aH];by_cases b9:m7 x l=[]
    .simp[b9]
    rw[aL (by simpa using b9),aL b9,T6 f (m7 x l) ⟨b,a+1⟩ (a5s aq) b9]
    .dsimp only;cases(m7 x l).find? λw=>du w.2 b with|some w=>simp[kD];lia|none=>simp;lia
    intro w hw;unfold m7 at hw;obtain⟨u,bx,e⟩:=v_.mp hw;have:=ar u bx;split at e
    .cases e;have a5w:=aH u bx;cases z:u.2 with|nil=>exact absurd z a5w|cons y t=>rw[z]at this;simp at this ⊢;lia
    cases e
noncomputable def tr(lo hi d:Nat):Bool:=decide (0<d)&&yy lo hi d
variable{lo hi:Nat}
theorem T7(hd:0<d)(bT:hi<1000000):yy lo hi d=a9↔∃k,d*10^k<=hi/\lo<=d*10^k+(10^k-1):=by
 unfold yy;rw[Ax];constructor
 .rintro⟨k,_,h⟩;rw[j3]at h;exact⟨k,e7 h.1,e7 h.2⟩
 rintro⟨k,O,a5⟩;refine⟨k,fY.mpr ?_,?_⟩
 .by_cases aA:k<6
  .exact aA
  have e:10^k=10^6*10^(k-6):=by rw[<-aj8];congr 1;lia
  have p:0<10^(k-6):=Eg (by simp);have:1000000<=10^k:=by rw[e];exact a0U _ p
  have:=Nat.le_mul_of_pos_left (10^k) hd
  lia
 rw[j3];exact⟨eL O,eL a5⟩
theorem a5x(d k:Nat):d*10^(k+1)=d*10^k*10/\d*10^(k+1)+(10^(k+1)-1)=(d*10^k+(10^k-1))*10+9:=by
 have e:10^(k+1)=10^k*10:=a0Y ..;have p:0<10^k:=Eg (by simp);have aT:d*10^(k+1)=d*10^k*10:=by rw[e,a0W]
 refine⟨aT,?_⟩;rw[aT,e]
 lia
variable{k:Nat}
theorem a5y(hd:0<d)(bT:hi<1000000)(O:d*10^k<=hi)(a5:lo<=d*10^k+(10^k-1)):yy lo hi d=a9:=(T7 hd bT).mpr ⟨k,O,a5⟩
theorem a5z(hd:0<d)(bT:hi<1000000)(O:hi<d*10^k)(a5:∀j,j<k->¬lo<=d*10^j+(10^j-1)):yy lo hi d=aK:=by
 cases z:yy lo hi d with
 |false=>rfl
 |true=>
  obtain⟨j,_,cJ⟩:=(T7 hd bT).mp z;by_cases bY:j<k
  .exact absurd cJ (a5 j bY)
  have e:10^j=10^k*10^(j-k):=by rw[<-aj8];congr 1;lia
  have p:0<10^(j-k):=Eg (by simp);have:d*10^k<=d*10^j:=by rw[e,<-a0W];exact a0U _ p
  lia
theorem T8(h:tr lo hi d=a9):0<d/\d<=hi:=by
 unfold tr at h;rw[j3]at h;have b8:=e7 h.1;refine⟨b8,?_⟩;have h:=h.2;unfold yy at h;obtain⟨k,_,h⟩:=Ax.mp h;rw[j3]at h;have O:=e7 h.1;have p:0<10^k:=Eg (by simp);have:=a0U d p
 lia
def more(lo hi d:Nat)(c:eV):Iw Nat:=match c.next with
 |some x=>if Jt x=a9/\tr lo hi (10*d+(x.toNat-48))=a9 then B (10*d+(x.toNat-48))else aa
 |none=>aa
theorem T9{e:Nat}{c:eV}(h:more lo hi d c=B e):yz lo hi (f+1) d c=yz lo hi f e (kD c 1):=by
 unfold more at h;conv=>lhs;unfold yz
 cases a7:c.next with
 |none=>rw[a7]at h;cases h
 |some x=>
  rw[a7]at h;dsimp only at h ⊢;split at h
  .rename_i O
   cases h;have a5:=O.2;unfold tr at a5;rw[j3]at a5;rw[aZ ⟨O.1,e7 a5.1,a5.2⟩];rfl
  cases h
theorem Ta{c:eV}(h:more lo hi d c=aa):yz lo hi (f+1) d c=if lo<=d/\d<=hi then .ok (d,c)else .error c.at_:=by
 unfold more at h;unfold yz;cases a7:c.next with
 |none=>rfl
 |some x=>
  rw[a7]at h;dsimp only at h ⊢;split at h
  .cases h
  rename_i O
  rw[aL];rintro⟨a5,aG,cJ⟩;exact O ⟨a5,by unfold tr;rw[j3];exact⟨eL aG,cJ⟩⟩
theorem a5A{p:UInt8->Bool}{c:eV}{x:UInt8}(a7:c.next=B x)(aq:p x=a9):oV p (n+1) c=(x::(oV p n (kD c 1)).1,(oV p n (kD c 1)).2):=by
 conv=>lhs;unfold oV
 rw[a7];dsimp only;rw[aZ aq];rfl
theorem a5B{p:UInt8->Bool}{c:eV}(h:∀x,c.next=B x->p x=aK):oV p (n+1) c=([],c):=by unfold oV;cases a7:c.next with|none=>rfl|some x=>simp[h x a7]
noncomputable def pc:lh->Nat
 |.none=>46
 |.hunter=>104
 |.man=>109
 |.king=>75
noncomputable def eo:Kind->Nat
 |.plain=>46
 |.seat=>83
 |.exit=>88
 |.wall=>35
theorem LP{a b:lh}(h:pc a=pc b):a=b:=by cases a<;>cases b<;>first|rfl|(exact absurd h dQ)
theorem a5C{a b:Kind}(h:eo a=eo b):a=b:=by cases a<;>cases b<;>first|rfl|(exact absurd h dQ)
def bd(p:Pos):sl Nat:=(eI 169).map λc=>pc (p.on c)
def fa(r:Rules):sl Nat:=(eI 169).map λc=>if r.isCell c=a9 then eo (r.kindAt c)else 46
theorem kE(p:Pos):(bd p).length=169:=by simp[bd]
theorem LQ(r:Rules):(fa r).length=169:=by simp[fa]
theorem qV(p:Pos)(h:c<169):(bd p)[c]? =B (pc (p.on c)):=by simp[bd,h]
theorem Tb(r:Rules)(s:dj r)(h:Cell r c):(fa r)[c]? =B (eo (r.kindAt c)):=by have:=s.lt h;have h:r.isCell c=a9:=h;simp[fa,this,h]
theorem a5D(s:dj r)(wp:eg r p)(jS:eg r q)(h:bd p=bd q)(ax:p.side=q.side):p=q:=by refine a55 s wp jS (λc a7=>?_) ax;have a:=qV p a7;rw[h,qV q a7]at a;exact(LP (h4 a)).symm
theorem a5E(s:dj r)(w:eg r p):(p.king=255->∀(c:Nat),(bd p)[c]?≠B 75)/\(p.king≠255->p.king<169/\(bd p)[p.king]? =B 75/\∀(c:Nat),c<p.king->(bd p)[c]?≠B 75):=by
 have key:∀(c:Nat),(bd p)[c]? =B 75->p.king=c:=λc h=>by
  have a7:c<169:=by have:=(ei.mp h).1;rw[kE]at this;exact this
  rw[qV p a7]at h;exact lC.mp (LP (a:=p.on c) (b:=.king) (h4 h))
 refine⟨λaA c h=>?_,λaA=>?_⟩
 .have e:=key c h;have:c<169:=by have:=(ei.mp h).1;rw[kE]at this;exact this
  lia
 have lt:=s.lt (w.eo.resolve_left aA);refine⟨lt,?_,λc a7 h=>?_⟩
 .rw[qV p lt,lC.mpr Y];rfl
 have:=key c h;lia
def uY(l:sl Nat)(b:sl Nat):sl Nat:=l.foldl (λb c=>b.set c 46) b
theorem LR:∀(l b:sl Nat),(uY l b).length=b.length
 |[],b=>rfl
 |c::l,b=>by show(uY l (b.set c 46)).length=_;rw[LR l,qy]
theorem Tc:∀(l b:sl Nat){c:Nat},c<b.length->(uY l b)[c]? =if l.contains c=a9 then B 46 else b[c]?
 |[],b,c,_=>by simp[uY]
 |x::l,b,c,h=>by
  show(uY l (b.set x 46))[c]? =_;rw[Tc l (b.set x 46) (by rw[qy];exact h),PC];by_cases ar:l.contains c=a9
  .simp only[ar,Pz,jO]
  have ar:l.contains c=aK:=by simpa using ar
  simp only[ar,aiw,qu,jN];by_cases e:c=x
  .subst e;simp[h]
  rw[AE (λq=>e q.symm)];simp[e]
theorem a5F(w:eg r p)(s:dj r)(l:px r p m):bd (p.shifted m)=((bd p).set m.2 (pc (p.on m.1))).set m.1 46:=by
 obtain⟨_,_,on⟩:=FX w s l;have iX:=s.lt l.eO;have gD:=s.lt l.gm;refine IK λc=>?_;by_cases a7:c<169
 .rw[qV _ a7,on];by_cases O:c=m.1
  .subst O;rw[aL (λe=>l.ne e.symm),aZ Y,IQ (by rw[qy,kE];exact a7)];rfl
  rw[AE (λe=>O e.symm)];by_cases a5:c=m.2
  .subst a5;rw[aZ Y,IQ (by rw[kE];exact a7)]
  rw[aL a5,aL O,AE (λe=>a5 e.symm),qV _ a7]
 rw[qx (by rw[kE];lia),qx (by rw[qy,qy,kE];lia)]
theorem a5G(w:eg r p)(s:dj r)(l:px r p m):bd (r.comes p m)=uY (r.takes p m) (bd (p.shifted m)):=by
 obtain⟨_,_,on⟩:=FY w s l;refine IK λc=>?_;by_cases a7:c<169
 .rw[qV _ a7,on c (by lia),Tc _ _ (by rw[kE];exact a7),qV _ a7];split<;>rfl
 rw[qx (by rw[kE];lia),qx (by rw[LR,kE];lia)]
variable{l:sl (Nat×Nat)}{i:Nat}
theorem BX(l:sl (Nat×Nat))(m:Nat×Nat):r.after (l++[m])=r.comes (r.after l) m:=by unfold Rules.after;rw[a0E];rfl
theorem Td:∀(l:sl (Nat×Nat))(p:Pos)(m:Nat×Nat),r.rowFrom p (l++[m])=r.rowFrom p l++[r.comes (l.foldl (λ(p:Pos)(m:Nat×Nat)=>r.comes p m) p) m]
 |[],p,m=>rfl
 |x::l,p,m=>by show p::r.rowFrom (r.comes p x) (l++[m])=p::(r.rowFrom (r.comes p x) l++[_]);rw[Td l];rfl
theorem G0(l:sl (Nat×Nat))(m:Nat×Nat):r.row (l++[m])=r.row l++[r.after (l++[m])]:=by unfold Rules.row;rw[Td,BX];rfl
theorem Te:∀(l:sl (Nat×Nat))(p:Pos),(r.rowFrom p l).length=l.length+1
 |[],p=>rfl
 |x::l,p=>by show(p::r.rowFrom (r.comes p x) l).length=_;rw[fX,Te l];rfl
theorem rZ(l:sl (Nat×Nat)):(r.row l).length=l.length+1:=Te l _
theorem Tg:∀(l:sl (Nat×Nat))(p:Pos)(k:Nat),k<=l.length->(r.rowFrom p l)[k]? =B ((l.take k).foldl (λ(p:Pos)(m:Nat×Nat)=>r.comes p m) p)
 |[],p,k,h=>by
  have:k=0:=by simpa using h
  subst this;rfl
 |x::l,p,0,_=>rfl
 |x::l,p,k+1,h=>by show(r.rowFrom (r.comes p x) l)[k]? =_;rw[Tg l _ k (by simpa using h)];rfl
theorem LS(h:k<=l.length):(r.row l)[k]? =B (r.after (l.take k)):=Tg l _ k h
inductive Row (r:Rules):sl (Nat×Nat)->Prop
 |nil:Row r []
 |snoc {l:sl (Nat×Nat)} {m:Nat×Nat}:Row r l->m∈r.moves (r.after l)->Row r (l++[m])
theorem Row.last(h:Row r l):∀{x:sl (Nat×Nat)}{m:Nat×Nat},l=x++[m]->Row r x/\m∈r.moves (r.after x):=by intro x m e;cases h with|nil=>exact absurd e (by simp)|snoc O a5=>obtain⟨aO,aT⟩:=List.append_inj' e rfl;cases aT;subst aO;exact⟨O,a5⟩
theorem Row.take(h:Row r l)(k:Nat):Row r (l.take k):=by
 induction h with
 |nil=>simp;exact .nil
 |snoc O a5 ih=>
  rename_i l m
  by_cases aA:k<=l.length
  .rw[y5 aA];exact ih
  rw[lQ (by simp;lia)];exact .snoc O a5
theorem Row.dropLast(h:Row r l):Row r l.dropLast:=by rw[List.dropLast_eq_take];exact h.take _
theorem Row.wf(s:dj r)(iy:eg r r.begins)(h:Row r l):eg r (r.after l):=by induction h with|nil=>exact iy|snoc O a5 ih=>rw[BX];exact(FY ih s (pz ih s a5)).1
theorem Th(l:sl (Nat×Nat))(m:Nat×Nat)(h:i<l.length):qC r (l++[m]) i=qC r l i:=by
 unfold qC;rw[y5 (by lia),y5 (by lia)];have e:(l++[m]).getD i (0,0)=l.getD i (0,0):=by simp[AA,l9 h]
 rw[e]
theorem Ti(l:sl (Nat×Nat))(m:Nat×Nat):qC r (l++[m]) l.length=m.1::m.2::r.overBy (l++[m])::r.takes (r.after l) m:=by
 unfold qC;have e:(l++[m]).getD l.length (0,0)=m:=by simp[AA]
 rw[e,lQ (by simp),y5 (cP _),jl]
theorem r_{q:Nat×Nat}:q∈r.cells↔q.1<r.wide/\q.2<r.high:=by
 unfold Rules.cells cellsOf;rw[AG];constructor
 .rintro⟨y,bl,h⟩;obtain⟨x,ah,rfl⟩:=fG.mp h;exact⟨fY.mp ah,fY.mp bl⟩
 rintro⟨O,a5⟩;exact⟨q.2,fY.mpr a5,fG.mpr ⟨q.1,fY.mpr O,Y⟩⟩
theorem qb{q:Nat×Nat}:q∈r.asWritten↔q.1<r.wide/\q.2<r.high:=by
 unfold akA;rw[AG];constructor
 .rintro⟨i,hi,h⟩;obtain⟨x,ah,rfl⟩:=fG.mp h;have:=fY.mp hi;exact⟨fY.mp ah,by dsimp only;omega⟩
 rintro⟨O,a5⟩;refine⟨r.high-1-q.2,fY.mpr (by omega),fG.mpr ⟨q.1,fY.mpr O,?_⟩⟩;have:r.high-1-(r.high-1-q.2)=q.2:=by omega
 rw[this]
def oo(r:Rules)(c:Nat):lh:=r.piece (c%13) (c/13)
theorem uZ(s:dj r){x y:Nat}(ah:x<r.wide):cellOf x y%13=x/\cellOf x y/13=y:=by have:=s.pw;unfold cellOf mC;omega
theorem Tj(s:dj r)(q:lh)(c:Nat):(pW ((r.cells.map λ(z:Nat×Nat)=>(r.piece z.1 z.2,cellOf z.1 z.2)).filterMap λ(x:lh×Nat)=>if x.1=q then B x.2 else aa)).testBit c=decide (Cell r c/\oo r c=q):=by
 rw[FR];apply EP.mpr;rw[v_];constructor
 .rintro⟨x,ah,h⟩;obtain⟨z,aR,rfl⟩:=fG.mp ah;obtain⟨hK,_⟩:=r_.mp aR;dsimp only at h;split at h
  .rename_i e
   cases h;obtain⟨aO,aT⟩:=uZ s (y:=z.2) hK;refine⟨kB.mpr (by omega),?_⟩;unfold oo;rw[aO,aT];exact e
  cases h
 rintro⟨O,a5⟩;obtain⟨eO,gm⟩:=kB.mp O;refine⟨(r.piece (c%13) (c/13),cellOf (c%13) (c/13)),fG.mpr ⟨(c%13,c/13),r_.mpr ⟨eO,gm⟩,Y⟩,?_⟩;have e:cellOf (c%13) (c/13)=c:=by unfold cellOf mC;omega
 dsimp only;rw[e];exact aZ a5
structure LU (r:Rules) (k:Nat):Prop where
 cell:Cell r k
 at_:oo r k=.king
 only:∀c,Cell r c->oo r c=.king->c=k
theorem a5H(s:dj r)(o:LU r k):r.begins.king=k:=by unfold Rules.begins;dsimp only;cases e:(r.cells.map λ(q:Nat×Nat)=>(r.piece q.1 q.2,cellOf q.1 q.2)).find? λ(x:lh×Nat)=>x.1== .king with|none=>exfalso;have h:=y2.mp e;obtain⟨eO,gm⟩:=kB.mp o.cell;have:=h (r.piece (k%13) (k/13),cellOf (k%13) (k/13)) (fG.mpr ⟨(k%13,k/13),r_.mpr ⟨eO,gm⟩,Y⟩);have a:=o.at_;unfold oo at a;simp[a]at this|some x=>have O:=PF e;have a5:=Eb e;obtain⟨z,aR,rfl⟩:=fG.mp a5;obtain⟨hK,_⟩:=r_.mp aR;obtain⟨aO,aT⟩:=uZ s (y:=z.2) hK;show cellOf z.1 z.2=k;refine o.only _ (kB.mpr (by omega)) ?_;unfold oo;rw[aO,aT];simpa using O
theorem G1(s:dj r)(o:LU r k)(hf:r.first<=1):eg r r.begins/\r.begins.side=r.first/\r.begins.king=k/\∀c,Cell r c->r.begins.on c=oo r c:=by
 have aA:=a5H s o;have a0:∀c,r.begins.hunters.testBit c=decide (Cell r c/\oo r c=.hunter):=λc=>Tj s .hunter c;have kr:∀c,r.begins.men.testBit c=decide (Cell r c/\oo r c=.man):=λc=>Tj s .man c;refine⟨⟨λc h=>?_,λc h=>?_,?_,λc h=>?_,?_,?_,hf⟩,Y,aA,λc a7=>?_⟩
 .rw[a0]at h;exact(e7 h).1
 .rw[kr]at h;exact(e7 h).1
 .rw[aA];exact .inr o.cell
 .rw[a0]at h;rw[kr];apply gW;rw[(e7 h).2];simp
 .rw[aA,a0];apply gW;rw[o.at_];simp
 .rw[aA,kr];apply gW;rw[o.at_];simp
 unfold yu;rw[aA,a0,kr];by_cases e:k=c
 .subst e;rw[aZ Y,o.at_]
 rw[aL e];cases z:oo r c with|none=>simp[a7]|hunter=>simp[a7]|man=>simp[a7]|king=>exact absurd (o.only c a7 z).symm e
variable{br hz:Type}
theorem dM{G2:Type}{m:Except G2 br}{f:br->Except G2 hz}{b:hz}(h:(m>>=f)=.ok b):∃a,m=.ok a/\f a=.ok b:=by cases m with|error e=>cases h|ok a=>exact⟨a,rfl,h⟩
theorem G3{c e8:eV}(f7:hi<100000)(h:uz lo hi c=.ok (d,e8)):lo<=d/\d<=hi:=by
 have key:∀(f d0:Nat)(c:eV),d0*10^f<1000000*10∨True->yz lo hi f d0 c=.ok (d,e8)->f≠0->(lo<=d/\d<=hi)∨(∃eO,yz lo hi 0 d eO=.ok (d,e8)/\10^(f-1)*(if d0=0 then 1 else d0*10)<=d/\d<=hi):=by
  intro f;induction f with
  |zero=>intro d0 c _ _ h;exact absurd Y h
  |succ f ih=>
   intro d0 c _ h _;cases hm:more lo hi d0 c with
   |none=>
    rw[Ta hm]at h;split at h
    .rename_i a0
     have e:(d0,c)=(d,e8):=qv h;cases e;exact .inl a0
    cases h
   |some e=>
    rw[T9 hm]at h;have aF:0<e/\e<=hi/\e≥10*d0:=by
     unfold more at hm;split at hm
     .split at hm
      .rename_i ah
       have:=T8 ah.2;cases hm
       lia
      cases hm
     cases hm
    cases f with
    |zero=>have aT:(e,kD c 1)=(d,e8):=qv h;cases aT;refine .inr ⟨kD c 1,Y,?_,aF.2.1⟩;simp;split<;>lia
    |succ f=>
     obtain z|⟨eO,hK,g8,G4⟩:=ih e (kD c 1) (.inr trivial) h (by lia)
     .exact .inl z
     refine .inr ⟨eO,hK,?_,G4⟩;have:¬e=0:=by lia
     rw[aL this]at g8;have p:10^(f+1+1-1)=10^(f+1-1)*10:=by simp[a0Y]
     rw[p];refine dE ?_ g8;rw[a0W];refine Nat.mul_le_mul_left _ ?_;split<;>lia
 obtain z|⟨eO,_,z,g8⟩:=key 6 0 c (.inr trivial) h dQ
 .exact z
 simp at z
 lia
theorem Tn:∀(f:Nat)(l:sl (Nat×aS))(c:eV){i n:Nat}{e8:eV},(∀w∈l,w.1<n)->Ju f l c=.ok (i,e8)->i<n
 |0,l,c,i,n,e8,_,h=>by cases h
 |f+1,l,c,i,n,e8,ar,h=>by
  unfold Ju at h;split at h
  .rename_i w hw
   have e:(w.1,c)=(i,e8):=qv h;cases e;exact ar w (Eb hw)
  split at h
  .cases h
  dsimp only at h;split at h
  .cases h
  refine Tn f _ _ (λw hw=>?_) h;obtain⟨u,bx,e⟩:=v_.mp hw;split at e
  .cases e;exact ar u bx
  cases e
theorem zd{l:sl String}{c e8:eV}(h:n7 l c=.ok (i,e8)):i<l.length:=by unfold n7 at h;refine Tn _ _ _ (λw hw=>?_) h;obtain⟨j,bY,rfl⟩:=fG.mp hw;exact fY.mp bY
theorem To{br:Type}{ep:UInt8->Iw br}:∀(n:Nat)(c:eV){l:sl br}{e8:eV},nS ep n c=.ok (l,e8)->l.length=n/\e8.at_=c.at_+n+1
 |0,c,l,e8,h=>by
  unfold nS at h;rw[F']at h;split at h
  .have e:(([]:sl br),kD c [lg].length)=(l,e8):=qv h;cases e;exact⟨Y,Y⟩
  cases h
 |n+1,c,l,e8,h=>by
  unfold nS at h;cases aA:c.next.bind ep with
  |none=>rw[aA]at h;cases h
  |some k=>
   rw[aA]at h;dsimp only at h;cases ak:nS ep n c.on with
   |error e=>rw[ak]at h;cases h
   |ok z=>
    rw[ak]at h;have e:(k::z.1,z.2)=(l,e8):=qv h;obtain⟨_,_⟩:=z;cases e;obtain⟨a,b⟩:=To n c.on ak;refine⟨by simp[a],?_⟩;rw[b];show c.at_+1+n+1=_
    lia
theorem BY{br:Type}{ep:UInt8->Iw br}{w:Nat}:∀(n:Nat)(c:eV){l:sl (sl br)}{aJ:sl Nat}{e8:eV},oU ep w n c=.ok (l,aJ,e8)->l.length=n/\aJ=(eI n).map (λi=>c.at_+i*(w+1))/\(∀x∈l,x.length=w)/\e8.at_=c.at_+n*(w+1)
 |0,c,l,aJ,e8,h=>by have e:(([]:sl (sl br)),([]:sl Nat),c)=(l,aJ,e8):=qv h;cases e;simp
 |n+1,c,l,aJ,e8,h=>by
  unfold oU at h;obtain⟨⟨cx,d⟩,O,h⟩:=dM h;obtain⟨⟨iX,a5I,aO⟩,a5,h⟩:=dM h;have e:(cx::iX,c.at_::a5I,aO)=(l,aJ,e8):=qv h;cases e;obtain⟨dr,dy⟩:=To _ _ O;obtain⟨b1,b2,m6,w_⟩:=BY n d a5;refine⟨by simp[b1],?_,λx ah=>?_,?_⟩
  .rw[a0P,ir,iL,b2];congr 1
   .simp
   refine ud λi _=>?_;show d.at_+i*(w+1)=c.at_+(i+1)*(w+1);rw[dy,IW]
   lia
  .obtain rfl|ah:=dz.mp ah
   .exact dr
   exact m6 x ah
  rw[w_,dy,IW]
  lia
structure hc (r:Rules):Prop where
 c0:dj r
 gl:r.ground.length=r.high
 Tp:∀x∈r.ground,x.length=r.wide
 aV:r.start.length=r.high
 LV:∀x∈r.start,x.length=r.wide
 ga:∃a,r.groundAt=(eI r.high).map λi=>a+i*(r.wide+1)
 o8:∃a,r.startAt=(eI r.high).map λi=>a+i*(r.wide+1)
 f2:r.first<2
 s4:r.seat<4
 iF:r.exits<4
 g2:r.goal<2
 t3:r.thrice<3
 iX:1<=r.limit
 al0:r.limit<=60000
variable{b:aS}
theorem LW(h:pV b=.ok r):hc r:=by
 unfold pV at h;obtain⟨_,_,h⟩:=dM h;obtain⟨⟨n,_⟩,_,h⟩:=dM h;obtain⟨_,_,h⟩:=dM h;obtain⟨⟨w,_⟩,hw,h⟩:=dM h;obtain⟨_,_,h⟩:=dM h;obtain⟨⟨_,_⟩,Tq,h⟩:=dM h;obtain⟨_,_,h⟩:=dM h;obtain⟨⟨g,_,_⟩,aI,h⟩:=dM h;obtain⟨_,_,h⟩:=dM h;obtain⟨⟨_,_,_⟩,ax,h⟩:=dM h;obtain⟨_,_,h⟩:=dM h;obtain⟨⟨f,_⟩,hf,h⟩:=dM h;obtain⟨_,_,h⟩:=dM h;obtain⟨⟨_,_⟩,_,h⟩:=dM h;obtain⟨_,_,h⟩:=dM h;obtain⟨⟨_,_⟩,_,h⟩:=dM h;obtain⟨_,_,h⟩:=dM h;obtain⟨⟨_,_⟩,_,h⟩:=dM h;obtain⟨_,_,h⟩:=dM h;obtain⟨⟨_,_⟩,_,h⟩:=dM h;obtain⟨_,_,h⟩:=dM h;obtain⟨⟨_,_⟩,mK,h⟩:=dM h;obtain⟨_,_,h⟩:=dM h;obtain⟨⟨x,_⟩,ah,h⟩:=dM h;obtain⟨_,_,h⟩:=dM h;obtain⟨⟨o,_⟩,aU,h⟩:=dM h;obtain⟨_,_,h⟩:=dM h;obtain⟨⟨t,_⟩,b9,h⟩:=dM h;obtain⟨_,_,h⟩:=dM h;obtain⟨⟨l,_⟩,ar,h⟩:=dM h;obtain⟨_,_,h⟩:=dM h;split at h
 .have e:=qv h;subst e;obtain⟨lV,oZ⟩:=G3 dQ hw;obtain⟨O,a5⟩:=G3 dQ Tq;obtain⟨iX,gD⟩:=G3 dQ ar;obtain⟨jC,g2,m8,_⟩:=BY _ _ aI;obtain⟨gQ,nz,t3,_⟩:=BY _ _ ax;exact⟨⟨lV,oZ,O,a5⟩,jC,m8,gQ,t3,⟨_,g2⟩,⟨_,nz⟩,zd hf,zd mK,zd ah,zd aU,zd b9,iX,gD⟩
 cases h
def kF(a b:Nat×Nat):Prop:=a.2<b.2∨(a.2=b.2/\a.1<=b.1)
variable{a:Nat×Nat}
theorem Tr{b:Nat×Nat}:EL a b=a9↔kF a b:=by unfold EL kF;simp
theorem a64(a:Nat×Nat):kF a a:=.inr ⟨Y,cP _⟩
theorem kF.trans{b c:Nat×Nat}(h:kF a b)(h':kF b c):kF a c:=by unfold kF at*;lia
theorem a65{b:Nat×Nat}(h:¬kF a b):kF b a:=by unfold kF at*;lia
theorem kF.antisymm{b:Nat×Nat}(h:kF a b)(h':kF b a):a=b:=by
 unfold kF at*;obtain⟨dr,dy⟩:=a;obtain⟨b1,b2⟩:=b;simp only at*;have:dr=b1/\dy=b2:=by lia
 rw[this.1,this.2]
def L_(m:Iw (Nat×Nat))(x:Nat×Nat):Iw (Nat×Nat):=match m with
 |some y=>if EL y x=a9 then B y else B x
 |none=>B x
theorem Ts:∀(l:sl (Nat×Nat))(m:Nat×Nat),∃f,l.foldl L_ (B m)=B f/\f∈m::l/\∀x∈m::l,kF f x
 |[],m=>⟨m,Y,by simp,λx ah=>by
  have:x=m:=by simpa using ah
  rw[this];exact a64 m⟩
 |y::l,m=>by
  have e:L_ (B m) y=B (if EL m y=a9 then m else y):=by unfold L_;dsimp only;cases EL m y<;>rfl
  rw[vX,e];obtain⟨f,O,a5,aG⟩:=Ts l (if EL m y=a9 then m else y);refine⟨f,O,?_,λx ah=>?_⟩
  .obtain h|h:=dz.mp a5
   .split at h
    .rw[h];simp
    rw[h];simp
   exact eH _ (eH _ h)
  have hf:=aG _ iM;obtain h|h:=dz.mp ah
  .subst h;split at hf
   .exact hf
   rename_i ax
   exact hf.trans (a65 λz=>ax (Tr.mpr z))
  obtain h|h:=dz.mp h
  .subst h;split at hf
   .rename_i ax
    exact hf.trans (Tr.mp ax)
   exact hf
  exact aG x (eH _ h)
theorem Tt(m:Nat×Nat)(l:sl (Nat×Nat)):∃f,firstOf (m::l)=B f/\f∈m::l/\∀x∈m::l,kF f x:=Ts l m
theorem a66{f:Nat×Nat}(h:f∈l)(h':∀x∈l,kF f x):firstOf l=B f:=by cases l with|nil=>cases h|cons m l=>obtain⟨g,e,jC,g2⟩:=Tt m l;rw[e,(h' g jC).antisymm (g2 f h)]
theorem a67(aI:pV b=.ok r){f:Nat×Nat}(h:f∈rF b.length r)(h':∀x∈rF b.length r,kF f x):mD b=.error f:=by unfold mD;rw[aI];dsimp only;rw[a66 h h']
theorem a68(aI:pV b=.ok r)(h:rF b.length r=[]):mD b=.ok r:=by unfold mD;rw[aI];dsimp only;rw[h];rfl
theorem a69{p:Nat}(aI:pV b=.error p):mD b=.error (1,p):=by unfold mD;rw[aI]
structure Right (r:Rules):Prop where
 g:hc r
 king:∃k,LU r k
theorem right_of(g:hc r)(h:rF n r=[]):Right r:=by
 refine⟨g,?_⟩;unfold rF at h;simp only[List.append_eq_nil_iff,List.map_eq_nil_iff]at h;obtain⟨_,_,cJ,_,iV⟩:=h;have aA:r.kings≠[]:=by intro e;rw[aZ (.inl e)]at iV;cases iV
 obtain⟨q,l,e⟩:=a0A aA;rw[e]at cJ;have:l=[]:=cJ;subst this;have aQ:q∈r.kings:=by rw[e];simp
 unfold Qo at aQ;obtain⟨a6a,a6b⟩:=jk.mp aQ;obtain⟨bw,_⟩:=qb.mp a6a;obtain⟨aO,aT⟩:=uZ g.c0 (y:=q.2) bw;refine⟨cellOf q.1 q.2,kB.mpr (by lia),?_,λc a7 hf=>?_⟩
 .unfold oo;rw[aO,aT];simpa using a6b
 obtain⟨eO,gm⟩:=kB.mp a7;have m:(c%13,c/13)∈r.kings:=by unfold Qo;exact jk.mpr ⟨qb.mpr ⟨eO,gm⟩,by unfold oo at hf;simp[hf]⟩
 rw[e]at m;have m:(c%13,c/13)=q:=by simpa using m
 rw[<-m];unfold cellOf mC;dsimp only
 lia
theorem judge_ok(h:mD b=.ok r):Right r:=by
 unfold mD at h;cases aI:pV b with
 |error p=>rw[aI]at h;cases h
 |ok z=>rw[aI]at h;dsimp only at h;cases hw:rF b.length z with|nil=>rw[hw]at h;have e:z=r:=qv h;subst e;exact right_of (LW aI) hw|cons m l=>obtain⟨f,e,_⟩:=Tt m l;rw[hw,e]at h;cases h
def zs(b:aS):sl Int:=b.map λc=>((c.toNat:Nat):Int)
theorem L'(b:aS):(zs b).length=b.length:=by simp[zs]
theorem BZ{t:sl Int}(h:(t.all λ(z:Int)=>decide (0<=z)&&decide (z<=255))=a9):∃b,t=zs b/\text? t=B b:=by
 refine⟨t.map λ(n:Int)=>n8 n.toNat,?_,?_⟩
 .unfold zs;rw[iL];conv=>lhs;rw[<-a0K t]
  refine ud λz aR=>?_;have aR:=y0.mp h z aR;rw[j3]at aR;have b8:=e7 aR.1;have O:=e7 aR.2;show z=(((n8 z.toNat).toNat:Nat):Int);rw[UInt8.toNat_ofNat_of_lt' (by show z.toNat<256;lia)]
  lia
 unfold text? NeutralIO.bytes;rw[aZ h]
inductive Means:sl (sl Int)->EM->Prop
 |begin_ (t:aS):Means [[0],zs t] (.begin_ t)
 |move (x y:Nat):Means [[1,x,y]] (.move x y)
 |say (t:aS):Means [[2],zs t] (.say t)
 |end_ (h:Nat):Means [[3,h]] (.end_ h)
 |back:Means [[4]] .back
 |now:Means [[5]] .now
 |at_ (k:Nat):Means [[6,k]] (.at_ k)
 |made (k:Nat):Means [[7,k]] (.made k)
 |text (h g:aS):Means [[8],zs h,zs g] (.text h g)
 |read (t:aS):Means [[9],zs t] (.read t)
theorem B_{z:Int}(h:(decide (0<=z))=a9):∃n:Nat,z=n/\A' z=B n:=by have h:=e7 h;refine⟨z.toNat,by lia,?_⟩;unfold A';rw[aZ h]
theorem a6c{c:sl (sl Int)}(h:akJ c=a9):∃x,Means c x/\amU c=B x:=by
 rcases c with _|⟨_|⟨z,_|⟨x,_|⟨y,_|_⟩⟩⟩,_|⟨r,_|⟨g7,_|_⟩⟩⟩<;>try exact oM (show aK=a9 from h)
 all_goals rcases z with(_|_|_|_|_|_|_|_|_|_|n)|n<;>try exact oM (show aK=a9 from h)
 .exact⟨_,.back,Y⟩
 .exact⟨_,.now,Y⟩
 .obtain⟨b,rfl,e⟩:=BZ h;exact⟨_,.begin_ b,by show(text? (zs b)).map _=_;rw[e];rfl⟩
 .obtain⟨b,rfl,e⟩:=BZ h;exact⟨_,.say b,by show(text? (zs b)).map _=_;rw[e];rfl⟩
 .obtain⟨b,rfl,e⟩:=BZ h;exact⟨_,.read b,by show(text? (zs b)).map _=_;rw[e];rfl⟩
 .have h:=Py.mp h;obtain⟨b,rfl,aO⟩:=BZ h.1;obtain⟨g,rfl,aT⟩:=BZ h.2;exact⟨_,.text b g,by show((text? (zs b)).bind λx=>(text? (zs g)).bind λy=>pure (amS x y))=_;rw[aO,aT];rfl⟩
 .obtain⟨n,rfl,aO⟩:=B_ h;exact⟨_,.end_ n,by show(A' n).map _=_;rw[aO];rfl⟩
 .obtain⟨n,rfl,aO⟩:=B_ h;exact⟨_,.at_ n,by show(A' n).map _=_;rw[aO];rfl⟩
 .obtain⟨n,rfl,aO⟩:=B_ h;exact⟨_,.made n,by show(A' n).map _=_;rw[aO];rfl⟩
 have h:=Py.mp h;obtain⟨n,rfl,aO⟩:=B_ h.1;obtain⟨m,rfl,aT⟩:=B_ h.2;exact⟨_,.move n m,by show((A' n).bind λx=>(A' m).bind λy=>pure (amR x y))=_;rw[aO,aT];rfl⟩
theorem a6d(c:sl (sl Int)):a1Y c=c:=by
 rcases c with _|⟨_|⟨z,_|⟨x,_|⟨y,_|_⟩⟩⟩,_|⟨r,_|⟨g7,_|_⟩⟩⟩<;>try rfl
 all_goals rcases z with(_|_|_|_|_|_|_|_|_|_|n)|n<;>rfl
noncomputable def tell(s:jn):sl EM->sl Int
 |[]=>[]
 |x::l=>let r:=ft s x
  ((r.2.nums.length:Int)::r.2.nums)++tell r.1 l
structure a6e (l:sl Int) (c4:sl (sl (sl Int))) (xs:sl EM):Prop where
 put:l=i7 c4
 len:c4.length=xs.length
 means:∀(i:Nat) c x,c4[i]? =B c->xs[i]? =B x->Means c x
 most:c4.length<=60
 bytes:c4.foldl (λ(n:Nat)(c:sl (sl Int))=>n+akK c) 0<=1500
 Tu:Qj l=tell wg xs
theorem Tv:∀(c4:sl (sl (sl Int)))(s:jn),(∀c∈c4,akJ c=a9)->∃xs,c4.length=xs.length/\(∀(i:Nat) c x,c4[i]? =B c->xs[i]? =B x->Means c x)/\a13 (ajc EN s c4)=tell s xs
 |[],s,_=>⟨[],Y,λi c x h=>by simp at h,Y⟩
 |c::c4,s,h=>by
  obtain⟨x,ah,a7⟩:=a6c (h c iM);have e:EN s c=((ft s x).1,(ft s x).2.nums):=by unfold EN;rw[a7]
  obtain⟨xs,l,m,t⟩:=Tv c4 (ft s x).1 λc a7=>h c (eH _ a7);refine⟨x::xs,by simp[l],λi e8 eT O a5=>?_,?_⟩
  .cases i with|zero=>simp at O a5;subst O;subst a5;exact ah|succ i=>exact m i e8 eT (by simpa using O) (by simpa using a5)
  show a13 ((EN s c).2::ajc EN (EN s c).1 c4)=_;rw[e];show(((ft s x).2.nums.length:Int)::(ft s x).2.nums)++a13 _=_;rw[t];rfl
theorem a6f{l:sl Int}(h:Jl l=a9):∃c4 xs,a6e l c4 xs:=by
 unfold Jl at h;cases a7:a1X l with
 |none=>rw[a7]at h;cases h
 |some c4=>
  rw[a7]at h;dsimp only at h;rw[j3,j3]at h;have bf:=h.1.2;unfold amT at bf;rw[j3,j3,j3]at bf;obtain⟨_,Tw,a0,m5⟩:=bf;have m5:=y0.mp m5;obtain⟨xs,O,a5,aG⟩:=Tv c4 wg m5;refine⟨c4,xs,?_,O,a5,e7 Tw,e7 a0,?_⟩
  .unfold a1X at a7;cases aR:PyFlat.calls PyWqacdb.shape l.length l with
   |none=>rw[aR]at a7;cases a7
   |some z=>
    rw[aR]at a7;have e:z.map a1Y=c4:=h4 a7;have aT:z.map a1Y=z:=by
     conv=>rhs;rw[<-a0K z]
     exact ud λc _=>a6d c
    rw[aT]at e;subst e;exact(PyFlat.put_calls _ _ _ aR).1
  unfold Qj;rw[a7];exact aG
theorem Tx:∀(i:Nat)(b w:aS),i<=b.length->i<=w.length->b.take i=w.take i->cj b w=i+cj (b.drop i) (w.drop i)
 |0,b,w,_,_,_=>by simp
 |i+1,[],w,h,_,_=>by simp at h
 |i+1,_::_,[],_,h,_=>by simp at h
 |i+1,x::b,y::w,O,a5,e=>by
  simp only[a0Q,a0z]at e;obtain⟨rfl,e⟩:=e;rw[iY,aZ Y,Tx i b w (by simpa using O) (by simpa using a5) e];simp only[PE]
  lia
theorem G5{w:aS}(h:i<=b.length)(h':i<=w.length)(e:b.take i=w.take i)(ax:∀x y,b[i]? =B x->w[i]? =B y->x≠y):cj b w=i:=by
 rw[Tx i b w h h' e];suffices cj (b.drop i) (w.drop i)=0 by lia
 cases a0:b.drop i with
 |nil=>rw[qU]
 |cons x r=>
  cases hw:w.drop i with
  |nil=>rfl
  |cons y t=>
   rw[iY,aL];refine ax x y ?_ ?_
   .have:(b.drop i)[0]? =B x:=by rw[a0];rfl
    simpa using this
   have:(w.drop i)[0]? =B y:=by rw[hw];rfl
   simpa using this
theorem Tz{w:aS}{x:UInt8}(e:b.take i=w.take i)(O:b[i]? =B x)(a5:w[i]? =B x):b.take (i+1)=w.take (i+1):=by rw[ue,ue,e,O,a5]
def hO(b:aS)(n:Nat):eV:=⟨b.drop n,n⟩
theorem TA(b:aS)(n:Nat):(hO b n).next=b[n]?:=by unfold hO a1Z;simp
theorem a6g(b:aS)(n:Nat):(hO b n).on=hO b (n+1):=by unfold hO Cur.on;simp only[E6]
variable{fK:sl Nat}
section
variable{ep:UInt8->Iw br}
def zh(ep:UInt8->Iw br)(b:aS)(m x:Nat)(l:sl br):Prop:=l.length=x/\∀y,nS ep (x+y) (hO b m)=(nS ep y (hO b (m+x))).map λr=>(l++r.1,r.2)
theorem a6h{G2:Type}(z:Except G2 (sl br×hz)):z.map (λr=>(([]:sl br)++r.1,r.2))=z:=by cases z with|error e=>rfl|ok r=>obtain⟨_,_⟩:=r;rfl
theorem a6i(m:Nat):zh ep b m 0 []:=⟨Y,λy=>by rw[a10,Ee];exact(a6h _).symm⟩
theorem a6j{m x:Nat}{l:sl br}(R:zh ep b m x l){c:UInt8}{k:br}(a7:b[m+x]? =B c)(aA:ep c=B k):zh ep b m (x+1) (l++[k]):=by
 refine⟨by rw[dh,R.1];rfl,λy=>?_⟩;rw[show x+1+y=x+(y+1) by lia,R.2 (y+1)];conv=>lhs;unfold nS
 rw[TA,a7];show aiA _ (match ep c with|some k=>_|none=>_)=_;rw[aA];dsimp only;rw[a6g,show m+x+1=m+(x+1) by lia];cases nS ep y (hO b (m+(x+1)))with|error e=>rfl|ok r=>show x' _=x' _;simp
theorem a6k{m x:Nat}{l:sl br}(R:zh ep b m x l)(h:b[m+x]?.bind ep=aa)(y:Nat):nS ep (x+(y+1)) (hO b m)=.error (m+x):=by
 rw[R.2 (y+1)];conv=>lhs;unfold nS
 rw[TA,h];rfl
theorem TB{m x:Nat}{l:sl br}(R:zh ep b m x l):nS ep x (hO b m)=(eD [lg] (hO b (m+x))).map λd=>(l,d):=by have:=R.2 0;rw[Ee]at this;rw[this];unfold nS;cases eD [lg] (hO b (m+x))with|error e=>rfl|ok d=>show x' _=x' _;simp
def zi(ep:UInt8->Iw br)(wide:Nat)(b:aS)(n i:Nat)(cH:sl (sl br))(fK:sl Nat)(m:Nat):Prop:=
 cH.length=i/\fK.length=i/\(∀r∈cH,r.length=wide)/\∀j,oU ep wide (i+j) (hO b n)=(oU ep wide j (hO b m)).map λr=>(cH++r.1,fK++r.2.1,r.2.2)
theorem a6l(wide n:Nat):zi ep wide b n 0 [] [] n:=⟨Y,Y,(λr (h:r∈([]:sl (sl br)))=>nomatch h),λj=>by rw[a10];cases oU ep wide j (hO b n)with|error e=>rfl|ok r=>rfl⟩
theorem a6m{wide m m':Nat}{cH:sl (sl br)}(R:zi ep wide b n i cH fK m){r:sl br}(ak:nS ep wide (hO b m)=.ok (r,hO b m'))(ar:r.length=wide):zi ep wide b n (i+1) (cH++[r]) (fK++[m]) m':=by
 obtain⟨O,a5,aG,cJ⟩:=R;refine⟨by rw[dh,O];rfl,by rw[dh,a5];rfl,λq aQ=>?_,λj=>?_⟩
 .obtain h|h:=kN.mp aQ
  .exact aG q h
  rw[jY.mp h];exact ar
 rw[show i+1+j=i+(j+1) by lia,cJ (j+1)];conv=>lhs;unfold oU
 rw[ak];show aiA _ (aiy (oU ep wide j (hO b m')) _)=_;cases oU ep wide j (hO b m')with|error e=>rfl|ok z=>show x' _=x' _;simp[hO]
theorem TC{wide m:Nat}{cH:sl (sl br)}(R:zi ep wide b n i cH fK m)(ak:nS ep wide (hO b m)=.error k)(j:Nat):oU ep wide (i+(j+1)) (hO b n)=.error k:=by
 rw[R.2.2.2 (j+1)];conv=>lhs;unfold oU
 rw[ak];rfl
theorem a6n{wide m:Nat}{cH:sl (sl br)}(R:zi ep wide b n i cH fK m):oU ep wide i (hO b n)=.ok (cH,fK,hO b m):=by have:=R.2.2.2 0;rw[Ee]at this;rw[this];show x' _=x' _;simp
end
theorem M0(l m:sl br)(d:br)(h:i<l.length):(l++m).getD i d=l.getD i d:=by rw[ua,ua,l9 h]
abbrev hg:=Nat×Nat×Nat
theorem B'{br hz:Type}{f g:br->Iw hz}:∀{l:sl br},(∀x∈l,f x=g x)->l.filterMap f=l.filterMap g
 |[],_=>rfl
 |x::l,h=>by rw[vW,vW,h x (by simp),B' λy bl=>h y (eH _ bl)]
theorem M1{br hz:Type}{f g:br->sl hz}:∀{l:sl br},(∀x∈l,f x=g x)->l.flatMap f=l.flatMap g
 |[],_=>rfl
 |x::l,h=>by rw[mZ,mZ,h x (by simp),M1 λy bl=>h y (eH _ bl)]
section
variable{br:Type}(d6:br->Nat)(d:br)
noncomputable def G6(high i p:Nat)(row:sl br)(x:Nat):Iw hg:=if d6 (row.getD x d)=46 then aa else B (13*(high-1-i)+x,d6 (row.getD x d),p+x)
def qW(high i p:Nat)(row:sl br):sl hg:=(eI row.length).filterMap (G6 d6 d high i p row)
theorem a6o(high i p:Nat)(row:sl br)(k:br):qW d6 d high i p (row++[k])=qW d6 d high i p row++(if d6 k=46 then[]else[(13*(high-1-i)+row.length,d6 k,p+row.length)]):=by
 unfold qW;rw[dh,gy,y4,aiI];congr 1
 .refine B' λx ah=>?_;have ah:=fY.mp ah;unfold G6;rw[M0 _ _ _ ah]
 have e:(row++[k]).getD row.length d=k:=by simp
 unfold G6;rw[vW,aiJ,e];by_cases z:d6 k=46
 .rw[aZ z,aZ z]
 rw[aL z,aL z]
def k_(high:Nat)(cH:sl (sl br))(fK:sl Nat):sl hg:=(eI cH.length).flatMap λi=>qW d6 d high i (fK.getD i 0) (cH.getD i [])
theorem a6p(high:Nat)(cH:sl (sl br))(fK:sl Nat)(r:sl br)(p:Nat)(h:fK.length=cH.length):k_ d6 d high (cH++[r]) (fK++[p])=k_ d6 d high cH fK++qW d6 d high cH.length p r:=by
 unfold k_;rw[dh,gy,y4,Az];congr 1
 .refine M1 λi hi=>?_;have hi:=fY.mp hi;rw[M0 _ _ _ hi,M0 _ _ _ (by lia)]
 have aO:(cH++[r]).getD cH.length []=r:=by simp
 have aT:(fK++[p]).getD cH.length 0=p:=by rw[<-h];simp
 rw[mZ,PG,hU,aO,aT]
theorem M3{cH:sl (sl br)}{wide high:Nat}(ar:cH.length=high)(hw:∀r∈cH,r.length=wide):k_ d6 d high cH fK=((eI high).flatMap λ(i:Nat)=>(eI wide).map λ(x:Nat)=>(x,high-1-i)).filterMap λ(q:Nat×Nat)=>if d6 (at_ d cH high q.1 q.2)=46 then aa else B (cellOf q.1 q.2,d6 (at_ d cH high q.1 q.2),fK.getD (high-1-q.2) 0+q.1):=by
 unfold k_;rw[List.filterMap_flatMap,ar];refine M1 λi hi=>?_;have hi:=fY.mp hi;have ak:(cH.getD i []).length=wide:=by rw[ua,ff (by lia)];exact hw _ (aiP ..)
 unfold qW;rw[ak,List.filterMap_map];refine B' λx _=>?_;unfold G6 at_ cellOf mC;show _=if _ then _ else _
 dsimp only;rw[show high-1-(high-1-i)=i by lia]
end
def laid(cv:sl hg):sl Nat:=cv.foldl (λl m=>l.set m.1 m.2.1) (hV 169 46)
theorem M4:∀(cv:sl hg)(l:sl Nat){c:Nat},c<l.length->(∀m∈cv,m.1≠c)->(cv.foldl (λl m=>l.set m.1 m.2.1) l)[c]? =l[c]?
 |[],_,_,_,_=>rfl
 |m::cv,l,c,h,aH=>by rw[vX,M4 cv _ (by rw[qy];exact h) λx ah=>aH x (eH _ ah),AE (aH m (by simp))]
theorem TF:∀(cv:sl hg)(l:sl Nat){c s p:Nat},c<l.length->(c,s,p)∈cv->cv.Pairwise (λa b=>a.1≠b.1)->(cv.foldl (λl m=>l.set m.1 m.2.1) l)[c]? =B s
 |[],_,_,_,_,_,hm,_=>nomatch hm
 |m::cv,l,c,s,p,h,hm,aq=>by
  rw[vX];rw[Ed]at aq;obtain rfl|hm:=dz.mp hm
  .rw[M4 cv _ (by rw[qy];exact h) λx ah=>ej (aq.1 x ah)];simp[h]
  exact TF cv _ (by rw[qy];exact h) hm aq.2
def oq(r:Rules):sl hg:=k_ eo EG r.high r.ground r.groundAt
def aE(r:Rules):sl hg:=k_ pc EH r.high r.start r.startAt
def G7(r:Rules)(q:Nat×Nat):hg:=(cellOf q.1 q.2,eo (r.kind q.1 q.2),r.groundPlace q)
def qX(r:Rules)(q:Nat×Nat):hg:=(cellOf q.1 q.2,pc (r.piece q.1 q.2),r.startPlace q)
theorem G8{br hz:Type}(f:br->hz)(c:br->Bool):∀l:sl br,(l.filterMap λq=>if c q=a9 then aa else B (f q))=(l.filter λq=>!c q).map f
 |[]=>rfl
 |q::l=>by
  rw[vW,qw];cases h:c q
  .simp[G8 f c l]
  simp[G8 f c l]
theorem TG(g:hc r):oq r=(r.asWritten.filter λq=>!decide (eo (r.kind q.1 q.2)=46)).map (G7 r):=by
 unfold oq;rw[M3 eo EG g.gl g.Tp,<-G8 (G7 r)];refine B' λq _=>?_;unfold G7 Rules.kind Rules.groundPlace;by_cases h:eo (at_ EG r.ground r.high q.1 q.2)=46
 .simp[h]
 simp[h]
theorem M5(g:hc r):aE r=(r.asWritten.filter λq=>!decide (pc (r.piece q.1 q.2)=46)).map (qX r):=by
 unfold aE;rw[M3 pc EH g.aV g.LV,<-G8 (qX r)];refine B' λq _=>?_;unfold qX Rules.piece Rules.startPlace;by_cases h:pc (at_ EH r.start r.high q.1 q.2)=46
 .simp[h]
 simp[h]
theorem a6q(s:dj r):r.asWritten.Pairwise λa b=>cellOf a.1 a.2≠cellOf b.1 b.2:=by
 unfold akA;rw[List.pairwise_flatMap];have hw:=s.pw;refine⟨λi _=>?_,?_⟩
 .rw[a0O];refine alW (fun{a b} h=>?_) a0N;unfold cellOf mC;dsimp only
  lia
 refine aiE (fun{a b} bf a0 h=>?_) a0N;intro x ah y bl;obtain⟨_,k9,rfl⟩:=fG.mp ah;obtain⟨_,KH,rfl⟩:=fG.mp bl;have:=fY.mp bf;have:=fY.mp a0;have:=fY.mp k9;have:=fY.mp KH;unfold cellOf mC;dsimp only
 lia
theorem dP{f:Nat×Nat->Nat}{pl:Nat×Nat->Nat}(s:dj r):laid ((r.asWritten.filter λq=>!decide (f q=46)).map λq=>(cellOf q.1 q.2,f q,pl q))=(eI 169).map λc=>if r.isCell c=a9 then f (c%13,c/13)else 46:=by
 refine IK λc=>?_;have eY:∀(cv:sl hg)(l:sl Nat),(cv.foldl (λl m=>l.set m.1 m.2.1) l).length=l.length:=by intro cv;induction cv with|nil=>intro l;rfl|cons m cv ih=>intro l;rw[vX,ih,qy]
 by_cases a7:c<169
 .have e:((eI 169).map λc=>if r.isCell c=a9 then f (c%13,c/13)else 46)[c]? =B (if r.isCell c=a9 then f (c%13,c/13)else 46):=by simp[a7]
  rw[e];unfold laid;by_cases aA:r.isCell c=a9/\f (c%13,c/13)≠46
  .obtain⟨aA,hf⟩:=aA;rw[aZ aA];refine TF _ _ (p:=pl (c%13,c/13)) (by rw[Ea];exact a7) ?_ ?_
   .refine fG.mpr ⟨(c%13,c/13),jk.mpr ⟨qb.mpr (kB.mp aA),by simp[hf]⟩,?_⟩;have:cellOf (c%13) (c/13)=c:=by unfold cellOf mC;lia
    dsimp only;rw[this]
   rw[a0O];exact(a6q s).filter _
  rw[M4 _ _ (by rw[Ea];exact a7)]
  .rw[aiN,aZ a7];by_cases h:r.isCell c=a9
   .rw[aZ h];have:f (c%13,c/13)=46:=a0w λz=>aA ⟨h,z⟩;rw[this]
   rw[aL h]
  intro m hm e;obtain⟨q,aQ,rfl⟩:=fG.mp hm;obtain⟨O,a5⟩:=jk.mp aQ;obtain⟨bw,_⟩:=qb.mp O;obtain⟨aO,aT⟩:=uZ s (y:=q.2) bw;dsimp only at e;rw[e]at aO aT;refine aA ⟨kB.mpr (by lia),?_⟩;rw[aO,aT];simpa using a5
 rw[qx (by unfold laid;rw[eY,Ea];lia),qx (by simp;lia)]
theorem a6r(g:hc r):laid (oq r)=fa r:=by
 rw[TG g];refine(dP (f:=λq=>eo (r.kind q.1 q.2)) (pl:=r.groundPlace) g.c0).trans ?_;unfold fa;refine ud λc _=>?_;by_cases h:r.isCell c=a9
 .rw[aZ h,aZ h];unfold Qn;rw[aZ h];rfl
 rw[aL h,aL h]
def gT(r:Rules):sl Nat:=(eI 169).map λc=>if r.isCell c=a9 then pc (oo r c)else 46
theorem a6s(g:hc r):laid (aE r)=gT r:=by rw[M5 g];exact dP (f:=λq=>pc (r.piece q.1 q.2)) (pl:=r.startPlace) g.c0
theorem a6t(h:Right r):gT r=bd r.begins:=by
 obtain⟨k,o⟩:=h.king;obtain⟨w,_,_,a0⟩:=G1 h.g.c0 o (by have:=h.g.f2;lia);unfold gT bd;refine ud λc a7=>?_;have a7:=fY.mp a7;by_cases hi:r.isCell c=a9
 .rw[aZ hi,a0 c hi]
 rw[aL hi];have:r.begins.on c=.none:=a0w λz=>hi (LB w h.g.c0 z (by lia));rw[this];rfl
def signed(s:Nat)(l:sl hg):sl hg:=l.filter λm=>m.2.1==s
theorem M6{br:Type}(a b:br->Bool):∀l:sl br,(∀q∈l,b q=a9->a q=a9)->(l.filter a).filter b=l.filter b
 |[],_=>rfl
 |q::l,h=>by
  have ih:=M6 a b l λx ah=>h x (eH _ ah);have aQ:=h q (by simp);cases bf:a q
  .cases a0:b q
   .simp[qw,bf,a0,ih]
   rw[aQ a0]at bf;cases bf
  simp[qw,bf,ih]
theorem a6u(g:hc r):signed 83 (oq r)=r.seats.map (G7 r):=by
 unfold signed akG;rw[TG g,IM,M6]
 .congr 1;refine IL λq _=>?_;show((eo (r.kind q.1 q.2))==83)=_;cases r.kind q.1 q.2<;>rfl
 intro q _ h;have h:(eo (r.kind q.1 q.2)==83)=a9:=h;have h:eo (r.kind q.1 q.2)=83:=by simpa using h
 simp[h]
theorem TH(g:hc r):signed 75 (aE r)=r.kings.map (qX r):=by
 unfold signed Qo;rw[M5 g,IM,M6]
 .congr 1;refine IL λq _=>?_;show((pc (r.piece q.1 q.2))==75)=_;cases r.piece q.1 q.2<;>rfl
 intro q _ h;have h:(pc (r.piece q.1 q.2)==75)=a9:=h;have h:pc (r.piece q.1 q.2)=75:=by simpa using h
 simp[h]
def zj(M7 a6v:Nat):Bool:=if a6v=75 then M7==35||M7==88 else M7 !=46
def qY(r:Rules)(m:hg):Bool:=zj ((fa r).getD m.1 0) m.2.1
theorem a6w(s:dj r){q:Nat×Nat}(h:q∈r.asWritten):(fa r).getD (cellOf q.1 q.2) 0=eo (r.kind q.1 q.2):=by obtain⟨bw,_⟩:=qb.mp h;obtain⟨aO,aT⟩:=uZ s (y:=q.2) bw;have a7:Cell r (cellOf q.1 q.2):=kB.mpr (by lia);rw[ua,Tb r s a7];unfold Qn mC;rw[aZ a7,aO,aT];rfl
theorem a6x(g:hc r):(aE r).filter (qY r)=(r.asWritten.filter r.misplaced).map (qX r):=by
 have hm:∀q∈r.asWritten,(pc (r.piece q.1 q.2)≠46->qY r (qX r q)=r.misplaced q)/\(pc (r.piece q.1 q.2)=46->r.misplaced q=aK):=by
  intro q aQ;have e:qY r (qX r q)=zj (eo (r.kind q.1 q.2)) (pc (r.piece q.1 q.2)):=by unfold qY qX;dsimp only;rw[a6w g.c0 aQ]
  rw[e];unfold Rules.misplaced;cases r.piece q.1 q.2<;>cases r.kind q.1 q.2<;>simp[zj,pc,eo]
 rw[M5 g,IM];congr 1;rw[List.filter_filter];refine IL λq aQ=>?_;obtain⟨O,a5⟩:=hm q aQ;by_cases z:pc (r.piece q.1 q.2)=46
 .rw[a5 z];simp[z]
 show(qY r (qX r q)&&_)=_;rw[O z];simp[z]
theorem TJ(s:dj r){k:Kind}(aA:k≠ .plain):eo k∈fa r↔∃q:Nat×Nat,q.1<r.wide/\q.2<r.high/\r.kind q.1 q.2=k:=by
 unfold fa;rw[fG];constructor
 .rintro⟨c,a7,e⟩;by_cases h:r.isCell c=a9
  .rw[aZ h]at e;have e:=a5C e;unfold Qn at e;rw[aZ h]at e;exact⟨(c%13,c/13),(kB.mp h).1,(kB.mp h).2,e⟩
  rw[aL h]at e;cases k<;>first|exact absurd Y aA|exact absurd e dQ
 rintro⟨q,bw,cy,e⟩;obtain⟨aO,aT⟩:=uZ s (y:=q.2) bw;have a7:Cell r (cellOf q.1 q.2):=kB.mpr (by lia);refine⟨cellOf q.1 q.2,fY.mpr (s.lt a7),?_⟩;rw[aZ a7];unfold Qn mC;rw[aZ a7,aO,aT,e]
theorem TK(s:dj r){k:lh}(aA:k≠ .none):pc k∈gT r↔∃q:Nat×Nat,q.1<r.wide/\q.2<r.high/\r.piece q.1 q.2=k:=by
 unfold gT oo;rw[fG];constructor
 .rintro⟨c,a7,e⟩;by_cases h:r.isCell c=a9
  .rw[aZ h]at e;exact⟨(c%13,c/13),(kB.mp h).1,(kB.mp h).2,LP e⟩
  rw[aL h]at e;cases k<;>first|exact absurd Y aA|exact absurd e dQ
 rintro⟨q,bw,cy,e⟩;obtain⟨aO,aT⟩:=uZ s (y:=q.2) bw;have a7:Cell r (cellOf q.1 q.2):=kB.mpr (by lia);refine⟨cellOf q.1 q.2,fY.mpr (s.lt a7),?_⟩;rw[aZ a7,aO,aT,e]
theorem a6y(s:dj r):(r.cells.any λ(p:Nat×Nat)=>r.kind p.1 p.2== .exit)=decide (88∈fa r):=by
 rw[hT,Ax,mE,show(88:Nat)=eo .exit from Y,TJ s dQ];constructor
 .rintro⟨q,aQ,e⟩;exact⟨q,(r_.mp aQ).1,(r_.mp aQ).2,by simpa using e⟩
 rintro⟨q,O,a5,e⟩;exact⟨q,r_.mpr ⟨O,a5⟩,by simpa using e⟩
theorem a6z(s:dj r):(r.cells.any λ(p:Nat×Nat)=>r.piece p.1 p.2== .hunter)=decide (104∈gT r):=by
 rw[hT,Ax,mE,show(104:Nat)=pc .hunter from Y,TK s dQ];constructor
 .rintro⟨q,aQ,e⟩;exact⟨q,(r_.mp aQ).1,(r_.mp aQ).2,by simpa using e⟩
 rintro⟨q,O,a5,e⟩;exact⟨q,r_.mpr ⟨O,a5⟩,by simpa using e⟩
theorem a6A(s:dj r):r.seats=[]↔83∉fa r:=by
 rw[show(83:Nat)=eo .seat from Y,TJ s dQ];unfold akG;rw[a0B];constructor
 .rintro h ⟨q,O,a5,e⟩;exact h q (qb.mpr ⟨O,a5⟩) (by simpa using e)
 intro h q aQ e;exact h ⟨q,(qb.mp aQ).1,(qb.mp aQ).2,by simpa using e⟩
theorem a6B(s:dj r):r.kings=[]↔75∉gT r:=by
 rw[show(75:Nat)=pc .king from Y,TK s dQ];unfold Qo;rw[a0B];constructor
 .rintro h ⟨q,O,a5,e⟩;exact h q (qb.mpr ⟨O,a5⟩) (by simpa using e)
 intro h q aQ e;exact h ⟨q,(qb.mp aQ).1,(qb.mp aQ).2,by simpa using e⟩
def C0(r:Rules):sl (Nat×Nat):=((signed 83 (oq r)).drop 1).map (λm=>(m.2.2,2))++((aE r).filter (qY r)).map (λm=>(m.2.2,3))++((signed 75 (aE r)).drop 1).map (λm=>(m.2.2,4))
def s6(r:Rules)(c:Nat):Bool:=r.onEdge (c%13,c/13)
def tu(r:Rules):sl (Nat×Nat):=if r.goal=1/\88∉fa r then[(r.goalAt,5)]else if r.goal=0/\∃m,(signed 75 (aE r))[0]? =B m/\s6 r m.1=a9 then[(r.goalAt,5)]else[]
def w'(len:Nat)(r:Rules):sl (Nat×Nat):=if 75∉gT r∨104∉gT r∨((r.passed=aK∨r.seat>0)/\83∉fa r)then[(len,6)]else[]
theorem a6C(g:hc r):(∃m,(signed 75 (aE r))[0]? =B m/\s6 r m.1=a9)↔(r.kings.take 1).any r.onEdge=a9:=by
 rw[TH g];cases e:r.kings with
 |nil=>simp
 |cons q l=>
  have aQ:q∈r.kings:=by rw[e];simp
  have aQ:=qb.mp (jk.mp aQ).1;obtain⟨aO,aT⟩:=uZ g.c0 (y:=q.2) aQ.1;have:s6 r (qX r q).1=r.onEdge q:=by unfold s6 qX;dsimp only;rw[aO,aT]
  simp[this]
theorem a6D(g:hc r)(len:Nat):C0 r++tu r++w' len r=(rF len r).map λf=>(f.2,f.1):=by
 unfold rF C0;simp only[fO,iL,lP];rw[a6x g,a6u g,TH g,<-IT,<-IT,iL,iL,iL];congr 1;congr 1;congr 1;congr 1
 .unfold tu;rw[a6y g.c0];have aI:=a6C g;by_cases O:r.goal=1/\88∉fa r
  .rw[aZ O,aZ (.inl ⟨O.1,by simp[O.2]⟩)];rfl
  rw[aL O];by_cases a5:r.goal=0/\∃m,(signed 75 (aE r))[0]? =B m/\s6 r m.1=a9
  .rw[aZ a5,aZ (.inr ⟨a5.1,aI.mp a5.2⟩)];rfl
  rw[aL a5,aL]
  .rfl
  rintro(⟨a,b⟩|⟨a,b⟩)
  .exact O ⟨a,by simpa using b⟩
  exact a5 ⟨a,aI.mpr b⟩
 unfold w';rw[a6z g.c0];have e:(75∉gT r∨104∉gT r∨((r.passed=aK∨r.seat>0)/\83∉fa r))↔(r.kings=[]∨decide (104∈gT r)=aK∨(r.seats=[]/\¬(r.passed=a9/\r.seat=0))):=by
  rw[a6B g.c0,a6A g.c0];have:(r.passed=aK∨r.seat>0)↔¬(r.passed=a9/\r.seat=0):=by
   cases r.passed
   .simp
   simp only[Qx,a0v,false_or];lia
  rw[this,decide_eq_false_iff_not,and_comm (b:=83∉fa r)]
 by_cases h:75∉gT r∨104∉gT r∨((r.passed=aK∨r.seat>0)/\83∉fa r)
 .rw[aZ h,aZ (e.mp h)];rfl
 rw[aL h,aL λz=>h (e.mpr z)];rfl
noncomputable def jd(m:Nat×Nat):aS:=eK m.1++(45::eK m.2)
noncomputable def zk(r:Rules)(p:Pos)(m:Nat×Nat):aS:=(if r.takes p m=[]then[]else 120::(((r.takes p m).drop 1).foldl (λ(b:aS)(c:Nat)=>b++(44::eK c)) (eK ((r.takes p m).headD 0))))++(if r.over (r.comes p m)=0 then[]else[35,n8 (48+r.over (r.comes p m))])
theorem x1(r:Rules)(p:Pos)(m:Nat×Nat):r.moveLine p m=jd m++zk r p m:=by unfold Rules.moveLine jd zk;simp
theorem G9:∀(b w v:aS),cj b w<w.length->cj b (w++v)=cj b w
 |_,[],_,h=>absurd h (by simp)
 |[],_::_,_,_=>rfl
 |x::b,y::w,v,h=>by
  rw[oN,iY,iY];rw[iY]at h;by_cases e:x=y
  .rw[aZ e]at h ⊢;rw[aZ e,G9 b w v (by simp at h;lia)]
  rw[aL e,aL e]
theorem Ga:∀b:aS,cj b b=b.length
 |[]=>rfl
 |x::b=>by rw[iY,aZ Y,Ga b];rfl
theorem TM:∀(b w:aS),cj b w=w.length->cj b w=b.length->w=b
 |[],[],_,_=>rfl
 |[],_::_,h,_=>by simp[qU]at h
 |_::_,[],_,h=>by simp[zb]at h
 |x::b,y::w,h,h'=>by
  rw[iY]at h h';by_cases e:x=y
  .rw[aZ e]at h h';rw[TM b w (by simpa using h) (by simpa using h'),e]
  rw[aL e]at h;simp at h
theorem same_iff(b w:aS):(cj b w=w.length/\cj b w=b.length)↔w=b:=⟨λh=>TM b w h.1 h.2,λh=>by rw[h];exact⟨Ga b,Ga b⟩⟩
def jT(r:Rules)(p:Pos)(b:aS)(m:Nat×Nat):aS:=if cj b (jd m)<(jd m).length then jd m else r.moveLine p m
theorem a6E(m:Nat×Nat):cj b (jT r p b m)=cj b (r.moveLine p m):=by
 unfold jT;by_cases h:cj b (jd m)<(jd m).length
 .rw[aZ h,x1,G9 _ _ _ h]
 rw[aL h]
theorem a6F(m:Nat×Nat):(cj b (jT r p b m)=(jT r p b m).length/\cj b (jT r p b m)=b.length)↔r.moveLine p m=b:=by
 unfold jT;by_cases h:cj b (jd m)<(jd m).length
 .rw[aZ h];constructor
  .intro z;lia
  intro z;exfalso;have:=G9 b (jd m) (zk r p m) h;rw[<-x1,z,Ga]at this;have l:=g5 ub z;rw[x1,dh]at l
  lia
 rw[aL h];exact same_iff _ _
noncomputable def ig(l:sl Nat):Nat:=l.foldr (λ(a b:Nat)=>max a b) 0
theorem a6G(l:sl Nat)(x:Nat):ig (l++[x])=max (ig l) x:=by induction l with|nil=>simp[ig]|cons y l ih=>show max y (ig (l++[x]))=max (max y (ig l)) x;rw[ih,aj5]
theorem Gb{l:sl Nat}(h:∀x∈l,x<=n):ig l<=n:=by induction l with|nil=>exact es _|cons y l ih=>exact a0V.mpr ⟨h y (by simp),ih λx ah=>h x (eH _ ah)⟩
theorem a6H(h:q∈r.row l):∃k,k<=l.length/\q=r.after (l.take k):=by obtain⟨k,aA⟩:=AD h;have ar:=(ei.mp aA).1;rw[rZ]at ar;rw[LS (by lia)]at aA;exact⟨k,by lia,(h4 aA).symm⟩
theorem a6I(s:dj r)(iy:eg r r.begins)(h:Row r l)(aQ:q∈r.row l):eg r q:=by obtain⟨k,_,rfl⟩:=a6H aQ;exact(h.take k).wf s iy
theorem a6J(s:dj r)(iy:eg r r.begins)(h:Row r l):r.seen l=((r.row l).filter λq=>bd q==bd (r.after l)&&q.side==(r.after l).side).length:=by
 unfold akH;dsimp only;congr 1;refine IL λq aQ=>?_;have lV:=a6I s iy h aQ;have oZ:=h.wf s iy;rw[hT];constructor
 .intro e;have:q=r.after l:=by simpa using e
  rw[this];simp
 intro e;have e:bd q=bd (r.after l)/\q.side=(r.after l).side:=by simpa using e
 rw[a5D s lV oZ e.1 e.2];simp
structure Inv (x:jZ):Prop where
 el:Right x.rules
 fJ:Row x.rules x.game.moves
 iZ:x.game.ending≠aa->x.rules.overBy x.game.moves=0
theorem Inv.iy{x:jZ}(h:Inv x):eg x.rules x.rules.begins:=by obtain⟨k,o⟩:=h.el.king;exact(G1 h.el.g.c0 o (by have:=h.el.g.f2;lia)).1
theorem a6K{x:jZ}(h:x.game.ending=aa):x.rules.overOf x.game=x.rules.overBy x.game.moves:=by
 unfold yx;rw[h];by_cases z:x.rules.overBy x.game.moves=0
 .simp[z,Qq]
 simp[z]
theorem M8{x:jZ}(h:x.rules.overOf x.game=0):x.game.ending=aa/\x.rules.overBy x.game.moves=0:=by
 unfold yx at h;by_cases z:x.rules.overBy x.game.moves=0
 .refine⟨?_,z⟩;cases e:x.game.ending with|none=>rfl|some y=>rw[e]at h;simp[z]at h;cases y<;>simp[Qq]at h
 simp[z]at h
theorem M9(h:r.overBy l=0):r.ended (r.after l)=0:=by
 unfold EI at h;refine a0w λz=>?_;have:r.over (r.after l)≠0:=by unfold Jp;rw[aZ z];exact z
 simp[this]at h
theorem Inv.moved{x:jZ}(h:Inv x)(hm:m∈x.rules.moves (x.rules.after x.game.moves)):Inv ⟨x.rules,⟨x.game.moves++[m],aa⟩⟩:=⟨h.el,Row.snoc h.fJ hm,λz=>absurd Y z⟩
theorem Inv.back{x:jZ}(h:Inv x):Inv ⟨x.rules,⟨x.game.moves.dropLast,aa⟩⟩:=⟨h.el,h.fJ.dropLast,λz=>absurd Y z⟩
theorem Inv.fresh(h:Right r):Inv ⟨r,a21⟩:=⟨h,Row.nil,λz=>absurd Y z⟩
theorem nA{m:Except Nat br}{f:br->Except Nat hz}{a:br}(h:m=.ok a):(m>>=f)=f a:=by rw[h];rfl
theorem m9{m:Except Nat br}{f:br->Except Nat hz}{p:Nat}(h:m=.error p):(m>>=f)=.error p:=by rw[h];rfl
theorem mL{m:Except Nat br}{f g:br->Except Nat hz}(h:∀a,f a=g a):(m>>=f)=(m>>=g):=by rw[show f=g from funext h]
theorem Gd{k':Type}(m:Except Nat br)(f:br->Except Nat hz)(g:hz->Except Nat k'):((m>>=f)>>=g)=(m>>=λa=>f a>>=g):=by cases m<;>rfl
theorem jU{k':Type}{m:Except Nat br}{F:br->Except Nat k'}{f:br->Except Nat hz}{g:hz->Except Nat k'}(h:∀a,F a=(f a>>=g)):(m>>=F)=((m>>=f)>>=g):=(mL h).trans (Gd m f g).symm
structure C1 where
 f:Nat
 cK:Nat
 bJ:Nat
 eh:Nat
 s1:Nat
 s2:Nat
 x:Nat
noncomputable def zl(c:eV):Except Nat (C1×eV):=do
 let c <-eD (ascii "first ") c
 let(f,c) <-n7 ["hunters","king"] c
 let c <-eD (ascii "\nking ") c
 let(cK,c) <-n7 ["steps","slides"] c
 let c <-eD [32] c
 let(bJ,c) <-n7 ["bare","armed"] c
 let c <-eD [32] c
 let(eh,c) <-n7 ["two","four"] c
 let c <-eD (ascii "\nseat ") c
 let(s1,c) <-n7 ["barred","passed"] c
 let c <-eD [32] c
 let(s2,c) <-n7 a20 c
 let c <-eD (ascii "\nexits ") c
 let(x,c) <-n7 a20 c
 let c <-eD [10] c
 return(⟨f,cK,bJ,eh,s1,s2,x⟩,c)
structure Ends where
 o:Nat
 p:Nat
 t:Nat
 l:Nat
noncomputable def x2(c:eV):Except Nat (Ends×eV):=do
 let c <-eD (ascii "goal ") c
 let p:=c.at_
 let(o,c) <-n7 ["edge","exits"] c
 let c <-eD (ascii "\nthrice ") c
 let(t,c) <-n7 ["drawn","hunters","king"] c
 let c <-eD (ascii "\nlimit ") c
 let(l,c) <-uz 1 60000 c
 let c <-eD [10] c
 return(⟨o,p,t,l⟩,c)
noncomputable def Ge(n:aS)(w h:Nat)(g:sl (sl Kind))(lD:sl Nat)(s:sl (sl lh))(sp:sl Nat)(k:C1)(e:Ends):Rules:=
 ⟨n,w,h,g,lD,s,sp,k.f,k.cK==1,k.bJ==1,k.eh==1,k.s1==1,k.s2,k.x,e.o,e.p,e.t,e.l⟩
def TN(b:aS):Except Nat Rules:=do
 let c <-eD (ascii "tafl ") ⟨b,0⟩
 let(n,c) <-qB c
 let c <-eD [32] c
 let(w,c) <-uz 5 13 c
 let c <-eD [32] c
 let(h,c) <-uz 5 13 c
 let c <-eD (ascii "\nground\n") c
 let(g,lD,c) <-oU Qs w h c
 let c <-eD (ascii "start\n") c
 let(s,sp,c) <-oU Qu w h c
 let(k,c) <-zl c
 let(e,c) <-x2 c
 if c.rest=[]then return Ge n w h g lD s sp k e else .error c.at_
theorem a6L(c:eV):eD (ascii "\ngoal ") c=(eD [10] c>>=eD (ascii "goal ")):=by
 have e:ascii "\ngoal " =[10]++ascii "goal " :=by decide+kernel
 rw[e,LM];rfl
theorem a6M(b:aS):pV b=TN b:=by unfold pV TN zl;refine mL λc=>mL λ⟨n,c⟩=>mL λc=>mL λ⟨w,c⟩=>mL λc=>mL λ⟨h,c⟩=>mL λc=>mL λ⟨g,_,c⟩=>mL λc=>mL λ⟨s,_,c⟩=>?_;refine jU λc=>jU λ⟨f,c⟩=>jU λc=>jU λ⟨_,c⟩=>jU λc=>jU λ⟨_,c⟩=>jU λc=>jU λ⟨_,c⟩=>jU λc=>jU λ⟨_,c⟩=>jU λc=>jU λ⟨_,c⟩=>jU λc=>jU λ⟨x,c⟩=>?_;dsimp only;rw[a6L,Gd];refine jU λc=>?_;show _=(x2 c>>=_);unfold x2;refine jU λc=>jU λ⟨o,_⟩=>jU λc=>jU λ⟨t,c⟩=>jU λc=>jU λ⟨l,c⟩=>jU λc=>?_;rfl
def ka:sl aS->aS
 |[]=>[]
 |[x]=>x
 |x::y::l=>x++(44::ka (y::l))
theorem TO:∀(l:sl Nat)(b:aS),l.foldl (λ(b:aS)(c:Nat)=>b++(44::eK c)) b=b++l.flatMap (λc=>44::eK c)
 |[],b=>by simp
 |c::l,b=>by rw[vX,TO l,mZ,lP]
theorem TP:∀(x:aS)(l:sl Nat),ka (x::l.map eK)=x++l.flatMap (λc=>44::eK c)
 |x,[]=>by simp[ka]
 |x,c::l=>by show x++(44::ka (eK c::l.map eK))=_;rw[TP (eK c) l,mZ];rfl
theorem a6N{l:sl Nat}(h:l≠[]):(l.drop 1).foldl (λ(b:aS)(c:Nat)=>b++(44::eK c)) (eK (l.headD 0))=ka (l.map eK):=by obtain⟨c,t,rfl⟩:=a0A h;show t.foldl _ (eK c)=ka (eK c::t.map eK);rw[TO,TP]
theorem Ma(r:Rules)(p:Pos)(m:Nat×Nat):r.moveLine p m=jd m++((if r.takes p m=[]then[]else 120::ka ((r.takes p m).map eK))++(if r.over (r.comes p m)=0 then[]else[35,n8 (48+r.over (r.comes p m))])):=by
 rw[x1];unfold zk;by_cases h:r.takes p m=[]
 .rw[aZ h,aZ h]
 rw[aL h,aL h,a6N h]
theorem Gf(r:Rules)(p:Pos):r.over p<=3:=by
 have h:r.ended p<=2:=by
  unfold Jn;split
  .decide
  split<;>decide
 unfold Jp;split
 .lia
 split<;>decide
theorem Mb{n:Nat}:∀(l:sl aS),(∀x∈l,x.length<=n)->(ka l).length<=l.length*(n+1)
 |[],_=>by simp[ka]
 |[x],h=>by have:=h x (by simp);show x.length<=1*(n+1);lia
 |x::y::l,h=>by
  have O:=h x (by simp);have a5:=Mb (y::l) λz aR=>h z (eH _ aR);show(x++(44::ka (y::l))).length<=(l.length+1+1)*(n+1);rw[dh,fX,IW (l.length+1)];have:(y::l).length*(n+1)=(l.length+1)*(n+1):=rfl
  lia
theorem Gg(w:eg r p)(s:dj r)(l:px r p m):∀c∈r.takes p m,c<169:=λc a7=>by rw[LI w s l]at a7;exact s.lt ((LJ (q:=p.shifted m) s l.gm).2 c (by simpa using(jk.mp a7).2)).1
theorem Mc:∀(c4 cc:sl (sl (sl Int))),i7 (c4++cc)=i7 c4++i7 cc
 |[],_=>rfl
 |c::c4,cc=>by show IY c++i7 (c4++cc)=(IY c++i7 c4)++_;rw[Mc c4 cc,lP]
theorem a6O(c4:sl (sl (sl Int)))(i:Nat):(i7 c4).drop (i7 (c4.take i)).length=i7 (c4.drop i):=by
 conv=>lhs;arg 2;rw[<-AI i c4]
 rw[Mc,PD]
theorem a6P{c4:sl (sl (sl Int))}{c:sl (sl Int)}(h:c4[i]? =B c):(i7 c4).drop (i7 (c4.take i)).length=IY c++i7 (c4.drop (i+1))/\(i7 (c4.take (i+1))).length=(i7 (c4.take i)).length+(IY c).length:=by
 obtain⟨ar,e⟩:=ei.mp h;refine⟨?_,?_⟩
 .rw[a6O,IJ ar,e];rfl
 rw[ue,h,Mc,dh];show _+(IY c++[]).length=_;rw[hU]
theorem Gh:∀(cY c7:sl (sl Int)),jK (cY++c7)=jK cY++jK c7
 |[],_=>rfl
 |r::cY,c7=>by show IZ r++jK (cY++c7)=(IZ r++jK cY)++_;rw[Gh cY c7,lP]
theorem TQ{cY:sl (sl Int)}{r:sl Int}(h:cY[i]? =B r):(jK cY).drop (jK (cY.take i)).length=IZ r++jK (cY.drop (i+1))/\(jK (cY.take (i+1))).length=(jK (cY.take i)).length+1+r.length:=by
 obtain⟨ar,e⟩:=ei.mp h;refine⟨?_,?_⟩
 .conv=>lhs;arg 2;rw[<-AI i cY]
  rw[Gh,PD,IJ ar,e];rfl
 rw[ue,h,Gh,dh];show _+(IZ r++[]).length=_;rw[hU];show _+(r.length+1)=_
 lia
structure At (l:sl Int) (n:Nat) (p:Int) (ns:sl Int) (cH:sl (sl Int)):Prop where
 pl:l[n]? =B p
 a6Q:∀(j:Nat) z,ns[j]? =B z->l[n+1+j]? =B z
 fJ:∀(j:Nat) r,cH[j]? =B r->l[n+1+ns.length+(jK (cH.take j)).length]? =B (r.length:Int)/\(l.drop (n+1+ns.length+(jK (cH.take j)).length+1)).take r.length=r/\n+1+ns.length+(jK (cH.take j)).length+1+r.length<=l.length
theorem a6R{c4:sl (sl (sl Int))}{p:Int}{ns:sl Int}{cH:sl (sl Int)}(h:c4[i]? =B ((p::ns)::cH)):At (i7 c4) (i7 (c4.take i)).length p ns cH/\(i7 (c4.take (i+1))).length=(i7 (c4.take i)).length+1+ns.length+(jK cH).length:=by
 obtain⟨O,a5⟩:=a6P h;generalize ar:i7 c4=l at O;generalize aH:(i7 (c4.take i)).length=n at O a5;have e:l.drop n=p::(ns++(jK cH++i7 (c4.drop (i+1)))):=by rw[O];show((p::ns)++jK cH)++_=_;simp
 have g:∀k,l[n+k]? =(p::(ns++(jK cH++i7 (c4.drop (i+1)))))[k]?:=λk=>by rw[<-e,AB]
 have len:l.length-n=1+ns.length+((jK cH).length+(i7 (c4.drop (i+1))).length):=by
  rw[<-m_,e];simp only[fX,dh]
  lia
 refine⟨⟨?_,λj z aR=>?_,λj r ak=>?_⟩,?_⟩
 .have:=g 0;rw[Ee]at this;rw[this];rfl
 .have bY:=(ei.mp aR).1;have:=g (1+j);rw[show n+(1+j)=n+1+j by lia,show 1+j=j+1 by lia,List.getElem?_cons_succ,l9 bY]at this;rw[this];exact aR
 .obtain⟨cx,dT⟩:=TQ ak;have bY:=(ei.mp ak).1;have je:(jK (cH.take j)).length+1+r.length<=(jK cH).length:=by
   rw[<-dT];conv=>rhs;rw[<-AI (j+1) cH,Gh,dh]
   lia
  generalize hm:(jK (cH.take j)).length=m at cx je;have d:l.drop (n+1+ns.length+m)=(IZ r++jK (cH.drop (j+1)))++i7 (c4.drop (i+1)):=by rw[show n+1+ns.length+m=n+(1+(ns.length+m)) by lia,<-E6,e,show 1+(ns.length+m)=(ns.length+m)+1 by lia,PE,<-E6,PD,List.drop_append_of_le_length (by lia),cx]
  refine⟨?_,?_,by lia⟩
  .have:=g5 (λ(x:sl Int)=>x[0]?) d;simp only[AB,Ee]at this;rw[this];rfl
  rw[<-E6,d];show aiU r.length (aiF 1 (((r.length:Int)::r++_)++_))=r;simp
 rw[a5];show n+((p::ns)++jK cH).length=_;rw[dh,fX]
 lia
def C2(x y o:Nat)(ts:sl Nat):aS:=jd (x,y)++((if ts=[]then[]else 120::ka (ts.map eK))++(if 0<o/\o<=3 then[35,n8 (48+o)]else[]))
def qZ(o:Nat):aS:=if 0<o/\o<=3 then[35,n8 (48+o)]else[]
theorem a6S{o:Nat}(h:o<=3):qZ o=if o=0 then[]else[35,n8 (48+o)]:=by
 unfold qZ;by_cases z:o=0
 .rw[aZ z,aL (by lia)]
 rw[aL z,aZ (by lia)]
theorem Gi(x y o:Nat)(ts:sl Nat):C2 x y o ts=jd (x,y)++((if ts=[]then[]else 120::ka (ts.map eK))++qZ o):=rfl
theorem TR(r:Rules)(p:Pos)(m:Nat×Nat):r.moveLine p m=C2 m.1 m.2 (r.over (r.comes p m)) (r.takes p m):=by rw[Ma,Gi,a6S (Gf r _)]
theorem a6T(r:Rules)(l:sl (Nat×Nat)):qZ (r.overBy l)=qZ (r.over (r.after l)):=by
 unfold EI;dsimp only;by_cases h:r.over (r.after l)=0
 .rw[aL (λz=>z h),h];by_cases a5:3<=r.seen l
  .rw[aZ a5];rfl
  rw[aL a5];by_cases aG:r.limit<=l.length
  .rw[aZ aG];rfl
  rw[aL aG]
 rw[aZ h]
theorem a6U(r:Rules)(l:sl (Nat×Nat))(m:Nat×Nat):C2 m.1 m.2 (r.overBy (l++[m])) (r.takes (r.after l) m)=r.moveLine (r.after l) m:=by rw[TR,Gi,Gi,a6T,BX]
theorem C3(r:Rules)(l:sl (Nat×Nat)):r.overBy l<=5:=by
 unfold EI;have:=Gf r (r.after l);dsimp only;split
 .lia
 split
 .decide
 split<;>decide
theorem TS(p q:Nat->Bool):∀l:sl Nat,(l.filter λc=>p c||q c).length<=(l.filter p).length+(l.filter q).length
 |[]=>by simp
 |c::l=>by have ih:=TS p q l;simp only[qw];cases p c<;>cases q c<;>simp<;>lia
theorem a6V(x:Nat):∀n,((eI n).filter λc=>c==x).length<=1:=λn=>by
 have h:((eI n).filter λc=>c==x).length=(eI n).count x:=by rw[List.count_eq_countP,List.countP_eq_length_filter]
 rw[h];exact List.nodup_iff_count.mp List.nodup_range x
theorem TU(n:Nat):∀f:sl Nat,((eI n).filter λc=>f.contains c).length<=f.length
 |[]=>by simp
 |x::f=>by
  have h:=TS (λc=>c==x) (λc=>f.contains c) (eI n);have O:=a6V x n;have a5:=TU n f;have e:((eI n).filter λc=>(x::f).contains c)=(eI n).filter λc=>(c==x)||f.contains c:=by congr 1
  rw[e,fX];have h':((eI n).filter λc=>(c==x)||f.contains c).length<=_:=h
  lia
theorem a6W(r:Rules)(q:Pos)(c:Nat):(found r q c).length<=4:=by
 unfold found;split
 .simp
 exact dE (PI ..) dQ
theorem C4(w:eg r p)(s:dj r)(l:px r p m):(r.takes p m).length<=4:=by rw[LI w s l];exact dE (TU _ _) (a6W _ _ _)
noncomputable def kb(b:aS)(c:Nat):Bool:=du (eK c++[45]) b
def u'(r:Rules)(p:Pos)(b:aS)(L:sl (Nat×Nat)):Except Nat (Nat×Nat):=match L.find? λ(m:Nat×Nat)=>r.moveLine p m==b with
 |some m=>.ok m
 |none=>.error (ig (L.map λ(m:Nat×Nat)=>cj b (r.moveLine p m)))
section
variable{L:sl (Nat×Nat)}
theorem a6X(h:L[i]? =B m)(a0:∀(j:Nat) n,j<i->L[j]? =B n->r.moveLine p n≠b)(hm:r.moveLine p m=b):u' r p b L=.ok m:=by
 have e:L.find? (λ(m:Nat×Nat)=>r.moveLine p m==b)=B m:=by
  rw[List.find?_eq_some_iff_append];obtain⟨_,e⟩:=ei.mp h;refine⟨by simp[hm],L.take i,L.drop (i+1),?_,λn aH=>?_⟩
  .rw[<-e,List.getElem_cons_drop,AI]
  obtain⟨j,bY⟩:=AD aH;have TV:j<i:=by have:=(ei.mp bY).1;rw[ko]at this;lia
  rw[PH TV]at bY;simpa using a0 j n TV bY
 unfold u';rw[e]
theorem a6Y(h:∀m∈L,r.moveLine p m≠b):u' r p b L=.error (ig (L.map λm=>cj b (r.moveLine p m))):=by
 have e:L.find? (λ(m:Nat×Nat)=>r.moveLine p m==b)=aa:=by rw[y2];intro m hm;simpa using h m hm
 unfold u';rw[e]
end
theorem s7:∀w b:aS,du w b=a9↔∃t,b=w++t
 |[],b=>⟨λ_=>⟨b,Y⟩,λ_=>rfl⟩
 |x::w,[]=>by
  constructor
  .intro h;cases h
  rintro⟨t,h⟩;cases h
 |x::w,y::b=>by
  show(x==y&&du w b)=a9↔_;rw[j3,i9,s7 w b];constructor
  .rintro⟨rfl,t,rfl⟩;exact⟨t,Y⟩
  rintro⟨t,h⟩;rw[oN]at h;injection h with O a5;exact⟨O.symm,t,a5⟩
theorem Md(w:aS):∀t u:aS,w.length<=cj (w++t) (w++u):=by
 induction w with
 |nil=>intro t u;exact es _
 |cons x w ih=>
  intro t u;rw[oN,oN,iY,aZ Y,fX];have:=ih t u
  lia
theorem TX:∀b w:aS,∀k,k<=cj b w->b.take k=w.take k
 |[],w,k,h=>by rw[qU]at h;obtain rfl:k=0:=(by lia);simp
 |_::_,[],k,h=>by rw[zb]at h;obtain rfl:k=0:=(by lia);simp
 |x::b,y::w,k,h=>by
  rw[iY]at h;by_cases e:x=y
  .rw[aZ e]at h;cases k with|zero=>simp|succ k=>rw[a0Q,a0Q,e,TX b w k (by lia)]
  rw[aL e]at h;obtain rfl:k=0:=(by lia);simp
theorem TY:∀u v t w:aS,(45:UInt8)∉u->(45:UInt8)∉v->u++45::t=v++45::w->u=v
 |[],[],_,_,_,_,_=>rfl
 |[],y::v,t,w,_,bk,h=>by rw[Ec,oN]at h;injection h with O _;exact absurd (by simp[O]) bk
 |x::u,[],t,w,bx,_,h=>by rw[Ec,oN]at h;injection h with O _;exact absurd (by simp[O]) bx
 |x::u,y::v,t,w,bx,bk,h=>by rw[oN,oN]at h;injection h with O a5;rw[O,TY u v t w (λz=>bx (eH _ z)) (λz=>bk (eH _ z)) a5]
theorem TZ(h:c<169):(45:UInt8)∉eK c:=by
 have e:∀x:Fin 13,∀y:Fin 13,(45:UInt8)∉(n8 (97+x.val)::uy (y.val+1)):=by decide+kernel
 have:=e ⟨c%13,PO _ dQ⟩ ⟨c/13,by lia⟩;exact this
theorem Gj(r:Rules)(p:Pos)(m:Nat×Nat):∃t,r.moveLine p m=(eK m.1++[45])++t:=⟨eK m.2++zk r p m,by rw[x1];unfold jd;simp⟩
theorem C5{l:sl Nat}{x:Nat}(h:x∈l):x<=ig l:=by
 induction l with
 |nil=>cases h
 |cons y l ih=>
  show x<=max y (ig l);obtain e|e:=dz.mp h
  .rw[e];exact a0T _ _
  exact dE (ih e) (Nat.le_max_right _ _)
theorem Me{br:Type}(p q:br->Bool)(h:∀x,p x=a9->q x=a9):∀l:sl br,(l.filter q).find? p=l.find? p
 |[]=>rfl
 |x::l=>by
  rw[qw,sF];by_cases aQ:q x=a9
  .rw[aZ aQ,sF,Me p q h l]
  rw[aL aQ];cases aq:p x with|true=>exact absurd (h x aq) aQ|false=>exact Me p q h l
theorem a6Z{L:sl (Nat×Nat)}(a7:∀m∈L,m.1<169)(bV:L.filter (λm=>kb b m.1)≠[]):u' r p b (L.filter λm=>kb b m.1)=u' r p b L:=by
 have aq:∀m:Nat×Nat,(r.moveLine p m==b)=a9->kb b m.1=a9:=λm h=>by obtain⟨t,e⟩:=Gj r p m;exact(s7 _ _).mpr ⟨t,by rw[<-eq_of_beq h,e]⟩
 unfold u';rw[Me _ _ aq];cases hf:L.find? λ(m:Nat×Nat)=>r.moveLine p m==b with
 |some m=>rfl
 |none=>
  dsimp only;congr 1;obtain⟨ia,_,e0⟩:=a0A bV;have b8:ia∈L.filter (λm=>kb b m.1):=by rw[e0];simp
  obtain⟨a70,T_⟩:=jk.mp b8;obtain⟨cf,hl⟩:=(s7 _ _).mp T_;obtain⟨gQ,aO⟩:=Gj r p ia;have big:(eK ia.1++[45]).length<=cj b (r.moveLine p ia):=by have:=Md (eK ia.1++[45]) cf gQ;rw[<-hl,<-aO]at this;exact this
  refine aj2 (Gb λx ah=>?_) (Gb λx ah=>?_)
  .obtain⟨m,hm,rfl⟩:=fG.mp ah;exact C5 (fG.mpr ⟨m,(jk.mp hm).1,Y⟩)
  obtain⟨m,hm,rfl⟩:=fG.mp ah;by_cases a0:kb b m.1=a9
  .exact C5 (fG.mpr ⟨m,jk.mpr ⟨hm,a0⟩,Y⟩)
  refine dE ?_ (C5 (fG.mpr ⟨ia,b8,Y⟩));refine dE ?_ big;refine hv (aj4 λz=>a0 ?_);have b9:=TX _ _ _ z;rw[hl,List.take_left]at b9;obtain⟨_,aT⟩:=Gj r p m;have e1:r.moveLine p m=(eK ia.1++[45])++(r.moveLine p m).drop (eK ia.1++[45]).length:=by conv=>lhs;rw[<-AI (eK ia.1++[45]).length (r.moveLine p m),<-b9]
  have hN:=aT.symm.trans e1;rw[lP,lP]at hN;have:=TY _ _ _ _ (TZ (a7 m hm)) (TZ (a7 ia a70)) hN;unfold kb;rw[this];exact T_
theorem T'(f:Nat->sl Nat)(q:Nat->Bool):∀c4:sl Nat,((c4.filter q).flatMap λc=>(f c).map λt=>(c,t))=(c4.flatMap λc=>(f c).map λt=>(c,t)).filter λm=>q m.1
 |[]=>rfl
 |c::c4=>by
  rw[qw,mZ,Ay,<-T' f q c4];by_cases h:q c=a9
  .rw[aZ h,mZ];congr 1;rw[IM,List.filter_eq_self.mpr];intro x _;exact h
  rw[aL h,IM,show List.filter ((λ(m:Nat×Nat)=>q m.1)∘λt=>(c,t)) (f c)=[]from a0B.mpr λx _=>h];rfl
def x3(n:Nat):aS:=if n=0 then[]else uy n
theorem U0(n:Nat):oT n []=x3 n:=rfl
theorem U1(n:Nat)(l:sl lh):oT n (.none::l)=oT (n+1) l:=by rw[oT,aZ Y]
theorem U2{x:lh}(n:Nat)(l:sl lh)(h:x≠ .none):oT n (x::l)=x3 n++(Qt x::oT 0 l):=by rw[oT,aL h];rfl
def nB(s:aS):sl aS->aS
 |[]=>[]
 |[x]=>x
 |x::y::l=>x++(s++nB s (y::l))
theorem U3:∀l:sl aS,nB [] l=l.flatten
 |[]=>rfl
 |[x]=>by simp[nB]
 |x::y::l=>by show x++([]++nB [] (y::l))=_;rw[Ec,U3 (y::l)];rfl
theorem U4(s:aS)(f:Nat->aS):∀n,nB s ((eI n).map f)=(eI n).flatMap λi=>(if i=0 then[]else s)++f i:=by
 have snoc:∀(l:sl aS)(x:aS),l≠[]->nB s (l++[x])=nB s l++(s++x):=by
  intro l;induction l with
  |nil=>intro x h;exact absurd Y h
  |cons y l ih=>intro x _;cases l with|nil=>rfl|cons z l=>show y++(s++nB s ((z::l)++[x]))=(y++(s++nB s (z::l)))++(s++x);rw[ih x (by simp)];simp
 intro n;induction n with
 |zero=>rfl
 |succ n ih=>rw[y4,fO,Az,<-ih];cases n with|zero=>simp[nB]|succ n=>rw[ir,vZ,snoc _ _ (by simp)];simp
theorem a71(r:Rules)(p:Pos):r.line p=nB [47] ((eI r.high).map λi=>oT 0 (r.rowOf p (r.high-1-i)))++[32,if p.side=0 then 104 else 107]:=by rw[U4];rfl
theorem a72(h:n<60):(uy n).length<=2:=(by decide+kernel:∀y:Fin 60,(uy y.val).length<=2) ⟨n,h⟩
theorem Gk(h:n<60):(x3 n).length<=2:=by
 unfold x3;split
 .simp
 exact a72 h
theorem Gl:∀(l:sl lh)(n:Nat),n+l.length<60->(oT n l).length<=2+3*l.length
 |[],n,h=>by rw[U0];have:=Gk (n:=n) (by simpa using h);simp;lia
 |x::l,n,h=>by
  rw[fX]at h ⊢;by_cases e:x=.none
  .subst e;rw[U1];have:=Gl l (n+1) (by lia)
   lia
  rw[U2 n l e,dh,fX];have:=Gk (n:=n) (by lia);have:=Gl l 0 (by lia)
  lia
theorem a73(r:Rules)(s:dj r)(p:Pos){y:Nat}(h:y<r.high):((bd p).drop (13*y)).take r.wide=(r.rowOf p y).map pc:=by
 have:=s.pw;have:=s.q9;refine IK λi=>?_;unfold Jq;rw[iL];by_cases hi:i<r.wide
 .rw[PH hi,AB,qV p (by lia),fW,aiM hi];rfl
 rw[qx (by rw[ko];lia),qx (by simp;lia)]
def iG(r:Rules)(l:sl (Nat×Nat)):sl aS:=(eI l.length).map λi=>r.moveLine (r.after (l.take i)) (l.getD i (0,0))
theorem Gm(r:Rules)(l:sl (Nat×Nat)):(iG r l).length=l.length:=by simp[iG]
theorem Mf(l:sl (Nat×Nat))(m:Nat×Nat):iG r (l++[m])=iG r l++[r.moveLine (r.after l) m]:=by
 unfold iG;rw[dh,gy,y4,fO];congr 1
 .refine ud λi hi=>?_;have hi:=fY.mp hi;rw[y5 (by lia)];simp[AA,l9 hi]
 simp[AA]
theorem U5:∀(l:sl (Nat×Nat))(p:Pos)(m:Nat×Nat),r.lines p (l++[m])=r.lines p l++(r.moveLine (l.foldl (λ(p:Pos)(m:Nat×Nat)=>r.comes p m) p) m++[lg])
 |[],p,m=>by simp[akB]
 |x::l,p,m=>by rw[oN];show r.moveLine p x++(lg::r.lines (r.comes p x) (l++[m]))=_;rw[U5 l];simp[akB]
theorem a74(l:sl (Nat×Nat)):r.lines r.begins l=((iG r l).map (·++[lg])).flatten:=by
 have key:∀k,k<=l.length->r.lines r.begins (l.take k)=((iG r (l.take k)).map (·++[lg])).flatten:=by
  intro k;induction k with
  |zero=>intro _;rfl
  |succ k ih=>
   intro h;have e:l.take (k+1)=l.take k++[l[k]]:=by rw[ue,ff (by lia)];rfl
   rw[e,U5,Mf,ih (by lia)];simp;rfl
 have:=key l.length (cP _);rwa[jl]at this
theorem U6(p:UInt8->Bool):∀(n:Nat)(c:eV),(oV p n c).1.length<=n
 |0,c=>cP _
 |n+1,c=>by
  unfold oV;split
  .split
   .have:=U6 p n c.on;show _+1<=n+1
    lia
   simp
  simp
theorem a75{c eO:eV}{n:aS}(h:qB c=.ok (n,eO)):n.length<=16:=by
 unfold qB at h;split at h
 .split at h
  .have e:=qv h;have:=U6 (λ(y:UInt8)=>EK y||isDigit y) 16 c;rw[e]at this;exact this
  cases h
 cases h
theorem a76(h:pV b=.ok r):r.name.length<=16:=by
 unfold pV at h;obtain⟨_,_,h⟩:=dM h;obtain⟨⟨n,_⟩,aH,h⟩:=dM h;obtain⟨_,_,h⟩:=dM h;obtain⟨⟨w,_⟩,_,h⟩:=dM h;obtain⟨_,_,h⟩:=dM h;obtain⟨⟨_,_⟩,_,h⟩:=dM h;obtain⟨_,_,h⟩:=dM h;obtain⟨⟨g,_,_⟩,_,h⟩:=dM h;obtain⟨_,_,h⟩:=dM h;obtain⟨⟨_,_,_⟩,_,h⟩:=dM h;obtain⟨_,_,h⟩:=dM h;obtain⟨⟨f,_⟩,_,h⟩:=dM h;obtain⟨_,_,h⟩:=dM h;obtain⟨⟨_,_⟩,_,h⟩:=dM h;obtain⟨_,_,h⟩:=dM h;obtain⟨⟨_,_⟩,_,h⟩:=dM h;obtain⟨_,_,h⟩:=dM h;obtain⟨⟨_,_⟩,_,h⟩:=dM h;obtain⟨_,_,h⟩:=dM h;obtain⟨⟨_,_⟩,_,h⟩:=dM h;obtain⟨_,_,h⟩:=dM h;obtain⟨⟨_,_⟩,_,h⟩:=dM h;obtain⟨_,_,h⟩:=dM h;obtain⟨⟨x,_⟩,_,h⟩:=dM h;obtain⟨_,_,h⟩:=dM h;obtain⟨⟨o,_⟩,_,h⟩:=dM h;obtain⟨_,_,h⟩:=dM h;obtain⟨⟨t,_⟩,_,h⟩:=dM h;obtain⟨_,_,h⟩:=dM h;obtain⟨⟨l,_⟩,_,h⟩:=dM h;obtain⟨_,_,h⟩:=dM h;split at h
 .have e:=qv h;subst e;exact a75 aH
 cases h
theorem a77(h:mD b=.ok r):r.name.length<=16:=by
 unfold mD at h;split at h
 .cases h
 next g7 aI=>
 split at h
 .cases h
 have e:=qv h;subst e;exact a76 aI
def dN:aS:=ascii "game "
def hD:aS:=ascii "\nrules "
theorem U7(r:Rules)(h k:aS)(g:Game):r.gameText h k g=(((((dN++h)++[32])++k)++hD)++r.name)++([10]++((iG r g.moves).map (·++[10])).flatten++n6 (r.winner g) (r.overOf g)):=by
 unfold Rules.gameText;rw[a74];show(((ascii "game" ++(32::h))++(32::k))++[lg])++(((ascii "rules" ++(32::r.name))++[lg])++_)=_;have aO:dN=ascii "game" ++[32]:=by decide+kernel
 have aT:hD=[10]++(ascii "rules" ++[32]):=by decide+kernel
 rw[aO,aT];simp[lg]
theorem Gn(r:Rules)(g:Game):r.winner g<=3:=by unfold Qp OPEN DRAWN;split<;>first|lia|(split<;>first|lia|(split<;>lia))
theorem Gp(r:Rules)(g:Game):r.overOf g<=7:=by
 have z:=C3 r g.moves;unfold yx;dsimp only;split
 .lia
 cases g.ending with|none=>decide|some y=>cases y<;>decide
theorem Gq(h:i<=7):(uA Js i).length<=8/\(uA Jm i).length<=8:=(by decide+kernel:∀i:Fin 8,(uA Js i.val).length<=8/\(uA Jm i.val).length<=8) ⟨i,by lia⟩
theorem Gr{u v:Nat}(h:u<=3)(h':v<=7):(n6 u v).length<=22:=by
 have e:=(Gq (i:=u) (by lia)).1;have d8:=(Gq h').2;unfold n6;have:(ascii "end ").length=4:=by decide+kernel
 simp only[dh,fX,uc]
 lia
noncomputable def v3(r:Rules)(l:sl (Nat×Nat)):sl Pos:=(r.row l).dropLast.reverse
theorem U8(l:sl (Nat×Nat)):r.row l=(r.row l).dropLast++[r.after l]:=by
 have h:r.row l≠[]:=λz=>by have:=rZ (r:=r) l;rw[z]at this;cases this
 have e:=LS (r:=r) (l:=l) (cP _);rw[jl]at e;have ar:(r.row l).getLast h=r.after l:=by rw[List.getLast_eq_getElem];have:=(ei.mp e).2;rw[<-this];congr 1;rw[rZ];rfl
 rw[<-ar];exact(aiG h).symm
theorem a78(l:sl (Nat×Nat))(m:Nat×Nat):v3 r (l++[m])=r.after l::v3 r l:=by
 unfold v3;rw[G0,II];conv=>lhs;rw[U8 l]
 simp
theorem U9(l:sl (Nat×Nat)):r.overAt (r.after l) (v3 r l) l.length=r.overBy l:=by
 have e:((v3 r l).filter λ(q:Pos)=>q==r.after l).length+1=r.seen l:=by
  unfold akH v3;dsimp only;conv=>rhs;rw[U8 l]
  rw[Ay,dh,List.filter_reverse,List.length_reverse];simp
 unfold Rules.overAt EI;dsimp only;rw[e]
theorem a79(l:sl (Nat×Nat))(h:r.overBy l≠0):r.wonAt (r.after l) (r.overBy l)=r.winner ⟨l,aa⟩/\r.overBy l=r.overOf ⟨l,aa⟩:=by
 have ky:r.overOf ⟨l,aa⟩=r.overBy l:=by unfold yx;dsimp only;rw[aZ h]
 refine⟨?_,ky.symm⟩;unfold Qp;rw[ky];have f7:=C3 r l;generalize r.overBy l=o at h f7;have:o=1∨o=2∨o=3∨o=4∨o=5:=by lia
 rcases this with rfl|rfl|rfl|rfl|rfl<;>rfl
def er(b:aS):aS:=b.takeWhile λy=>y !=10
theorem a7a(b:aS):∀y∈er b,y≠10:=λy h=>by have:=y0.mp (List.all_takeWhile (l:=b) (p:=λy=>y !=10)) y h;simpa using this
theorem Gs(b:aS):b=er b∨∃t,b=er b++10::t:=by
 have e:=List.takeWhile_append_dropWhile (p:=λ(y:UInt8)=>y !=10) (l:=b);cases h:b.dropWhile (λy=>y !=10)with
 |nil=>rw[h,hU]at e;exact .inl e.symm
 |cons y t=>
  have bl:y=10:=by have bT:=List.head?_dropWhile_not (λ(y:UInt8)=>y !=10) b;rw[h]at bT;simpa using bT
  rw[h,bl]at e;exact .inr ⟨t,e.symm⟩
theorem Mg:∀(u t:aS),(∀y∈u,y≠10)->er (u++10::t)=u
 |[],t,_=>by simp[er]
 |x::u,t,h=>by have ah:=h x (by simp);have ih:=Mg u t λy bl=>h y (eH _ bl);unfold er at ih ⊢;rw[oN,aiV,aZ (by simpa using ah),ih]
theorem Ua:∀b:aS,(∀y∈b,y≠10)->er b=b
 |[],_=>rfl
 |x::u,h=>by have ah:=h x (by simp);have ih:=Ua u λy bl=>h y (eH _ bl);unfold er at ih ⊢;rw[aiV,aZ (by simpa using ah),ih]
theorem a7b(O:∀y∈b.take k,y≠10)(a5:∀y,b[k]? =B y->y=10)(aA:k<=b.length):b.take k=er b/\k=(er b).length:=by
 have lk:(b.take k).length=k:=by rw[ko];lia
 have e:b.take k=er b:=by
  cases a0:b[k]? with
  |none=>have:b.length<=k:=List.getElem?_eq_none_iff.mp a0;rw[lQ this]at O ⊢;exact(Ua b O).symm
  |some y=>
   have bl:=a5 y a0;have c6:=(ei.mp a0).1;have e:b=b.take k++10::b.drop (k+1):=by
    conv=>lhs;rw[<-AI k b,IJ c6]
    rw[(ei.mp a0).2,bl]
   conv=>rhs;rw[e]
   rw[Mg _ _ O]
 exact⟨e,by rw[<-e,lk]⟩
theorem Gu(h:c<169):∀y∈eK c,y≠10:=by
 have e:∀x:Fin 13,∀y:Fin 13,∀z∈(n8 (97+x.val)::uy (y.val+1)),z≠10:=by decide+kernel
 exact e ⟨c%13,PO _ dQ⟩ ⟨c/13,by lia⟩
theorem Ub:∀l:sl Nat,(∀c∈l,c<169)->∀y∈ka (l.map eK),y≠10
 |[],_,y,bl=>by simp[ka]at bl
 |[c],h,y,bl=>Gu (h c (by simp)) y bl
 |c::d::l,h,y,bl=>by
  have bl:y∈eK c++(44::ka ((d::l).map eK)):=bl;obtain z|z:=kN.mp bl
  .exact Gu (h c (by simp)) y z
  obtain z|z:=dz.mp z
  .rw[z];decide
  exact Ub (d::l) (λx ah=>h x (eH _ ah)) y z
theorem Gv(w:eg r p)(s:dj r)(Mh:px r p m):∀y∈r.moveLine p m,y≠10:=λy bl=>by
 rw[Ma]at bl;obtain z|z:=kN.mp bl
 .unfold jd at z;obtain z|z:=kN.mp z
  .exact Gu (s.lt Mh.eO) y z
  obtain z|z:=dz.mp z
  .rw[z];decide
  exact Gu (s.lt Mh.gm) y z
 obtain z|z:=kN.mp z
 .split at z
  .cases z
  obtain z|z:=dz.mp z
  .rw[z];decide
  exact Ub _ (Gg w s Mh) y z
 have ol:=Gf r (r.comes p m);split at z
 .cases z
 have cJ:r.over (r.comes p m)=1∨r.over (r.comes p m)=2∨r.over (r.comes p m)=3:=by lia
 rcases cJ with e|e|e<;>rw[e]at z<;>simp at z<;>rcases z with z|z<;>rw[z]<;>decide
theorem a7c(p:Pos)(m:Nat×Nat)(a7:m.1<169)(rest:aS)(h:du [101,110] rest=a9)(t:aS):cj rest (r.moveLine p m++t)<2:=by
 obtain⟨u,rfl⟩:=(s7 _ _).mp h;rw[x1];have e:∀x:Fin 13,∀y:Fin 13,(n8 (97+x.val)::uy (y.val+1):aS).getD 1 110≠110:=by decide+kernel
 have s8:(eK m.1).getD 1 110≠110:=e ⟨m.1%13,PO _ dQ⟩ ⟨m.1/13,by lia⟩;cases aH:eK m.1 with
 |nil=>rw[aH]at s8;exact absurd Y s8
 |cons a v=>
  cases v with
  |nil=>rw[aH]at s8;exact absurd Y s8
  |cons z v=>
   rw[aH]at s8;have s8:z≠110:=s8;unfold jd;rw[aH];show cj (101::110::u) (a::z::_)<2;rw[iY];split
   .rw[iY,aL (λq=>s8 q.symm)];decide
   decide
theorem Mi:∀b w:aS,cj b w<=b.length
 |[],w=>by rw[qU];exact cP _
 |_::_,[]=>by rw[zb];exact es _
 |x::b,y::w=>by
  rw[iY];split
  .have:=Mi b w;simp;lia
  simp
theorem Mj(a b:sl Nat):ig (a++b)=max (ig a) (ig b):=by induction a with|nil=>show ig b=max 0 (ig b);lia|cons x a ih=>show max x (ig (a++b))=max (max x (ig a)) (ig b);rw[ih,aj5]
theorem Uc:∀(u v rest:aS),(∀y∈u,y≠10)->(∀y∈v,y≠10)->(rest=u∨∃t,rest=u++10::t)->u≠v->cj rest (v++[10])=cj u v
 |[],[],_,_,_,_,n=>absurd Y n
 |[],y::v,rest,_,bk,ak,_=>by
  have bl:=bk y (by simp);rw[qU];obtain rfl|⟨t,rfl⟩:=ak
  .rw[qU]
  show cj (10::t) (y::(v++[10]))=0;rw[iY,aL (λz=>bl z.symm)]
 |x::u,[],rest,bx,_,ak,_=>by
  have ah:=bx x (by simp);rw[zb];obtain rfl|⟨t,rfl⟩:=ak
  .show cj (x::u) (10::[])=0;rw[iY,aL ah]
  show cj (x::(u++10::t)) (10::[])=0;rw[iY,aL ah]
 |x::u,y::v,rest,bx,bk,ak,n=>by
  have ih:=λcY h=>Uc u v cY (λz aR=>bx z (eH _ aR)) (λz aR=>bk z (eH _ aR)) h;obtain rfl|⟨t,rfl⟩:=ak
  .rw[oN,iY,iY];by_cases e:x=y
   .rw[aZ e,aZ e,ih u (.inl Y) (λz=>n (by rw[e,z]))]
   rw[aL e,aL e]
  rw[oN,oN,iY,iY];by_cases e:x=y
  .rw[aZ e,aZ e,ih _ (.inr ⟨t,Y⟩) (λz=>n (by rw[e,z]))]
  rw[aL e,aL e]
theorem Mk{x:aS×Iw Ending}(h:x∈openEnds):∃t,x.1=[101,110]++t:=by have e:∀u v,∃t,n6 u v=[101,110]++t:=λu v=>⟨[100,32]++(uA Js u++(32::(uA Jm v++[lg]))),by unfold n6;rw[show ascii "end " =[101,110]++[100,32]from by decide+kernel,lP]⟩;unfold openEnds at h;simp only[dz,rv,qD]at h;rcases h with rfl|rfl|rfl|rfl<;>exact e _ _
theorem Ud(p:Pos)(m:Nat×Nat):1<=(r.moveLine p m).length:=by
 obtain⟨t,e⟩:=Gj r p m;rw[e];simp only[dh,gy]
 lia
section
variable{rest:aS}
theorem Ml(h:r.moveLine p m≠er rest∨rest=er rest)(b9:∀y∈r.moveLine p m,y≠10):r.standing p rest m=aa:=by
 unfold a24;split
 .rfl
 dsimp only;split
 .next aq=>
  obtain⟨t,e⟩:=(s7 _ _).mp aq;rw[lP]at e;have e:rest=r.moveLine p m++10::t:=e;have gZ:=Mg (r.moveLine p m) t b9;rw[<-e]at gZ;obtain h|h:=h
  .exact absurd gZ.symm h
  rw[h,gZ]at e;have:=g5 ub e;simp at this
 rfl
theorem a7d{t:aS}(h:r.moveLine p m=er rest)(ak:rest=er rest++10::t):r.standing p rest m=B (m,(er rest).length+1):=by
 have aq:du (r.moveLine p m++[lg]) rest=a9:=(s7 _ _).mpr ⟨t,by rw[h,lP];exact ak⟩;have bT:du (eK m.1++(45::eK m.2)) rest=a9:=by obtain⟨t',e⟩:=(s7 _ _).mp aq;exact(s7 _ _).mpr ⟨zk r p m++[lg]++t',by rw[e,x1];unfold jd;simp⟩
 unfold a24;rw[aL (by rw[bT];decide)];dsimp only;rw[aZ aq,dh,h];rfl
end
theorem Ue{br hz:Type}(P:br->Bool)(f:br->Iw hz)(g:br->hz):∀l:sl br,(∀x∈l,f x=if P x=a9 then B (g x)else aa)->l.findSome? f=(l.find? P).map g
 |[],_=>rfl
 |x::l,h=>by rw[List.findSome?_cons,sF,h x (by simp)];cases P x with|true=>rfl|false=>exact Ue P f g l λy bl=>h y (eH _ bl)
def pD(r:Rules)(f:Nat)(l:sl (Nat×Nat))(c:eV):Except Nat (Game×eV):=r.movesIn f (r.after l) (v3 r l) l.reverse l.length c
section
variable{c:eV}
theorem Ug(h:r.overBy l≠0):pD r (f+1) l c=if du (n6 (r.winner ⟨l,aa⟩) (r.overOf ⟨l,aa⟩)) c.rest=a9 then .ok (⟨l,aa⟩,kD c (n6 (r.winner ⟨l,aa⟩) (r.overOf ⟨l,aa⟩)).length)else .error (c.at_+cj c.rest (n6 (r.winner ⟨l,aa⟩) (r.overOf ⟨l,aa⟩))):=by obtain⟨aO,aT⟩:=a79 l h;unfold pD akD;dsimp only;rw[U9,aZ h,aO,aiT,aT];rfl
theorem Gw(h:r.overBy l=0):pD r (f+1) l c=match(r.moves (r.after l)).findSome? (r.standing (r.after l) c.rest)with
   |some (m,k)=>r.movesIn f (r.comes (r.after l) m) (r.after l::v3 r l) (m::l.reverse) (l.length+1) ⟨c.rest.drop k,c.at_+k⟩
   |none=>match openEnds.find? λ(x:aS×Iw Ending)=>du x.1 c.rest with
    |some (b,e)=>.ok (⟨l,e⟩,kD c b.length)
    |none=>.error (c.at_+ig (((r.moves (r.after l)).map λ(m:Nat×Nat)=>cj c.rest (r.moveLine (r.after l) m++[lg]))++openEnds.map λ(x:aS×Iw Ending)=>cj c.rest x.1)):=by
 unfold pD;conv=>lhs;unfold akD
 dsimp only;rw[U9,aL (λz=>z h),aiT];rfl
theorem Uh(s:dj r)(w:eg r (r.after l))(h:r.overBy l=0)(aF:du [101,110] c.rest=a9):pD r (f+1) l c=match openEnds.find? λ(x:aS×Iw Ending)=>du x.1 c.rest with
   |some (b,e)=>.ok (⟨l,e⟩,kD c b.length)
   |none=>.error (c.at_+ig (openEnds.map λ(x:aS×Iw Ending)=>cj c.rest x.1)):=by
 rw[Gw h];have Ui:∀m∈r.moves (r.after l),cj c.rest (r.moveLine (r.after l) m++[lg])<2:=λm hm=>a7c _ _ (s.lt (pz w s hm).eO) _ aF _;have aH:(r.moves (r.after l)).findSome? (r.standing (r.after l) c.rest)=aa:=a0C.mpr λm hm=>by
  unfold a24;split
  .rfl
  dsimp only;rw[aL];intro z;have z:=(pC _ _).mp z;have:=Ui m hm;have:=Ud (r:=r) (r.after l) m;rw[z,dh,gy]at*
  lia
 rw[aH];dsimp only;cases hf:openEnds.find? λ(x:aS×Iw Ending)=>du x.1 c.rest with
 |some x=>rfl
 |none=>
  dsimp only;rw[Mj,Nat.max_eq_right];refine dE (Gb (n:=1) λx ah=>?_) ?_
  .obtain⟨m,hm,rfl⟩:=fG.mp ah;have:=Ui m hm
   lia
  have b8:(n6 OPEN 0,(aa:Iw Ending))∈openEnds:=by unfold openEnds;simp
  refine dE ?_ (C5 (fG.mpr ⟨_,b8,Y⟩));obtain⟨t,e⟩:=Mk b8;obtain⟨u,aT⟩:=(s7 _ _).mp aF;have:=Md [101,110] u t;rw[<-aT,<-e]at this;exact dE dQ this
theorem Uj(aF:du [101,110] c.rest=aK):(openEnds.find? λ(x:aS×Iw Ending)=>du x.1 c.rest)=aa/\ig (openEnds.map λ(x:aS×Iw Ending)=>cj c.rest x.1)=cj c.rest [101,110]:=by
 have c6:cj c.rest [101,110]<([101,110]:aS).length:=by
  have O:cj c.rest [101,110]≠([101,110]:aS).length:=λz=>by rw[(pC _ _).mpr z]at aF;cases aF
  have a5:∀b w:aS,cj b w<=w.length:=λb=>by
   induction b with
   |nil=>intro w;rw[qU];exact es _
   |cons x b ih=>
    intro w;cases w with
    |nil=>rw[zb];exact cP _
    |cons y w=>
     rw[iY];split
     .have:=ih w;simp;lia
     simp
  have:=a5 c.rest [101,110]
  lia
 have qT:∀x∈openEnds,cj c.rest x.1=cj c.rest [101,110]:=λx ah=>by obtain⟨t,e⟩:=Mk ah;rw[e,G9 _ _ _ c6]
 constructor
 .rw[y2];intro x ah z;have z:=(pC _ _).mp z;rw[qT x ah]at z;obtain⟨t,e⟩:=Mk ah;rw[e,dh]at z
  lia
 have e:(openEnds.map λ(x:aS×Iw Ending)=>cj c.rest x.1)=hV 4 (cj c.rest [101,110]):=by rw[show hV 4 (cj c.rest [101,110])=openEnds.map λ_=>cj c.rest [101,110]from Y];exact ud qT
 rw[e];show max _ (max _ (max _ (max _ 0)))=_
 lia
theorem a7e{t:aS}(s:dj r)(w:eg r (r.after l))(h:r.overBy l=0)(ak:r.readMove (r.after l) (er c.rest)=.ok m)(hf:c.rest=er c.rest++10::t):pD r (f+1) l c=pD r f (l++[m]) (kD c ((er c.rest).length+1)):=by
 rw[Gw h];have fs:=Ue (λ(m:Nat×Nat)=>r.moveLine (r.after l) m==er c.rest) (r.standing (r.after l) c.rest) (λm=>(m,(er c.rest).length+1)) (r.moves (r.after l)) λm hm=>by
  by_cases e:r.moveLine (r.after l) m=er c.rest
  .rw[aZ (by simpa using e),a7d e hf]
  rw[aL (by simpa using e),Ml (.inl e) (Gv w s (pz w s hm))]
 unfold EJ at ak;rw[fs];cases aQ:(r.moves (r.after l)).find? λ(m:Nat×Nat)=>r.moveLine (r.after l) m==er c.rest with|none=>rw[aQ]at ak;cases ak|some m'=>rw[aQ]at ak;have e:=qv ak;subst e;show r.movesIn f _ _ _ _ _=_;unfold pD;rw[BX,a78,List.reverse_append,dh];rfl
theorem a7f(s:dj r)(w:eg r (r.after l))(h:r.overBy l=0)(aF:du [101,110] c.rest=aK)(ak:r.readMove (r.after l) (er c.rest)=.ok m)(hf:c.rest=er c.rest):pD r (f+1) l c=.error (c.at_+(er c.rest).length):=by
 rw[Gw h];have aH:(r.moves (r.after l)).findSome? (r.standing (r.after l) c.rest)=aa:=a0C.mpr λm hm=>Ml (.inr hf) (Gv w s (pz w s hm));obtain⟨aO,aT⟩:=Uj aF;rw[aH];dsimp only;rw[aO];dsimp only;rw[Mj,aT];congr 2;have hm:m∈r.moves (r.after l)/\r.moveLine (r.after l) m=er c.rest:=by
  unfold EJ at ak;split at ak
  .next m' aQ=>cases ak;exact⟨Eb aQ,by simpa using PF aQ⟩
  cases ak
 refine aj2 (a0V.mpr ⟨Gb λx ah=>?_,?_⟩) (dE ?_ (a0T _ _))
 .obtain⟨m',_,rfl⟩:=fG.mp ah;exact dE (Mi _ _) (by rw[<-hf];exact cP _)
 .exact dE (Mi _ _) (by rw[<-hf];exact cP _)
 refine dE ?_ (C5 (fG.mpr ⟨m,hm.1,Y⟩));have:=Md (er c.rest) [] [lg];rw[hU,<-hf]at this;rw[hm.2,<-hf];exact this
theorem a7g(s:dj r)(w:eg r (r.after l))(h:r.overBy l=0)(aF:du [101,110] c.rest=aK)(ak:r.readMove (r.after l) (er c.rest)=.error k):pD r (f+1) l c=.error (c.at_+max k (cj c.rest [101,110])):=by
 rw[Gw h];have iE:(∀m∈r.moves (r.after l),r.moveLine (r.after l) m≠er c.rest)/\k=ig ((r.moves (r.after l)).map λm=>cj (er c.rest) (r.moveLine (r.after l) m)):=by
  unfold EJ at ak;split at ak
  .cases ak
  next aQ=>
  exact⟨λm hm z=>by have:=y2.mp aQ m hm;simp[z]at this,(alT ak).symm⟩
 have aH:(r.moves (r.after l)).findSome? (r.standing (r.after l) c.rest)=aa:=a0C.mpr λm hm=>Ml (.inl (iE.1 m hm)) (Gv w s (pz w s hm));obtain⟨aO,aT⟩:=Uj aF;rw[aH];dsimp only;rw[aO];dsimp only;rw[Mj,aT,iE.2];congr 3;refine g5 ig (ud λm hm=>?_);exact Uc (er c.rest) _ c.rest (a7a _) (Gv w s (pz w s hm)) (Gs _) λz=>iE.1 m hm z.symm
end
noncomputable def v5(r:Rules)(c:eV):Except Nat eV:=do
 let c <-eD (ascii "game ") c
 let(_,c) <-qB c
 let c <-eD [32] c
 let(_,c) <-qB c
 let c <-eD (ascii "\nrules ") c
 let c <-eD r.name c
 eD [10] c
theorem a7h(b:aS):r.readGame b=(v5 r ⟨b,0⟩>>=λc=>pD r (r.limit+2) [] c>>=λx=>if x.2.rest=[]then .ok x.1 else .error x.2.at_):=by unfold Rules.readGame v5;simp only[Gd];refine mL λc=>mL λx=>mL λc=>mL λx=>mL λc=>?_;rw[show r.name++[lg]=r.name++[10]from Y,LM];show((eD r.name c>>=eD [10])>>=_)=_;rw[Gd];rfl
end Tf
namespace LX
open PySem
structure kG (S:sl I) (e:I) (ts:sl I) (h h':bq):Prop where
 keep:∀b o,h.get? b=B o->b∉S->b≠e->b∉ts->h'.get? b=B o
 slot:∀b o,h.get? b=B o->b≠e->b∉ts->∃aV,h'.get? b=B {o with slots:=aV}
def kG.refl(S:sl I)(e:I)(ts:sl I)(h:bq):kG S e ts h h:=⟨λ_ _ q _ _ _=>q,λ_ o q _ _=>⟨o.slots,q⟩⟩
variable{ts:sl I}{e:I}{h:bq}
def kG.trans{S:sl I}{O a5:bq}(a:kG S e ts h O)(b:kG S e ts O a5):kG S e ts h a5 where
 keep:=λc o q e3 cS gg=>b.keep c o (a.keep c o q e3 cS gg) e3 cS gg
 slot:=λc o q cS gg=>by obtain⟨_,bw⟩:=a.slot c o q cS gg;obtain⟨s2,cy⟩:=b.slot c _ bw cS gg;exact⟨s2,cy⟩
def kG.mono{S Uk s9:sl I}{O:bq}(a:kG S e ts h O)(lB:∀b∈S,b∈Uk)(b9:∀b∈ts,b∈s9):kG Uk e s9 h O where
 keep:=λc o q e3 cS gg=>a.keep c o q (λz=>e3 (lB c z)) cS λz=>gg (b9 c z)
 slot:=λc o q cS gg=>a.slot c o q cS λz=>gg (b9 c z)
def kG.young{S s9:sl I}{O:bq}(a:kG S e (ts++s9) h O)(bl:∀b∈s9,h.objs.size<=b):kG S e ts h O where
 keep:=λc o q e3 cS gg=>a.keep c o q e3 cS λz=>(kN.mp z).elim gg λz=>absurd (dI q) (AL.mpr (bl c z))
 slot:=λc o q cS gg=>a.slot c o q cS λz=>(kN.mp z).elim gg λz=>absurd (dI q) (AL.mpr (bl c z))
structure hE (n:Nat) (e C:I) (a3:Iw I) (e4:ae) (T:Iw I) (dG:ae) (h:bq):Prop where
 obj:∃cR vs,h.get? e=B cR/\cR.cls=.ref C/\cR.dict=a3/\cR.data=.fields vs/\vs.size=6/\vs[1]? =B (T.elim .none .ref)/\vs[2]? =B e4
 cf:∀t,T=B t->n<=t/\t≠e/\∃v7 vs,h.get? t=B v7/\v7.data=.fields vs/\vs[3]? =B dG
variable{n:Nat}{C:I}{a3 T:Iw I}{e4 dG:ae}
def hE.mono{rO:Nat}(x:hE n e C a3 e4 T dG h)(aH:rO<=n):hE rO e C a3 e4 T dG h:=
 ⟨x.obj,λt b9=>let⟨a,b⟩:=x.cf t b9;⟨dE aH a,b⟩⟩
variable{M:ug}{A:da}{E:ae->ay->Prop}{s:ay}{Q:Unit->ay->Prop}{base:bq}{env:eC}{outer:sl eC}
def Mm{T:I}{fr:Iw I}(x:hE n e C a3 e4 (B T) dG s.heap)(h:∀h',hE n e C a3 e4 (B T) (fr.elim .none λf=>iN f) h'->kG [] e [T] s.heap h'->Q () {s with heap:=h'}):b7 M A (AY (.ref e) fr) Q E s:=by obtain⟨⟨cR,vs,aF,a7,fL,hd,hsz,O,a5⟩,Ul⟩:=x;obtain⟨Gx,tv,_,ts,dq,q_,aG⟩:=Ul T Y;have nv:3<ts.size:=(air.mp aG).1;unfold AY;refine bB (jM (x:=.ref T) aF hd O ?_);rw[aZ (show(dO T !=eS)=a9 by simp)];have qc:∀b,b≠T->(s.heap.update T (kq (·.setIfInBounds 3 (fr.elim eS λf=>iN f)))).get? b=s.heap.get? b:=λb a0=>nN _ _ a0.symm;have Bu:=rz (kq (·.setIfInBounds 3 (fr.elim eS λf=>iN f))) dq (AO (uh q_ _));refine uv dq q_ nv (h _ ⟨⟨cR,vs,(qc e tv.symm).trans aF,a7,fL,hd,hsz,O,a5⟩,λt b9=>?_⟩ ⟨λb o q _ _ gg=>(qc b λz=>gg (by simp[z])).trans q,λb o q _ gg=>⟨o.slots,(qc b λz=>gg (by simp[z])).trans q⟩⟩);cases b9;exact⟨Gx,tv,_,_,Bu,uh q_ _,by simp[nv]⟩
def Um{L:I}{Un:ae}{a7i:Bool}(jQ:A.frames=B (env::outer))(ar:s.heap.FunFrames base (env::outer))(hf:env.frame=B L)(x:hE n e C a3 e4 T dG s.heap)(aH:n<=s⁻¹)(h:∀h' jV,hE n e C a3 e4 (B jV) (iN L) h'->s⁻¹<=jV->kG ((env::outer).filterMap (·.frame)) e [] s.heap h'->Q () {s with heap:=h'}):
  b7 M A (do let a <-frameOf env;let pl <-entryPlaceOf L a7i;let b <-ajr Un a .none (iN L) .none pl;a1G (.ref e) 1 b) Q E s:=by
 obtain⟨⟨cR,vs,aF,a7,fL,hd,hsz,O,a5⟩,_⟩:=x;have a7j:e∉(env::outer).filterMap (·.frame):=λhm=>by obtain⟨_,o,aU,tw⟩:=ar.mem hm;rw[aF]at aU;cases aU;exact tw vs hd
 refine bB (wpAny_frameOf_fun jQ ar hf λjx l0=>?_);refine bB (wpAny_entryPlaceOf λpl eN=>?_);unfold ajr newFields;refine bB (yq ?_ (eN.sizeOk5 _ _ _ _ _));generalize a7k:(([Un,dO L,eS,iN L,eS]++(if pl.isEmpty then hV 6 eS else pl)).toArray:Array ae)=rec;have a7l:rec[3]? =B (iN L):=by rw[<-a7k];simp
 have Uo:jx.get? e=B cR:=(l0.2.1 e a7j).trans aF;have Gy:=ef (h:=jx) {cls:=.type "traceback",dict:=aa,data:=.fields rec} Uo;refine uv Gy hd (by lia) ?_;have tv:jx.objs.size≠e:=y8 (dI Uo);have Up:=uh hd (·.setIfInBounds 1 (dO jx.objs.size));have a7m:=rz (kq (·.setIfInBounds 1 (dO jx.objs.size))) Gy (AO Up);have qc:∀b,b≠e->((jx.push {cls:=.type "traceback",dict:=aa,data:=.fields rec}).update e (kq (·.setIfInBounds 1 (dO jx.objs.size)))).get? b=(jx.push {cls:=.type "traceback",dict:=aa,data:=.fields rec}).get? b:=
  λb a0=>nN _ _ a0.symm
 refine h _ jx.objs.size ⟨⟨_,_,a7m,(Q0 _ _).trans a7,?_,Up,by simpa using hsz,by simp[hsz],?_⟩,λt b9=>?_⟩ (by rw[l0.1];exact cP _) ⟨λb o q e3 cS _=>?_,λb o q cS _=>?_⟩
 .rw[<-fL];unfold kq;split<;>rfl
 .rw[Px dQ];exact a5
 .cases b9;refine⟨by rw[l0.1];exact aH,tv,_,rec,(qc _ tv).trans (hW jx Y),Y,a7l⟩
 .exact(qc b cS).trans (ef _ ((l0.2.1 b e3).trans q))
 obtain⟨aV,bw⟩:=l0.2.2 b o q;exact⟨aV,(qc b cS).trans (ef _ bw)⟩
def Uq{L:I}(jQ:A.frames=B (env::outer))(ar:s.heap.FunFrames base (env::outer))(hf:env.frame=B L)(x:hE n e C a3 e4 T .none s.heap)(aH:n<=s⁻¹)(h:∀h' jV,hE n e C a3 e4 (B jV) (iN L) h'->s⁻¹<=jV->kG ((env::outer).filterMap (·.frame)) e T.toList s.heap h'->Q () {s with heap:=h'}):b7 M A (uo (.ref e) env) Q E s:=by
 obtain⟨cR,vs,aF,a7,fL,hd,hsz,O,a5⟩:=x.obj;unfold uo;simp only[hf];refine bB (jM aF hd O ?_);cases T with
 |none=>show b7 M A (if(eS !=eS)=a9 then _ else _) Q E s;rw[aL dQ];exact Um jQ ar hf x aH h
 |some T=>
  show b7 M A (if(dO T !=eS)=a9 then _ else _) Q E s;obtain⟨Gx,tv,_,ts,dq,q_,aG⟩:=x.cf T Y;have nv:3<ts.size:=(air.mp aG).1;rw[aZ (show(dO T !=eS)=a9 by simp)];refine bB (jM dq q_ aG ?_);rw[aL (show¬((eS==iN L)=a9) by simp[iN])];refine bB (uv dq q_ nv ?_);have qc:∀b,b≠T->(s.heap.update T (kq (·.setIfInBounds 3 eS))).get? b=s.heap.get? b:=λb a0=>nN _ _ a0.symm;have Bu:=rz (kq (·.setIfInBounds 3 eS)) dq (AO (uh q_ _));have a7n:∀b o,s.heap.get? b=B o->(∀vs,o.data≠ .fields vs)->b≠T:=λb o a0 tw q=>by rw[q,dq]at a0;cases a0;exact tw ts q_
  have Ur:(s.heap.update T (kq (·.setIfInBounds 3 eS))).objs.size=s⁻¹:=Heap.size_after_update ..;have eM:hE n e C a3 e4 (B T) .none (s.heap.update T (kq (·.setIfInBounds 3 eS))):=
   ⟨⟨cR,vs,(qc e tv.symm).trans aF,a7,fL,hd,hsz,O,a5⟩,λt b9=>by cases b9;exact⟨Gx,tv,_,_,Bu,uh q_ _,by simp[nv]⟩⟩
  refine Um jQ (ar.of_keeps λb o a0 tw=>⟨o,(qc b (a7n b o a0 tw)).trans a0,Y⟩) hf eM (by rw[Ur];exact aH) λh' jV eG b9 kH=>h h' jV eG (by rw[Ur]at b9;exact b9) ⟨λb o q e3 cS gg=>?_,λb o q cS gg=>?_⟩
  .exact kH.keep b o ((qc b λz=>gg (by simp[z])).trans q) e3 cS (by simp)
  exact kH.slot b o ((qc b λz=>gg (by simp[z])).trans q) cS (by simp)
def a7o{L:I}(jQ:A.frames=B (env::outer))(ar:s.heap.FunFrames base (env::outer))(hf:env.frame=B L)(x:hE n e C a3 e4 T .none s.heap)(aH:n<=s⁻¹)(h:∀h' jV,hE n e C a3 e4 (B jV) .none h'->s⁻¹<=jV->kG ((env::outer).filterMap (·.frame)) e T.toList s.heap h'->Q () {s with heap:=h'}):b7 M A (Ex env (.ref e)) Q E s:=by
 unfold Ex;refine bB (Uq jQ ar hf x aH λO q' eM sa aO=>?_);refine Mm (fr:=aa) eM λa5 eG aT=>h a5 q' eG sa ?_;exact kG.young (s9:=[q']) ((aO.mono (λ_ z=>z) λb a0=>sG _ a0).trans (aT.mono (λ_ z=>nomatch z) λb a0=>oO _ a0)) (λb a0=>by
  have:b=q':=by simpa using a0
  rw[this];exact sa)
def Mn{L T:I}(hf:env.frame=B L)(x:hE n e C a3 e4 (B T) (iN L) s.heap)(h:Q () s):b7 M A (uo (.ref e) env) Q E s:=by obtain⟨_,_,aF,_,_,hd,_,O,_⟩:=x.obj;obtain⟨_,_,_,_,dq,q_,aG⟩:=x.cf T Y;unfold uo;simp only[hf];refine bB (jM aF hd O ?_);show b7 M A (if(dO T !=eS)=a9 then _ else _) Q E s;rw[aZ (show(dO T !=eS)=a9 by simp)];refine bB (jM dq q_ aG ?_);rw[aZ (show(iN L==iN L)=a9 by simp)];exact eJ h
def leave_held{L T:I}(hf:env.frame=B L)(x:hE n e C a3 e4 (B T) (iN L) s.heap)(h:∀h',hE n e C a3 e4 (B T) .none h'->kG [] e [T] s.heap h'->Q () {s with heap:=h'}):b7 M A (Ex env (.ref e)) Q E s:=by unfold Ex;exact bB (Mn hf x (Mm (fr:=aa) x h))
def Us(x:I)(R:w5->ay->Prop)(r:w5)(a_:ay):Prop:=match r with
 |.ok (.ret v)=>v=.none/\R (.ok (.ret (.ref x))) a_
 |.ok _=>False
 |.error e=>R (.error e) a_
abbrev lE(C t:I):bH:={cls:=.ref C,data:=.fields #[.ref t,.none,.none,.none,.bool aK,.none]}
abbrev nC(us:sl ae):bH:={cls:=.type "tuple",data:=.seq us.toArray}
variable{prog:bP}{w:bG}{g:Array J0}{d:I'}{t:Nat}{os:OsState}{nm q:a8}{f:I}{bs bm sub us:sl ae}{tx ab:Bool}{sn:sl a8}{col:Iw Bool}{dd:Iw I}{k0 cK bJ eh k5:Iw ae}{newId:String}{fM:a8->Iw ae}{R:w5->ay->Prop}
section
variable{N:I}{gp Ut:String}
def a7p{of:bH}{self:ae}{Q:ae×sl ae->ay->Prop}(hf:s.heap.get? f=B of)(a7:of.cls=.type "function")(aQ:Q (.ref f,[self]) s):b7 M A (bindSpecial (.ref f) self) Q E s:=by unfold bindSpecial;refine bB (wpAny_typeOf (T:="function") ⟨of,hf,a7⟩ ?_);rw[aZ (show(_:Bool)=a9 by decide)];exact eJ aQ
def a7q(F:ExcBaseFacts gp newId Ut bm){of:bH}{Z:Code->ay->Prop}(e5:h.get? C=B (pS nm q C N bs bm tx sn sub ab col dd k0 cK bJ eh k5 newId))(aH:h.Ns N fM)(hi:fM "__init__" =B (.ref f))(hf:h.get? f=B of)(x4:of.cls=.type "function")(aQ:my (bp prog w) A (.call (.ref f) ⟨.ref (h.objs.size+1)::us,[]⟩) (Us (h.objs.size+1) R) ⟨(h.push (nC us)).push (lE C h.objs.size),g,d,t,os⟩)(bx:us.length<=cN):b7 (bp prog w) A (w1.«type.__call__» ⟨.ref C::us,[]⟩) (λfin a_=>match fin with|.done f=>R (.ok f) a_|.again e8=>Z e8 a_) (λe a_=>R (.error e) a_) ⟨h,g,d,t,os⟩:=by
 repeat (first|with_reducible refine nR e5 ?_|with_reducible refine wpAny_madeBy_exc e5 ?_|wp_step)
 refine codeAny_call_builtin_code (ajp _ F.quiet) (wpAny_check_new_sub F e5 ?_);refine codeAny_exc_new_sub F e5 ?_ bx;show b7 _ _ _ _ _ _;have Uu:=ef (lE C h.objs.size) (ef (nC us) e5);have Mo:=ef (lE C h.objs.size) (ef (nC us) hf);have a7r:((h.push (nC us)).push (lE C h.objs.size)).Ns N fM:=let⟨o,b5,fZ,e,r⟩:=aH;⟨o,b5,fZ,ef _ (ef _ e),r⟩
 have C6:((h.push (nC us)).push (lE C h.objs.size)).get? (h.objs.size+1)=B (lE C h.objs.size):=by heap_get
 have a7s:(dO C::bm).contains (.ref C)=a9:=by simp
 unfold a1B;repeat (first|with_reducible refine nR C6 ?_|(with_reducible refine Ji Uu ?_;rw[a7s])|wp_step)
 show b7 _ _ (pU (.ref C) _) _ _ _;refine EE Uu a7r F.mroIs F.init.lookup ?_;rw[hi];refine rC (bB (a7p (s:=⟨(h.push (nC us)).push (lE C h.objs.size),g,d,t,os⟩) Mo x4 ?_));refine bB (A_ (w8 aQ λr a_ z=>?_));rcases r with e|(v|_|_|_)<;>first|exact z|exact z.elim|skip
 obtain⟨rfl,z⟩:=z;exact eJ (eJ z)
def Uv(F:ExcBaseFacts gp newId Ut bm){of:bH}(e5:h.get? C=B (pS nm q C N bs bm tx sn sub ab col dd k0 cK bJ eh k5 newId))(aH:h.Ns N fM)(hi:fM "__init__" =B (.ref f))(hf:h.get? f=B of)(x4:of.cls=.type "function")(aQ:my (bp prog w) (A.under (.builtin "type.__call__" ⟨.ref C::us,[]⟩)) (.call (.ref f) ⟨.ref (h.objs.size+1)::us,[]⟩) (Us (h.objs.size+1) R) ⟨(h.push (nC us)).push (lE C h.objs.size),g,d,t,os⟩)(bx:us.length<=cN):my (bp prog w) A (.call (.ref C) ⟨us,[]⟩) R ⟨h,g,d,t,os⟩:=by
 have dU:=tc_lookup;have f2:=tc_bind (.ref C);have dq:(⟨h,g,d,t,os⟩:ay).TypeIs (.ref C) "type" :=⟨_,e5,Y⟩;refine codeAny_of_tree ?_;show b7 _ _ (callAny (.ref C) _) _ _ _;repeat (any_goals (first|assumption|with_reducible refine nR e5 ?_|wp_step))
 refine⟨Y,?_⟩;refine codeAny_call_builtin_at (ajp _ dQ) entry_typeCall (wpAny_check_type_call_sub e5 ?_);exact a7q F e5 aH hi hf x4 aQ bx
end
section
variable{N:I}
def a7t{x:hX ae}{Q:Flow->ay->Prop}(qM:bm.contains (.type "BaseException")=a9)(bT:A.handled=aa)(h:b7 M A x (λv dw=>∃e cR vs,v=.ref e/\dw.heap.get? C=B (pS nm q C N bs bm tx sn sub ab col dd k0 cK bJ eh k5 newId)/\dw.heap.get? e=B cR/\cR.cls=.ref C/\cR.data=.fields vs/\vs[1]? =B .none/\E (.ref e) dw) E s):b7 M A (yp env (B x) aa) Q E s:=by
 have tA:(dO C::bm).contains (.type "BaseException")=a9:=by rw[PC,qM,Pz]
 unfold yp;refine bB (mB h (λv dw jx=>?_) λ_ _ x=>x);obtain⟨e,cR,vs,rfl,e5,aF,f9,hd,O,fb⟩:=jx;obtain⟨_,g,d,_,_⟩:=dw;repeat (first|(with_reducible refine nR aF ?_;rw[f9])|with_reducible refine nR e5 ?_|(with_reducible refine Ji e5 ?_;rw[tA])|with_reducible refine jM aF hd O ?_|wp_step)
 exact wpAny_raiseNew_none bT fb
end
variable{e0:I}{vs:Array ae}
section
variable{N:I}
def a7u:entryFor table "proto.unchain" =B w1.«proto.unchain»:=entryFor_of_tree (by kernel_rfl)
def Uw{br:Type}{cR mM:bH}{ot:Array ae}{Q:br->ay->Prop}(bT:A.handled=B (.ref e0))(bV:e0≠e)(aF:s.heap.get? e=B cR)(hd:cR.data=.fields vs)(hsz:2<vs.size)(b8:s.heap.get? e0=B mM)(ou:mM.data=.fields ot)(C7:ot[2]? =B .none)(h:E (.ref e) {s with heap:=s.heap.update e (kq (·.setIfInBounds 2 (.ref e0)))}):b7 (bp prog w) A (Jg (.ref e):hX br) Q E s:=by unfold Jg;refine bB (akj ?_);rw[bT];dsimp only;rw[aZ (show(dO e0 !=dO e)=a9 by simpa using bV)];refine bB (rC (wpAny_runValue (Q9 a7u ?_)));unfold w1.«proto.unchain»;refine bB (jM b8 ou C7 ?_);rw[aZ (show(eS==eS)=a9 by decide)];refine eJ ?_;show b7 _ _ _ _ _ _;refine bB ?_;exact uv (a:=e) (x:=.ref e0) aF hd hsz (a1U h)
def a7v{x c:hX ae}{Q:Flow->ay->Prop}(qM:bm.contains (.type "BaseException")=a9)(bT:A.handled=B (.ref e0))(h:b7 (bp prog w) A x (λv dw=>∃e,v=.ref e/\e0≠e/\b7 (bp prog w) A c (λc dw=>c=.none/\∃cR vs mM ot,dw.heap.get? C=B (pS nm q C N bs bm tx sn sub ab col dd k0 cK bJ eh k5 newId)/\dw.heap.get? e=B cR/\cR.cls=.ref C/\cR.data=.fields vs/\vs.size=6/\vs[1]? =B .none/\dw.heap.get? e0=B mM/\mM.data=.fields ot/\ot[2]? =B .none/\∀h':bq,(∀b,b≠e->h'.get? b=dw.heap.get? b)->(∃dk,h'.get? e=B {cR with data:=.fields dk}/\dk.size=6/\dk[1]? =B .none/\dk[2]? =B (.ref e0))->E (.ref e) {dw with heap:=h'}) E dw) E s):b7 (bp prog w) A (yp env (B x) (B c)) Q E s:=by
 have tA:(dO C::bm).contains (.type "BaseException")=a9:=by rw[PC,qM,Pz]
 unfold yp;refine bB (mB h (λv dw jx=>?_) λ_ _ x=>x);obtain⟨e,rfl,bV,jx⟩:=jx;refine bB (rC (mB jx (λv j9 tb=>bB (eJ ?_)) λ_ _ x=>x));obtain⟨rfl,cR,vs,mM,ot,e5,aF,f9,hd,hsz,O,b8,ou,C7,fb⟩:=tb;obtain⟨aq,g,d,_,_⟩:=j9;have a7w:C≠e:=λz=>by rw[z,aF]at e5;cases e5;cases hd
 repeat (first|(with_reducible refine nR aF ?_;rw[f9])|with_reducible refine nR e5 ?_|(with_reducible refine Ji e5 ?_;rw[tA])|with_reducible refine uv aF hd (show 3<vs.size by lia) ?_|((fail_if_success (with_reducible show b7 _ _ (a1G _ 4 _) _ _ _));wp_step))
 have r0:=uh hd (·.setIfInBounds 3 eS);have Ux:=rz (kq (·.setIfInBounds 3 eS)) aF (AO r0);have a7x:∀b,b≠e->(aq.update e (kq (·.setIfInBounds 3 eS))).get? b=aq.get? b:=λb a0=>nN _ _ a0.symm;refine uv Ux r0 (by simp;lia) ?_;have zm:=uh r0 (·.setIfInBounds 4 (n3 a9));have x5:=rz (kq (·.setIfInBounds 4 (n3 a9))) Ux (AO zm);have Gz:∀b,b≠e->((aq.update e (kq (·.setIfInBounds 3 eS))).update e (kq (·.setIfInBounds 4 (n3 a9)))).get? b=aq.get? b:=λb a0=>(nN _ _ a0.symm).trans (a7x b a0);have Mp:(kq (·.setIfInBounds 4 (n3 a9)) (kq (·.setIfInBounds 3 eS) cR)).cls=.ref C:=by rw[Q0,Q0];exact f9
 have a7y:(kq (·.setIfInBounds 4 (n3 a9)) (kq (·.setIfInBounds 3 eS) cR))={cR with data:=.fields ((vs.setIfInBounds 3 eS).setIfInBounds 4 (n3 a9))}:=by obtain⟨c,dd,gG,_⟩:=cR;have hd:gG=.fields vs:=hd;subst hd;rfl
 generalize a7z:(aq.update e (kq (·.setIfInBounds 3 eS))).update e (kq (·.setIfInBounds 4 (n3 a9)))=v8 at x5 Gz ⊢;rw[a7y]at x5 Mp;have Uy:v8.get? C=B (pS nm q C N bs bm tx sn sub ab col dd k0 cK bJ eh k5 newId):=(Gz C a7w).trans e5;have a7A:v8.get? e0=B mM:=(Gz e0 bV).trans b8;have Mq:((vs.setIfInBounds 3 eS).setIfInBounds 4 (n3 a9))[1]? =B eS:=by rw[Px dQ,Px dQ];exact O
 have Mr:((vs.setIfInBounds 3 eS).setIfInBounds 4 (n3 a9)).size=6:=by simpa using hsz
 generalize (vs.setIfInBounds 3 eS).setIfInBounds 4 (n3 a9)=dk at x5 Mp Mq Mr;repeat (first|(with_reducible refine nR x5 ?_;rw[Mp])|with_reducible refine nR Uy ?_|(with_reducible refine Ji Uy ?_;rw[tA])|with_reducible refine jM x5 Y Mq ?_|wp_step)
 refine Uw bT bV x5 Y (by lia) a7A ou C7 (fb _ (λb a0=>(nN _ _ a0.symm).trans (Gz b a0)) ⟨dk.setIfInBounds 2 (.ref e0),?_,by simpa using Mr,?_,by simp[Mr]⟩)
 .exact rz (kq (·.setIfInBounds 2 (dO e0))) x5 (AO (uh (vs:=dk) Y _))
 rw[Px dQ];exact Mq
end
abbrev ov:sl ae:=[.type "ValueError",.type "Exception",.type "BaseException",.type "object"]
variable{mA:a8->Iw ae}{o:bH}
section
variable{N x:I}{name:a8}{v:ae}
def a7B{Uz:ae}(e5:h.get? C=B (pS nm q C N bs ov a9 sn sub ab col dd k0 cK bJ eh k5 newId))(ah:h.get? x=B o)(a7:o.cls=.ref C)(aQ:Q () ⟨h,g,d,t,os⟩):b7 M A (ak0 "BaseException.__getattribute__" ⟨[.ref x,Uz],[]⟩) Q E ⟨h,g,d,t,os⟩:=by
 have aA:builtinKind "BaseException.__getattribute__" =B .slot:=by decide+kernel
 have ax:splitId "BaseException.__getattribute__" =B ("BaseException","__getattribute__"):=by decide+kernel
 have tA:(dO C::ov).contains (.type "BaseException")=a9:=by rw[PC];simp[ov]
 have bf:=F.args_bexc_ga (.ref x) Uz;simp only[ak0,aA,ax];refine bB ?_;unfold a1B;repeat (first|(with_reducible refine nR ah ?_;rw[a7])|(with_reducible refine Ji e5 ?_;rw[tA])|wp_step)
 exact aQ
def a7C{tk:jL}{Q:Fin->ay->Prop}(e5:h.get? C=B (pS nm q C N bs ov a9 sn sub ab col dd k0 cK bJ eh k5 newId))(aH:h.Ns N fM)(lF:fM name=aa)(nt:pU (.type "ValueError") name=pure aa)(D:h.Inst x C mA)(bk:mA name=B v)(aQ:Q (.done (.ret v)) ⟨h,g,d,t,os⟩):b7 (bp prog w) A (w1.«object.__getattribute__» ⟨[.ref x,.str name tk],[]⟩) Q E ⟨h,g,d,t,os⟩:=by
 obtain⟨o,ah,a7,a7D,hd⟩:=D;obtain⟨_,a7E⟩|⟨a3,fL,bV,rX⟩:=hd
 .rw[a7E name]at bk;cases bk
 unfold w1.«object.__getattribute__»;repeat (first|(with_reducible refine nR ah ?_;rw[a7])|(with_reducible refine EE e5 aH F.excBase_ValueError.mroIs nt ?_;rw[lF])|wp_step)
 split
 .rename_i d6 lq
  exact absurd lq (a7D d6)
 unfold instanceDict;repeat (first|(with_reducible refine nR ah ?_;rw[a7])|with_reducible refine nR e5 ?_|wp_step)
 rw[fL];repeat (first|(with_reducible refine wpAny_nsGet rX.ns ?_;rw[bk])|wp_step)
 exact aQ
def a7F{Bm:Bool}{Q:ae->ay->Prop}(e5:h.get? C=B (pS nm q C N bs ov a9 sn sub ab col dd k0 cK bJ eh k5 newId))(aH:h.Ns N fM)(a7G:fM "__getattribute__" =aa)(a7H:fM "__getattr__" =aa)(lF:fM name=aa)(nt:pU (.type "ValueError") name=pure aa)(D:h.Inst x C mA)(bk:mA name=B v)(bT:handedOut v=pure v)(aQ:Q v ⟨h,g,d,t+1,os⟩):b7 (bp prog w) A (Jb (.ref x) name Bm) Q E ⟨h,g,d,t,os⟩:=by
 obtain⟨o,ah,a7,_⟩:=id D;have dx:=F.attrBase_ValueError.ga.bind (.ref x);have mN:(Bm&&onTheHeap (J6 "BaseException.__getattribute__"))=aK:=by cases Bm<;>rfl
 have hF:(J6 "BaseException.__getattribute__" ==J6 "object.__getattribute__")=aK:=by decide+kernel
 have ma:(onTheHeap (dO C)&&J6 "BaseException.__getattribute__" ==J6 "object.__getattribute__")=aK:=by rw[hF];rfl
 unfold Jb getAttrBy;repeat (any_goals (first|assumption|(with_reducible refine nR ah ?_;rw[a7])|(with_reducible refine EE e5 aH F.excBase_ValueError.mroIs F.attrBase_ValueError.ga.lookup ?_;rw[a7G])|(with_reducible refine EE e5 aH F.excBase_ValueError.mroIs F.attrBase_ValueError.noGetattr ?_;rw[a7H])|wp_step))
 refine ak1 F.attrBase_ValueError.ga.plain F.entry_bexc_ga (a7B e5 ah a7 (a7C e5 aH lF nt D bk ?_));show b7 _ _ (handedOut v) _ _ _;rw[bT];exact eJ aQ
end
open Builtin Builtin.ObjectAttr
section
variable{N x:I}{name:a8}{v:ae}
def a7I{gp o8 Ms:String}(sb:StoreFacts gp bm o8 Ms){tk:jL}{Q:Fin->ay->Prop}(e5:h.get? C=B (pS nm q C N bs bm a9 sn sub ab col dd k0 cK bJ eh k5 newId))(aH:h.Ns N fM)(lF:fM name=aa)(nt:pU (.type gp) name=pure aa)(ah:h.get? x=B o)(a7:o.cls=.ref C)(r1:o.data=.fields vs)(C8:o.dict=aa)(aQ:∀h' nD,h'.get? x=B {o with dict:=B h.objs.size}->h'.Ns1 h.objs.size (λy=>if y=name then B v else aa)->(∀b cG,b≠x->h.get? b=B cG->h'.get? b=B cG)->Q (.done (.ret .none)) ⟨h',g,d,nD,os⟩):b7 (bp prog w) A (w1.«object.__setattr__» ⟨[.ref x,.str name tk,v],[]⟩) Q E ⟨h,g,d,t,os⟩:=by
 have a7J:=sb.passes (.ref x);unfold w1.«object.__setattr__»;repeat (first|rw[refuse_eq]|(rw[refuseLoop_ref,a7J])|(with_reducible refine nR ah ?_;rw[a7])|with_reducible refine wpAny_mroOf_exc e5 ?_|(with_reducible refine EE e5 aH sb.mro nt ?_;rw[lF])|wp_step)
 rw[C8,aL (show¬_ by simp[typeHasDict])];rw[r1];have ma:(h.push {cls:=.type "dict",data:=.dict #[]}).get? x=B o:=ef _ ah;have GA:x≠h.objs.size:=h3 (dI ah);refine bB (wpAny_alloc' ?_);refine bB (wpAny_update' ma (eJ ?_));have hF:=rz (λo:bH=>{o with dict:=B h.objs.size}) ma (by obtain⟨_,_,a7K,_⟩:=o;have r1:a7K=.fields vs:=r1;subst r1;rfl);have GB:((h.push {cls:=.type "dict",data:=.dict #[]}).update x λo:bH=>{o with dict:=B h.objs.size}).get? h.objs.size=B {cls:=.type "dict",data:=.dict #[]}:=
  (ajA _ _ _ _ GA.symm).trans (Heap.get?_push_at Y Y)
 have BW:∀b cG,b≠x->h.get? b=B cG->((h.push {cls:=.type "dict",data:=.dict #[]}).update x λo:bH=>{o with dict:=B h.objs.size}).get? b=B cG:=λb cG a0 e=>(ajA _ _ _ _ a0).trans (ef _ e);generalize a7z:((h.push {cls:=.type "dict",data:=.dict #[]}).update x λo:bH=>{o with dict:=B h.objs.size})=a5 at hF GB BW;have uW:a5.Ns h.objs.size (λ_=>aa):=⟨_,#[],_,GB,Y,λe aF=>absurd aF (by simp),λ_=>rfl⟩;show b7 _ _ (storeInDict h.objs.size (.str name tk) name v) _ _ _;unfold storeInDict newKeyGuard;rw[show({cls:=o.cls,dict:=B h.objs.size,data:=o.data,slots:=o.slots}:bH)={o with dict:=B h.objs.size}from Y]at hF;refine bB (eJ (bB ?_));refine wpAny_nsSet1 (s:=⟨a5,g,d,t,os⟩) (ajy uW) λh' EU ax=>?_;obtain⟨_,_,_,K7,K8,K9⟩:=EU.count (ajW name v Within.nil);refine bB (akp K7 (by rw[K8];exact aka (dE K9 (by rw[fX,uc,Qc];lia))) ?_)
 wp_walk
 exact aQ h' _ ((ax.2 x GA).trans hF) EU λb cG a0 e=>(ax.2 b (h3 (dI e))).trans (BW b cG a0 e)
def a7L{gp o8 Ms:String}(sb:StoreFacts gp bm o8 Ms)(e5:h.get? C=B (pS nm q C N bs bm a9 sn sub ab col dd k0 cK bJ eh k5 newId))(aH:h.Ns N fM)(rX:fM "__setattr__" =aa)(lF:fM name=aa)(nt:pU (.type gp) name=pure aa)(ah:h.get? x=B o)(a7:o.cls=.ref C)(r1:o.data=.fields vs)(C8:o.dict=aa)(aQ:∀h' nD,h'.get? x=B {o with dict:=B h.objs.size}->h'.Ns1 h.objs.size (λy=>if y=name then B v else aa)->(∀b cG,b≠x->h.get? b=B cG->h'.get? b=B cG)->Q () ⟨h',g,d,nD,os⟩):b7 (bp prog w) A (AX (.ref x) name v) Q E ⟨h,g,d,t,os⟩:=by
 have dx:=sb.slot.bind (.ref x);unfold AX callSpecial? specialOf;repeat (any_goals (first|assumption|(with_reducible refine nR ah ?_;rw[a7])|(with_reducible refine EE e5 aH sb.mro sb.slot.lookup ?_;rw[rX])|wp_step))
 refine ak1 sb.slot.plain sb.entry (wpAny_check_sa sb e5 ah a7 (a7I sb e5 aH lF nt ah a7 r1 C8 λh' nD a b c=>?_));repeat (any_goals (first|assumption|wp_step))
 exact aQ h' nD a b c
def a7M(e5:h.get? C=B (pS nm q C N bs ov a9 sn sub ab col dd k0 cK bJ eh k5 newId))(aH:h.Ns N fM)(rX:fM "__setattr__" =aa)(lF:fM name=aa)(nt:pU (.type "ValueError") name=pure aa)(ah:h.get? x=B o)(a7:o.cls=.ref C)(r1:o.data=.fields vs)(C8:o.dict=aa)(aQ:∀h' nD,h'.get? x=B {o with dict:=B h.objs.size}->h'.Ns1 h.objs.size (λy=>if y=name then B v else aa)->(∀b cG,b≠x->h.get? b=B cG->h'.get? b=B cG)->Q () ⟨h',g,d,nD,os⟩):b7 (bp prog w) A (AX (.ref x) name v) Q E ⟨h,g,d,t,os⟩:=a7L F.store_ValueError e5 aH rX lF nt ah a7 r1 C8 aQ
def a7N{a3:I}{ns:sl a8}(e5:h.get? C=B (pS nm q C N bs ov a9 sn sub ab col dd k0 cK bJ eh k5 newId))(aH:h.Ns N fM)(rX:fM "__setattr__" =aa)(lF:fM name=aa)(nt:pU (.type "ValueError") name=pure aa)(ah:h.get? x=B o)(a7:o.cls=.ref C)(r1:o.data=.fields vs)(fL:o.dict=B a3)(bV:a3≠x)(yY:h.Ns1 a3 mA)(hw:Within mA ns)(aR:ns.length<=cN)(aQ:∀h' nD,h'.get? x=B o->h'.Ns1 a3 (λy=>if y=name then B v else mA y)->(∀b cG,b≠a3->h.get? b=B cG->h'.get? b=B cG)->Q () ⟨h',g,d,nD,os⟩):b7 (bp prog w) A (AX (.ref x) name v) Q E ⟨h,g,d,t,os⟩:=by
 have a7O:x≠C:=λz=>by rw[z,e5]at ah;cases ah;cases r1
 refine store_attr F.store_ValueError e5 aH rX lF nt a7O ⟨o,ah,a7,(λc e=>by rw[r1]at e;cases e),.inr ⟨a3,fL,bV,yY⟩⟩ (λh' nD et cK bJ=>?_) hw aR;obtain⟨o1,aO,eO,p2,s1,eM⟩:=bJ o ah;have ky:o1=o:=by obtain⟨_,_,_,_⟩:=o1;obtain⟨_,_,_,_⟩:=o;have:=eM a3 fL;simp only at eO p2 s1 this fL;rw[eO,p2,s1,this,fL]
 subst ky;obtain⟨_,aT,_,_,dT⟩:=et;rw[aO]at aT;cases aT;obtain⟨z,_⟩|⟨hb,z,_,cS⟩:=dT
 .rw[fL]at z;cases z
 rw[fL]at z;cases z;refine aQ h' nD aO cS λb cG a0 e=>?_;by_cases UA:b=x
 .subst UA;rw[ah]at e;cases e;exact aO
 exact cK b cG UA (λ_ _ bw cy=>by rw[ah]at bw;cases bw;rw[fL]at cy;cases cy;exact a0) e
end
open PySem.Spec PyProof.Rows L2
def dW(e C:I)(a3:Iw I)(m:Nat):dA:=.ext λh=>∃cR vs,h.get? e=B cR/\cR.cls=.ref C/\cR.dict=a3/\cR.data=.fields vs/\vs.size=6/\(m=0->vs[1]? =B .none)/\(m<=1->vs[2]? =B .none)
def gs(a3:I)(fs:sl (a8×V)):dA:=.ext λh=>fs.length<=1000/\∃mA,h.Ns1 a3 mA/\(∀f,j_ (fs.lookup f) (mA f))/\Er mA (fs.map (·.1))
variable{P:bP}{H:ag}{m:Nat}
section
variable{a3:I}{od:Iw I}{fs:sl (a8×V)}
def zo(x:∃cR vs,h.get? e=B cR/\cR.cls=.ref C/\cR.dict=od/\cR.data=.fields vs/\vs.size=6/\(m=0->vs[1]? =B .none)/\(m<=1->vs[2]? =B .none)):hj P w H h e (dW e C od m):=
 ⟨x,let⟨cR,_,q,_⟩:=x;⟨cR,q⟩,λ_ _ ⟨cR,vs,q,r⟩ k=>⟨cR,vs,k cR q,r⟩⟩
def UB(ar:fs.length<=1000)(x:∃mA,h.Ns1 a3 mA/\(∀f,j_ (fs.lookup f) (mA f))/\Er mA (fs.map (·.1))):hj P w H h a3 (gs a3 fs):=
 ⟨⟨ar,x⟩,let⟨_,⟨o,_,_,q,_⟩,_⟩:=x;⟨o,q⟩,λ_ _ ⟨l,mA,n,r⟩ k=>⟨l,mA,n.at k,r⟩⟩
def x6(x:g6 P w H h)(q:H e=B (dW e C od m)):∃cR vs,h.get? e=B cR/\cR.cls=.ref C/\cR.dict=od/\cR.data=.fields vs/\vs.size=6/\(m=0->vs[1]? =B .none)/\(m<=1->vs[2]? =B .none):=(x e _ q).1
def UC(x:g6 P w H h)(q:H a3=B (gs a3 fs)):fs.length<=1000/\∃mA,h.Ns1 a3 mA/\(∀f,j_ (fs.lookup f) (mA f))/\Er mA (fs.map (·.1)):=(x a3 _ q).1
end
inductive mb (u:Nat) (P:bP) (w:bG) (outer:sl eC) (H:ag) (s:ay) (E:cW) (iS:ae) (a_:ay):Prop
 |mk e C a3 m T e4 H':iS=.ref e->a_.os=s.os->y9 a_.gens->j7 (mF outer) [] H H' s.heap a_.heap->g6 P w H' a_.heap->H' e=B (dW e C (B a3) m)->(1<=m/\m<=u)->H' T=aa->hE s⁻¹ e C (B a3) e4 (B T) .none a_.heap->E (.ref C) (B a3) H'->mb u P w outer H s E iS a_
abbrev pE(P:bP)(w:bG):ku:=mb 1 P w
def mO(u:Nat)(X:bA)(E:cW):Prop:=∀(a4:sl (I×bH))(G:L2.St)(H:ag)(s:ay)(e C a3:I)(m:Nat)(e4 dG:ae)(T:Iw I),Inv X a4 G H s->H e=B (dW e C (B a3) m)->(1<=m/\m<=u)->(∀t,T=B t->H t=aa/\∀p∈X.c_++a4,p.1≠t)->hE X.gz⁻¹ e C (B a3) e4 T dG s.heap->(dG=.none∨(T.isSome=a9/\dG=iN X.env.locals))->E (.ref C) (B a3) H->X.bL (.ref e) s
variable{X:bA}{a4:sl (I×bH)}{G:L2.St}{h':bq}
section
variable{a3:I}
def Inv.zp{m':Nat}{od:Iw I}(D:Inv X a4 G H s)(aF:rI (H e))(kH:kG (mF X.stack) e ts s.heap h')(C9:∀t∈ts,H t=aa/\X.gz⁻¹<=t/\t≠X.env.locals/\(∀x c,X.env.cells.lookup x=B c->c≠t)/\∀p∈X.c_++a4,p.1≠t)(aU:hj X.prog X.w (av H e (dW e C od m')) h' e (dW e C od m')):Inv X a4 G (av H e (dW e C od m')) {s with heap:=h'}:=by
 have bV:∀{b:I},H b=aa->b≠e:=fun{b} a0 z=>by rw[z]at a0;rw[a0]at aF;exact aF
 obtain⟨cR,tB⟩:∃h5,h'.get? e=B h5:=let⟨cR,_,q,_⟩:=aU.1;⟨cR,q⟩
 have j6:∀{b:I}{u:dA},H b=B u->¬rI (B u)->b≠e:=fun{b u} a0 hm z=>by rw[z]at a0;rw[a0]at aF;exact hm aF
 have UD:∀{b:I}{u:dA},H b=B u->b∉ts:=fun{b u} a0 hm=>by rw[(C9 b hm).1]at a0;cases a0
 have ER:∀{b:I}{u:dA},H b=B u->b∉mF X.stack:=fun{b u} a0 hm=>by rw[D.JD b hm]at a0;cases a0
 refine D.call (g':=s.gens) (d':=s.drawn) (t':=s.toks) (ch:=ts) ⟨λb o a0 n lU r2=>kH.keep b o a0 lU (bV n) r2,λb o a0 n _ r2=>kH.slot b o a0 (bV n) r2,λb o a0 n _=>by rw[aM (bV n)];exact n,λb o a0 r2=>?_,
  λb xs a0=>by rw[aM (j6 a0 (λz=>z))];exact a0,λb o u a0=>by rw[aM (j6 a0 (λz=>z))];exact a0,λb _ a0=>⟨#[],by rw[aM (j6 a0 (λz=>z)),a0];simp⟩⟩ (λb u a0=>?_) D.bare
  (λb a0=>⟨.inr (C9 b a0).2.1,(C9 b a0).2.2.1,(C9 b a0).2.2.2.1,(C9 b a0).2.2.2.2⟩)
 .by_cases z:b=e
  .subst z;exact⟨cR,tB⟩
  obtain⟨_,q⟩:=kH.slot b o a0 z r2;exact⟨_,q⟩
 by_cases z:b=e
 .subst z;rw[b3]at a0;cases a0;exact aU
 rw[aM z]at a0;refine(D.bQ b u a0).rH (λc v a7 q=>?_) (λc q=>?_) λc xs q=>?_
 .obtain a7|a7:=a7
  .subst a7;exact kH.keep c v q (ER a0) z (UD a0)
  exact kH.keep c v q (ER a7) (j6 a7 (λz=>z)) (UD a7)
 .rw[aM (j6 q (λz=>z))];exact q
 rw[aM (j6 q (λz=>z))];exact q
def zq(q:H e=B (dW e C (B a3) m)):rI (H e):=by rw[q];exact trivial
def GC{o:dA}(q:H e=B o):av H e o=H:=by
 funext b;unfold av;by_cases z:b=e
 .rw[aZ z,z,q]
 rw[aL z]
def UE(D:Inv X a4 G H s)(q:H e=B (dW e C (B a3) 0)):hE X.gz⁻¹ e C (B a3) .none aa .none s.heap:=by obtain⟨cR,vs,dr,dy,eB,fl,hr,ij,iH⟩:=x6 D.bQ q;exact⟨⟨cR,vs,dr,dy,eB,fl,hr,ij Y,iH (by lia)⟩,λt z=>by cases z⟩
def GD(x:hE n e C (B a3) e4 T dG h)(hm:1<=m)(a7:m<=1->e4=.none):hj P w H h e (dW e C (B a3) m):=by obtain⟨cR,vs,dr,dy,eB,fl,hr,_,iH⟩:=x.obj;exact zo ⟨cR,vs,dr,dy,eB,fl,hr,λz=>absurd z (by lia),λz=>by rw[iH,a7 z]⟩
def Mt(D:Inv X a4 G H s)(q:H e=B (dW e C (B a3) m))(x:hE n e C (B a3) e4 T dG s.heap)(hm:m<=1):e4=.none:=by obtain⟨_,_,dr,_,_,fl,_,_,iH⟩:=x6 D.bQ q;obtain⟨_,_,b1,_,_,w_,_,_,GF⟩:=x.obj;rw[dr]at b1;cases b1;rw[fl]at w_;cases w_;rw[iH hm]at GF;exact(h4 GF).symm
def GG(D:Inv X a4 G H s)(x:hE X.gz⁻¹ e C (B a3) e4 T dG s.heap)(dq:∀t,T=B t->H t=aa/\∀p∈X.c_++a4,p.1≠t):∀t∈T.toList,H t=aa/\X.gz⁻¹<=t/\t≠X.env.locals/\(∀x c,X.env.cells.lookup x=B c->c≠t)/\∀p∈X.c_++a4,p.1≠t:=λt b9=>by
 have b9:T=B t:=by simpa using b9
 obtain⟨dr,_,_,_,eB,fl,_⟩:=x.cf t b9;obtain⟨b1,b2⟩:=dq t b9;refine⟨b1,dr,λz=>?_,λy c a7 z=>?_,b2⟩
 .obtain⟨_,⟨o,_,_,aU,hd,_⟩,_⟩:=D.loc;rw[<-z,eB]at aU;cases aU;rw[fl]at hd;cases hd
 obtain⟨v,o,aU,hd⟩:=D.cell y c a7;rw[z,eB]at aU;cases aU;rw[fl]at hd;cases hd
def a7T{pF:ae->ay->Prop}(fA:X.stack=X.env::X.outer)(hf:X.env.frame=B X.env.locals)(D:Inv X a4 G H s)(q:H e=B (dW e C (B a3) m))(hm:1<=m)(dq:∀t,T=B t->H t=aa/\∀p∈X.c_++a4,p.1≠t)(x:hE X.gz⁻¹ e C (B a3) e4 T dG s.heap)(pG:dG=.none∨(T.isSome=a9/\dG=iN X.env.locals))(h:∀h' jV,Inv X a4 G H {s with heap:=h'}->H jV=aa->hE X.gz⁻¹ e C (B a3) e4 (B jV) .none h'->Q () {s with heap:=h'}):b7 (bp X.prog X.w) X.A (Ex X.env (.ref e)) Q pF s:=by
 have jQ:X.A.frames=B (X.env::X.outer):=by rw[<-fA];exact D.ok.frames
 have ar:s.heap.FunFrames X.base (X.env::X.outer):=by rw[<-fA];exact D.stack
 have GH:=GG D x dq;have z2:=λz=>Mt D q x z;obtain rfl|⟨ax,rfl⟩:=pG
 .refine a7o jQ ar hf x D.lp λh' jV eT r' kH=>?_;have et:=Inv.zp (m':=m) (od:=B a3) (C:=C) D (zq q) (by unfold mF;rw[fA];exact kH) GH (GD eT hm z2);rw[GC q]at et;exact h h' jV et (D.bQ.fresh r') eT
 obtain⟨t,rfl⟩:=PQ.mp ax;refine leave_held hf x λh' eT kH=>?_;have et:=Inv.zp (m':=m) (od:=B a3) (C:=C) D (zq q) (kH.mono (λ_ z=>nomatch z) (λ_ z=>z)) GH (GD eT hm z2);rw[GC q]at et;exact h h' t et (dq t Y).1 eT
end
variable{K:bb}{a6:a8->Iw ae}{N:sl a8}{u:Nat}
def d_{bX:a8}{scope:i8}{d6:ae}{E:cW}:mO u (pd (mb u P w) P w K a6 base N bX scope f d6 A outer s H E) E:=by intro _ G ai _ e C a3 m e4 _ T D q hm dq x pG fb;refine a7T (X:=pd (mb u P w) P w K a6 base N bX scope f d6 A outer s H E) Y Y D q hm.1 dq x pG λ_ jV et Ca eT=>?_;exact⟨e,C,a3,m,jV,e4,ai,Y,et.os,et.bare,et.base,et.bQ,q,hm,Ca,eT,fb⟩
section
variable{E:cW}
def mO.passes(c:mO u X E)(bx:t<=u:=by decide):l_ (mb t X.prog X.w) X E:=by intro a4 G H s _ a_ D h;obtain⟨e,C,a3,m,T,e4,H',rfl,aU,aI,un,bQ,q,hm,Ca,x,fb⟩:=h;have et:Inv X a4 G H' a_:=D.EW (ch:=[]) aU un bQ aI (λ_ z=>nomatch z);refine c a4 G H' a_ e C a3 m e4 .none (B T) et q ⟨hm.1,dE hm.2 bx⟩ (λt z=>?_) (x.mono D.lp) (.inl Y) fb;cases z;refine⟨Ca,λp aq z=>?_⟩;have a:=(x.cf T Y).1;have b:=dI (D.pin p aq).1;rw[z]at b;exact absurd b (AL.mpr a)
end
variable{x:a8}{fd:kp}{aJ:sl a8}{k:Nat}{sp:bN}
def _root_.L2.oi.kI{bX:a8}{st:bD}(F:oi K x bX st f fd)(S:b' N aJ (bh st))(len:∀vs H Q E,sp vs H Q E->vs.length=aJ.length)(s_:∀(bU:ae)(A:da)(outer:sl eC)(s:ay)(H:ag)(vs:sl V)(Q:c2)(E:cW),dp k (A.deeper (fH bX (bh st) s⁻¹ f bU))->sp vs H Q E->∃t,ix (pd (mb u P w) P w K a6 base N bX (bh st) f bU A outer s H E) (jR st) t/\t {c8:=λ_ H'=>Q .bR H',iw:=Q} (start N vs) H):jP P w K a6 base (mb u P w) (k+1) f fd aJ sp:=by obtain⟨_,_,_,_,_,_,bU,_,_,rfl,lk,lq⟩:=F.ex;exact Rw lk lq S len λA outer s H vs Q E ak ly=>s_ bU A outer s H vs Q E ak ly
structure kc (K:bb) (C f:I) (cT:sl a8):Prop where
 ex:∃nm q N bs sn sub ab col dd k0 cK bJ eh k5 fM,K.lookup C=B (pS nm q C N bs ov a9 sn sub ab col dd k0 cK bJ eh k5 "ValueError.__new__")/\(∀h,K.In h->h.Ns N fM)/\fM "__init__" =B (.ref f)/\
  fM "__setattr__" =aa/\fM "__getattribute__" =aa/\fM "__getattr__" =aa/\∀a∈cT,fM a=aa
 fn:∃of,K.lookup f=B of/\of.cls=.type "function"
 at_:∀a∈cT,pU (.type "ValueError") a=pure aa
 dK:nQ K (.ref C)=a9
variable{cT:sl a8}{p pos:Pos}{b5:sl bO}{b_:bZ}
section
variable{CX:ku}{E:cW}{e:bO}{t:gA}
def a7U{Q:c2}{vs:sl V}(ee:kc X.K C f cT)(F:jP X.prog X.w X.K X.a6 X.base CX k f fd aJ sp)(ak:dp (k+1) X.A)(a0:Binds X.K fd aJ [])(ah:l_ CX X E)(D:Inv X a4 G H s)(r:cC vs us)(aR:vs.length<=cN)(h:∀a,H a=aa->sp (.ref a::vs) (av H a (dW a C aa 0)) (λv au=>v=.bR/\Q (.ref a) au) E):b7 (bp X.prog X.w) X.A (n4 (.ref C) us) (h_ X a4 G Q) X.bL s:=by
 obtain⟨_,q,N,_,_,_,_,_,_,_,_,_,_,_,_,e5,dF,hi,_,_,_,_⟩:=ee.ex;obtain⟨_,hf,x4⟩:=ee.fn;have hY:=D.gX;obtain⟨aq,g,d,tk,os⟩:=s;have aQ:=h (aq.objs.size+1) (D.bQ.fresh (sH _));have c9:∀b u,aq.get? b=B u->((aq.push (nC us)).push (lE C aq.objs.size)).get? b=B u:=λb u z=>ef _ (ef _ z);have C6:((aq.push (nC us)).push (lE C aq.objs.size)).get? (aq.objs.size+1)=B (lE C aq.objs.size):=by heap_get
 have cM:Inv X a4 G (av H (aq.objs.size+1) (dW (aq.objs.size+1) C aa 0)) ⟨(aq.push (nC us)).push (lE C aq.objs.size),g,d,tk,os⟩:=
  D.laid (a:=aq.objs.size+1) (o:=dW (aq.objs.size+1) C aa 0) (t':=tk) c9 (sH _) (zo ⟨_,_,C6,Y,Y,Y,Y,λ_=>rfl,λ_=>rfl⟩)
 have dT:cC (V.ref (aq.objs.size+1)::vs) (dO (aq.objs.size+1)::us):=.cons Y r;have ar:(dO (aq.objs.size+1)::us++[]).length=aJ.length:=by have z:=dT.length;rw[F.len _ _ _ _ aQ]at z;rw[hU];exact z.symm
 have wU:=a0 ⟨(aq.push (nC us)).push (lE C aq.objs.size),g,d,tk,os⟩ (dO (aq.objs.size+1)::us) cM.gX ar;rw[hU]at wU;refine A_ (Uv aju (hY _ _ e5) (dF _ hY) hi (hY _ _ hf) x4 (w8 (F.run _ X.stack _ _ ⟨dO (aq.objs.size+1)::us,[]⟩ (dO (aq.objs.size+1)::us) _ _ E (ak.make C us []) (cM.yT.make C us []) wU dT aQ) λiQ a_ kv=>?_) (by rw[<-r.length];exact aR));cases iQ with
 |error iS=>exact ah a4 G _ _ iS a_ cM kv
 |ok dG=>cases dG with|ret u=>obtain⟨v,H',dJ,cB,iS,h9⟩:=cM.after kv;subst iS;exact⟨cB,⟨V.ref (aq.objs.size+1),H',dJ,Y,h9⟩⟩|next=>exact hu kv|brk=>exact hu kv|cont=>exact hu kv
def x7(C:I)(sp:bN)(E:cW)(t:gA):bZ:=λG H Q=>t G H λvs ai=>vs.length<=cN/\∀a,ai a=aa->sp (.ref a::vs) (av ai a (dW a C aa 0)) (λv au=>v=.bR/\Q (.ref a) au) E
def a7V(ee:kc X.K C f cT)(F:jP X.prog X.w X.K X.a6 X.base CX k f fd aJ sp)(ak:dp (k+1) X.A)(aI:hJ X x)(hm:X.a6 x=B (.ref C))(a0:Binds X.K fd aJ [])(ah:l_ CX X E)(bf:hI X (e::b5) t)(gj:kV x:=by decide)(aF:o9 X e b5:=by rfl)(eN:lx X pos b5:=by rfl):
  bS X (.Call (.Name x p) (e::b5) [] pos) (x7 C sp E t):=by
 intro a4 s G H Q D h;refine wa (o' D aI hm ?_ gj);exact ye (h₀:=X.base) D.ok.mod.hY ee.dK (bW (bf pos a4 s G H _ D h) λ_ _ ⟨_,_,aP,r,q⟩=>⟨aP.gX,a7U ee F ak a0 ah aP r q.1 q.2⟩) aF eN
inductive GI (K:bb) (E:cW) (x:V) (ai:ag):Prop
 |mk a C a3 f cT:x=.ref a->ai a=B (dW a C (B a3) 0)->kc K C f cT->E (.ref C) (B a3) (av ai a (dW a C (B a3) 1))->GI K E x ai
def UG(K:bb)(b_:bZ)(E:cW):ez:=λ_ G H=>b_ G H (GI K E)
def x8(aF:bS X e b_)(a7:X.calm=a9)(c:mO u X E)(bx:1<=u:=by decide):jr X (.Raise (B e) aa pos) (UG X.K b_ E):=by
 intro a4 s G H af D h;rw[ajX];refine bB (rE ?_);have key:b7 (bp X.prog X.w) X.A (eval e X.env) (λv s1=>∃a C a3 f cT ai,v=.ref a/\Inv X a4 G ai s1/\ai a=B (dW a C (B a3) 0)/\kc X.K C f cT/\E (.ref C) (B a3) (av ai a (dW a C (B a3) 1))) X.bL s:=by refine bW (aF a4 s G H _ D h) λv s1 ⟨y,ai,aP,cD,a,C,a3,f,cT,ph,q,qd,fb⟩=>?_;subst ph;exact⟨a,C,a3,f,cT,ai,cD,aP,q,qd,fb⟩
 unfold yp;refine bB (bB (bW key λv s1 ⟨a,C,a3,f,cT,ai,iS,aP,q,qd,fb⟩=>bB (rE (eJ ?_))));subst iS;obtain⟨nm,iU,N,bs,sn,sub,ab,col,dd,k0,cK,bJ,eh,k5,_,e5,_,_⟩:=qd.ex;have kd:=UE aP q;obtain⟨cR,vs,dr,dy,eB,fl,hr,ij,iH⟩:=kd.obj;have cM:=Inv.zp (ts:=[]) (m':=1) (od:=B a3) (C:=C) aP (zq q) (kG.refl _ _ _ _) (λ_ z=>nomatch z) (zo ⟨cR,vs,dr,dy,eB,fl,hr,λz=>(nomatch z),λ_=>iH⟩);have fin:=c a4 G _ _ a C a3 1 .none .none aa cM b3 ⟨cP _,bx⟩ (λt z=>nomatch z) kd (.inl Y) fb;have Cb:=a7t (M:=bp X.prog X.w) (A:=X.A) (E:=X.bL) (env:=X.env) (s:=s1) (x:=pure (.ref a)) (Q:=nc X a4 af) (nm:=nm) (q:=iU) (C:=C) (N:=N) (bs:=bs) (bm:=ov) (tx:=a9) (sn:=sn) (sub:=sub) (ab:=ab) (col:=col) (dd:=dd) (k0:=k0) (cK:=cK) (bJ:=bJ) (eh:=eh) (k5:=k5) (newId:="ValueError.__new__") Y (aP.ok.hd a7)
  (eJ ⟨a,cR,vs,Y,aP.gX _ _ e5,dr,dy,fl,ij,fin⟩)
 unfold yp at Cb;exact Cb
end
variable{lu:Pos}
section
variable{E:cW}{o lr e:bO}{f:a8}{ja:Pos}{c1 k4:bZ}
inductive UH (K:bb) (f:a8) (af:Ends) (G:L2.St) (y:V) (x:V) (au:ag):Prop
  |mk a C gH cT:x=.ref a->kc K C gH cT->f∈cT->(((au a=B (dW a C aa 0)/\∀a3,au a3=aa->a3≠a->af.c8 G (av (av au a3 (gs a3 [(f,y)])) a (dW a C (B a3) 0)))∨
   (∃a3 fs,au a=B (dW a C (B a3) 0)/\au a3=B (gs a3 fs)/\a3≠a/\fs.length<1000/\af.c8 G (av au a3 (gs a3 (gN f y fs))))))->UH K f af G y x au
def a7W(K:bb)(c1 k4:bZ)(f:a8):ez:=λaf G H=>k4 G H λy ai=>c1 G ai (UH K f af G y)
def UI{fs:sl (a8×V)}{y:V}{u:ae}(ak:∀g,j_ (fs.lookup g) (mA g))(r:RelV y u):∀g,j_ ((gN f y fs).lookup g) (if g=f then B u else mA g):=λg=>by
 rw[Ka];by_cases z:g=f
 .rw[aZ z,aZ z];exact r
 rw[aL z,aL z];exact ak g
def a7X{a gH:I}{y:V}{u:ae}{a7Y:ae->ay->Prop}(D:Inv X a4 G H s)(ee:kc X.K C gH cT)(hf:f∈cT)(r:RelV y u)(h:(H a=B (dW a C aa 0)/\∀a3,H a3=aa->a3≠a->∀a_,Inv X a4 G (av (av H a3 (gs a3 [(f,y)])) a (dW a C (B a3) 0)) a_->Q () a_)∨(∃a3 fs,H a=B (dW a C (B a3) 0)/\H a3=B (gs a3 fs)/\a3≠a/\fs.length<1000/\∀a_,Inv X a4 G (av H a3 (gs a3 (gN f y fs))) a_->Q () a_)):b7 (bp X.prog X.w) A (AX (.ref a) f u) Q a7Y s:=by
 obtain⟨_,q,N,_,_,_,_,_,_,_,cK,bJ,_,_,_,e5,dF,_,zr,_,_,ke⟩:=ee.ex;have hY:=D.gX;obtain⟨aq,g,d,_,_⟩:=s;obtain⟨mc,h⟩|⟨a3,fs,mc,zu,bV,ar,h⟩:=h
 .obtain⟨cR,vs,dr,dy,eB,fl,hr,ij,iH⟩:=x6 D.bQ mc;refine a7M (hY _ _ e5) (dF _ hY) zr (ke f hf) (ee.at_ f hf) dr dy fl eB λh' nD aO e3 cK=>?_;have jQ:H aq.objs.size=aa:=D.bQ.fresh (cP _);have lF:aq.objs.size≠a:=y8 (dI dr);refine h aq.objs.size jQ lF _ ?_;have di:a≠X.env.locals:=λz=>by rw[z,D.free]at mc;cases mc
  have j6:rI (H a):=by rw[mc];exact trivial
  have other:∀{b:I}{u:dA},H b=B u->¬rI (B u)->b≠a:=fun{b u} a0 hm z=>by rw[z]at a0;rw[a0]at j6;exact hm j6
  have a7Z:∀{b:I}{o:bH},aq.get? b=B o->b≠aq.objs.size:=λe=>h3 (dI e);have un:j7 X.fs [] H (av (av H aq.objs.size (gs aq.objs.size [(f,y)])) a (dW a C (B aq.objs.size) 0)) aq h':=by
   have ne:∀{b:I},H b=aa->b≠a:=fun{b} a0 z=>by rw[z,mc]at a0;cases a0
   refine⟨λb o e n _ _=>cK b o (ne n) e,λb o e n _ _=>⟨o.slots,cK b o (ne n) e⟩,λb o e n _=>by rw[aM (ne n),aM (a7Z e)];exact n,λb o e _=>?_,λb xs e=>?_,λb o u e=>?_,λb _ e=>⟨#[],?_⟩⟩
   .by_cases z:b=a
    .subst z;exact⟨_,aO⟩
    exact⟨o,cK b o z e⟩
   .rw[aM (other e (λz=>z)),aM (cV e jQ)];exact e
   .rw[aM (other e (λz=>z)),aM (cV e jQ)];exact e
   rw[aM (other e (λz=>z)),aM (cV e jQ),e];simp
  refine D.un (t':=nD) (h':=h') un λb u a0=>?_;by_cases z:b=a
  .subst z;rw[b3]at a0;cases a0;exact zo ⟨_,vs,aO,dy,Y,fl,hr,ij,iH⟩
  rw[aM z]at a0;by_cases g8:b=aq.objs.size
  .subst g8;rw[b3]at a0;cases a0;refine UB (by show 1<=1000;decide) ⟨_,e3,λg=>?_,?_⟩
   .have:=UI (f:=f) (fs:=[]) (mA:=λ_=>aa) (λ_=>trivial) r g;exact this
   intro g aI;by_cases va:g=f
   .rw[va];simp
   simp[va]at aI
  rw[aM g8]at a0;refine(D.bQ b u a0).rH (λc v a7 iU=>cK c v ?_ iU) (λc iU=>?_) λc xs iU=>?_
  .obtain a7|a7:=a7
   .rw[a7];exact z
   exact other a7 (λz=>z)
  .rw[aM (other iU (λz=>z)),aM (cV iU jQ)];exact iU
  rw[aM (other iU (λz=>z)),aM (cV iU jQ)];exact iU
 obtain⟨cR,vs,dr,dy,eB,fl,hr,ij,iH⟩:=x6 D.bQ mc;obtain⟨gu,mA,e3,cx,lV⟩:=UC D.bQ zu;refine a7N (hY _ _ e5) (dF _ hY) zr (ke f hf) (ee.at_ f hf) dr dy fl eB bV e3 lV (by rw[cX];exact dE gu dQ) λh' nD aO cS bJ=>?_;refine h _ (D.write (x:=a3) (e:=a3) (t':=nD) (by rw[zu];exact trivial) (.inl Y) bJ (let⟨o,_,_,z,_⟩:=cS;⟨o,z⟩) (UB (dE (Kb f y fs) ar) ⟨_,cS,UI cx r,?_⟩));intro g aI;by_cases va:g=f
 .rw[va];exact(Bn f y fs).1
 have aI:(if g=f then B u else mA g)≠aa:=aI;rw[aL va]at aI;exact(Bn f y fs).2 g (lV g aI)
def Cc(bf:bS X o c1)(bk:bS X lr k4)(ax:sN lr (B (.Attribute o f ja)) pos.line X.env=pure aK):jr X (.Assign [.Attribute o f ja] lr pos) (a7W X.K c1 k4 f):=by
 intro a4 s G H _ D h;refine akb (bW (bk a4 s G H _ D h) λu s1 ⟨y,ai,aP,cD,q⟩=>bW (bf a4 s1 G ai _ aP q) λfP _ ⟨x,_,cM,ct,a,C,_,_,ex,qd,hf,cy⟩=>?_) ax;subst ex;obtain rfl:fP=dO a:=ct;refine a7X cM qd hf cD ?_;obtain⟨mc,k⟩|⟨a3,fs,mc,zu,aH,ar,k⟩:=cy
 .exact .inl ⟨mc,λa3 e3 cS bE dJ=>⟨G,_,dJ,k a3 e3 cS⟩⟩
 exact .inr ⟨a3,fs,mc,zu,aH,ar,λbE dJ=>⟨G,_,dJ,k⟩⟩
inductive UK (K:bb) (f:a8) (Q:c2) (x:V) (ai:ag):Prop
 |mk a C gH cT a3 m fs v:x=.ref a->kc K C gH cT->f∈cT->ai a=B (dW a C (B a3) m)->ai a3=B (gs a3 fs)->a3≠a->fs.lookup f=B v->Q v ai->UK K f Q x ai
def x9(K:bb)(c1:bZ)(f:a8):bZ:=λG H Q=>c1 G H (UK K f Q)
def zv(aF:bS X e c1)(a0:yi e f X.env (eval e X.env)=eval e X.env):bS X (.Attribute e f pos) (x9 X.K c1 f):=by intro a4 s G H Q D h;refine Rd a0 (bW (aF a4 s G H _ D h) λfP s1 ⟨x,ai,aP,ct,a,C,_,_,a3,m,_,v,ex,qd,hf,mc,zu,bV,bk,q⟩=>?_);subst ex;obtain rfl:fP=dO a:=ct;obtain⟨_,_,N,_,_,_,_,_,_,_,_,_,_,_,_,e5,dF,_,_,UJ,zt,ke⟩:=qd.ex;have hY:=aP.gX;obtain⟨cR,_,dr,dy,eB,fl,_,_,_⟩:=x6 aP.bQ mc;obtain⟨_,_,e3,cx,_⟩:=UC aP.bQ zu;have cB:=cx f;rw[bk]at cB;obtain⟨u,bx,hk⟩:=cB.some_of;obtain⟨_,g,d,_,_⟩:=s1;exact a7F (hY _ _ e5) (dF _ hY) UJ zt (ke f hf) (qd.at_ f hf) ⟨cR,dr,dy,(λc z=>by rw[fl]at z;cases z),.inr ⟨a3,eB,bV,e3⟩⟩ bx (PySem.W.handedOut_of (Ra hk)) ⟨v,ai,aP.tok _,hk,q⟩
inductive GJ (K:bb) (e0:I) (E:cW) (x:V) (ai:ag):Prop
 |mk a C a3 f cT qe gI:x=.ref a->ai a=B (dW a C (B a3) 0)->kc K C f cT->ai e0=B (dW e0 qe (B gI) 1)->e0≠a->E (.ref C) (B a3) (av ai a (dW a C (B a3) 2))->GJ K e0 E x ai
def Mu(K:bb)(e0:I)(b_:bZ)(E:cW):ez:=λ_ G H=>b_ G H (GJ K e0 E)
def UL{k6:Pos}{j:Nat}(aF:bS X e b_)(bT:X.A.handled=B (.ref e0))(c:mO u X E)(bx:2<=u:=by decide):jr X (.Raise (B e) (B (.Constant .none j k6)) pos) (Mu X.K e0 b_ E):=by
 intro a4 s G H af D h;rw[ajX];refine bB (rE ?_);have key:b7 (bp X.prog X.w) X.A (eval e X.env) (λv s1=>∃a C a3 f cT qe gI ai,v=.ref a/\Inv X a4 G ai s1/\ai a=B (dW a C (B a3) 0)/\kc X.K C f cT/\ai e0=B (dW e0 qe (B gI) 1)/\e0≠a/\E (.ref C) (B a3) (av ai a (dW a C (B a3) 2))) X.bL s:=by refine bW (aF a4 s G H _ D h) λv s1 ⟨y,ai,aP,cD,a,C,a3,f,cT,qe,gI,ph,q,qd,mc,bV,fb⟩=>?_;subst ph;exact⟨a,C,a3,f,cT,qe,gI,ai,cD,aP,q,qd,mc,bV,fb⟩
 unfold yp;refine bB (bB (bW key λv s1 ⟨a,C,a3,f,cT,qe,gI,ai,iS,aP,q,qd,mc,bV,fb⟩=>bB (rE (eJ ?_))));subst iS;obtain⟨nm,iU,N,bs,sn,sub,ab,col,dd,k0,cK,bJ,eh,k5,_,e5,_,_⟩:=qd.ex;have kd:=UE aP q;obtain⟨cR,vs,dr,dy,eB,fl,hr,ij,_⟩:=kd.obj;obtain⟨mM,ot,b1,_,_,w_,_,_,GF⟩:=x6 aP.bQ mc;have fin:∀h':bq,(∀b,b≠a->h'.get? b=s1.heap.get? b)->(∃dk,h'.get? a=B {cR with data:=.fields dk}/\dk.size=6/\dk[1]? =B .none/\dk[2]? =B (.ref e0))->X.bL (.ref a) {s1 with heap:=h'}:=λh' cK ⟨dk,lV,oZ,nh,Fd⟩=>by have cM:=Inv.zp (ts:=[]) (m':=2) (od:=B a3) (C:=C) (h':=h') aP (zq q) ⟨λb o z _ cS _=>(cK b cS).trans z,λb o z cS _=>⟨o.slots,(cK b cS).trans z⟩⟩ (λ_ z=>nomatch z) (zo ⟨_,dk,lV,dy,eB,Y,oZ,λz=>(nomatch z),λz=>absurd z dQ⟩);exact c a4 G _ _ a C a3 2 (.ref e0) .none aa cM b3 ⟨dQ,bx⟩ (λt z=>nomatch z) ⟨⟨_,dk,lV,dy,eB,Y,oZ,nh,Fd⟩,λt z=>by cases z⟩ (.inl Y) fb
 have Cb:=a7v (prog:=X.prog) (w:=X.w) (A:=X.A) (E:=X.bL) (env:=X.env) (s:=s1) (x:=pure (.ref a)) (c:=(do let v <-eval (.Constant .none j k6) X.env;ur pos;pure v)) (Q:=nc X a4 af) (nm:=nm) (q:=iU) (C:=C) (N:=N) (bs:=bs) (bm:=ov) (tx:=a9) (sn:=sn) (sub:=sub) (ab:=ab) (col:=col) (dd:=dd) (k0:=k0) (cK:=cK) (bJ:=bJ) (eh:=eh) (k5:=k5) (newId:="ValueError.__new__") Y bT
  (eJ ⟨a,Y,bV,bB (wpAny_Constant_none (bB (rE (eJ ⟨Y,cR,vs,mM,ot,aP.gX _ _ e5,dr,dy,fl,hr,ij,b1,w_,GF (cP _),fin⟩))))⟩)
 unfold yp at Cb;exact Cb
end
noncomputable abbrev nE(X:bA)(c_:sl (I×bH))(bL:ae->ay->Prop):bA:={X with c_:=c_,bL:=bL}
noncomputable abbrev ow(X:bA)(e:I)(c_:sl (I×bH))(bL:ae->ay->Prop):bA:={X with A:=X.A.mark (B (.ref e)),calm:=aK,c_:=c_,bL:=bL}
variable{af:Ends}{i:Nat}{v:V}
section
variable{c_:sl (I×bH)}{bL:ae->ay->Prop}
def a80(ok:X.Ok):(nE X c_ bL).Ok:=⟨ok.mod,ok.kind,ok.glob,ok.blt,ok.above,ok.inj,ok.has,ok.sT,ok.hd,ok.frames,ok.uB,ok.rK,ok.bs,ok.mG,ok.sU,ok.rL,ok.lj,ok.oX⟩
def a81(ok:(nE X c_ bL).Ok):X.Ok:=⟨ok.mod,ok.kind,ok.glob,ok.blt,ok.above,ok.inj,ok.has,ok.sT,ok.hd,ok.frames,ok.uB,ok.rK,ok.bs,ok.mG,ok.sU,ok.rL,ok.lj,ok.oX⟩
def a82(ok:X.Ok):(ow X e c_ bL).Ok:=⟨ok.mod,ok.kind,ok.glob,ok.blt,ok.above,ok.inj,ok.has,ok.sT,λz=>(nomatch z),ok.frames,ok.uB,ok.rK,ok.bs,ok.mG,ok.sU,ok.rL,ok.lj,ok.oX⟩
def Mv(D:Inv X a4 G H s):Inv (nE X (X.c_++a4) bL) [] G H s:=⟨a80 D.ok,D.os,D.bare,D.base,D.loc,D.cell,D.free,D.ll,by simpa using D.pin,D.bQ,D.len⟩
def xa{rN:sl (I×bH)}(D:Inv (nE X (X.c_++a4) bL) rN G H s):Inv X a4 G H s:=⟨a81 D.ok,D.os,D.bare,D.base,D.loc,D.cell,D.free,D.ll,λp aq=>D.pin p (sG _ aq),D.bQ,D.len⟩
def zw(D:Inv X a4 G H s):Inv (ow X e (X.c_++a4) bL) [] G H s:=⟨a82 D.ok,D.os,D.bare,D.base,D.loc,D.cell,D.free,D.ll,by simpa using D.pin,D.bQ,D.len⟩
def GK{rN:sl (I×bH)}(ok:X.Ok)(D:Inv (ow X e (X.c_++a4) bL) rN G H s):Inv X a4 G H s:=⟨ok,D.os,D.bare,D.base,D.loc,D.cell,D.free,D.ll,λp aq=>D.pin p (sG _ aq),D.bQ,D.len⟩
def Mw{f:Flow}{a_:ay}(h:nc (nE X (X.c_++a4) bL) [] af f a_):nc X a4 af f a_:=by cases f with|next=>obtain⟨aN,H',D,q⟩:=h;exact⟨aN,H',xa D,q⟩|brk=>obtain⟨aN,H',D,q⟩:=h;exact⟨aN,H',xa D,q⟩|cont=>obtain⟨aN,H',D,q⟩:=h;exact⟨aN,H',xa D,q⟩|ret u=>obtain⟨v,aN,H',D,r,q⟩:=h;exact⟨v,aN,H',xa D,r,q⟩
def blank(G:L2.St):L2.St:=G.map λ_=>aa
def UM(G:L2.St)(h:(blank G)[i]? =B (B v)):False:=by unfold blank at h;rw[fW]at h;cases z:G[i]? <;>rw[z]at h<;>cases h
def Inv.forget{m':a8->Iw ae}{t':Nat}(D:Inv X a4 G H s)(aH:h'.Ns X.env.locals m')(ax:Ej X.env.locals s.heap h'):Inv X a4 (blank G) H {s with heap:=h',toks:=t'}:=by
 have nl:∀{b:I}{o:bH},X.gz.heap.get? b=B o->b≠X.env.locals:=λe=>h3 (la (dI e) D.ok.above);refine⟨D.ok,D.os,D.bare,⟨λb o e n a0 ah=>(ax.2 b (nl e)).trans (D.base.keep b o e n a0 ah),λb o e n a0 ah=>?_,D.base.free,λb o e ah=>?_,D.base.sQ,D.base.rJ,D.base.sR⟩,⟨m',aH,λi x v _ q _=>(UM G q).elim⟩,λx c q=>?_,D.free,D.ll,λp aq=>?_,λb u q=>?_,by unfold blank;rw[cX];exact D.len⟩
 .obtain⟨aV,q⟩:=D.base.slot b o e n a0 ah;exact⟨aV,(ax.2 b (nl e)).trans q⟩
 .obtain⟨h5,q⟩:=D.base.there b o e ah;exact⟨h5,(ax.2 b (nl e)).trans q⟩
 .obtain⟨v,z⟩:=D.cell x c q;exact⟨v,z.sameBut ax (D.uC x c q)⟩
 .obtain⟨aO,n,ne,lU,d⟩:=D.pin p aq;exact⟨(ax.2 p.1 ne).trans aO,n,ne,lU,d⟩
 have wj:∀{c:I}{u:dA},H c=B u->c≠X.env.locals:=fun{c u} q z=>by rw[z,D.free]at q;cases q
 refine(D.bQ b u q).rH (λc v a7 iU=>(ax.2 c ?_).trans iU) (λ_ z=>z) λ_ _ z=>z;obtain a7|a7:=a7
 .rw[a7];exact wj q
 exact wj a7
def Inv.blank(D:Inv X a4 G H s):Inv X a4 (blank G) H s:=D.weak (by unfold LX.blank;rw[cX]) λi v q=>(UM G q).elim
end
section
variable{a3:I}{pF:ae->ay->Prop}
def GL(yY:A.frames=X.A.frames)(fA:X.stack=X.env::X.outer)(hf:X.env.frame=B X.env.locals)(D:Inv X a4 G H s)(q:H e=B (dW e C (B a3) m))(hm:1<=m)(dq:∀t,T=B t->H t=aa/\∀p∈X.c_++a4,p.1≠t)(x:hE X.gz⁻¹ e C (B a3) e4 T dG s.heap)(pG:dG=.none∨(T.isSome=a9/\dG=iN X.env.locals))(h:∀h' jV,Inv X a4 G H {s with heap:=h'}->(∀t,B jV=B t->H t=aa/\∀p∈X.c_++a4,p.1≠t)->hE X.gz⁻¹ e C (B a3) e4 (B jV) (iN X.env.locals) h'->Q () {s with heap:=h'}):b7 (bp X.prog X.w) A (uo (.ref e) X.env) Q pF s:=by
 have jQ:A.frames=B (X.env::X.outer):=by rw[yY,<-fA];exact D.ok.frames
 have ar:s.heap.FunFrames X.base (X.env::X.outer):=by rw[<-fA];exact D.stack
 have GH:=GG D x dq;have z2:=λz=>Mt D q x z;obtain rfl|⟨ax,rfl⟩:=pG
 .refine Uq jQ ar hf x D.lp λh' jV eT r' kH=>?_;have et:=Inv.zp (m':=m) (od:=B a3) (C:=C) D (zq q) (by unfold mF;rw[fA];exact kH) GH (GD eT hm z2);rw[GC q]at et;refine h h' jV et (λt z=>?_) eT;cases z;exact⟨D.bQ.fresh r',λp aq z=>absurd (dI (D.pin p aq).1) (by rw[z];exact AL.mpr r')⟩
 obtain⟨t,rfl⟩:=PQ.mp ax;refine Mn hf x ?_;exact h s.heap t D dq x
def vb{T:I}{fr:Iw I}(D:Inv X a4 G H s)(q:H e=B (dW e C (B a3) m))(hm:1<=m)(dq:∀t,B T=B t->H t=aa/\∀p∈X.c_++a4,p.1≠t)(x:hE X.gz⁻¹ e C (B a3) e4 (B T) dG s.heap)(h:∀h',Inv X a4 G H {s with heap:=h'}->hE X.gz⁻¹ e C (B a3) e4 (B T) (fr.elim .none λf=>iN f) h'->Q () {s with heap:=h'}):b7 (bp X.prog X.w) A (AY (.ref e) fr) Q pF s:=by refine Mm x λh' eT kH=>?_;have et:=Inv.zp (m':=m) (od:=B a3) (C:=C) D (zq q) (kH.mono (λ_ z=>nomatch z) (λ_ z=>z)) (GG D x dq) (GD eT hm λz=>Mt D q x z);rw[GC q]at et;exact h h' et eT
end
abbrev zx(X:bA)(e:I):ae->ay->Prop:=yo (bp X.prog X.w) (X.A.mark (B (.ref e))) X.env λx a_=>cameBackBy (bp X.prog X.w) X.A X.env X.bL x a_
abbrev Cd(X:bA)(n:a8)(jf:Pos)(e:I):ae->ay->Prop:=λx p7=>b7 (bp X.prog X.w) (X.A.mark (B (.ref e))) (uo x X.env) (λ_ a83=>b7 (bp X.prog X.w) (X.A.mark (B (.ref e))) (do bindName X.env n .none;unbindBehindTheSuite X.env n jf) (λ_ y_=>b7 (bp X.prog X.w) (X.A.mark (B (.ref e))) (ak9 "try.except-as" x X.env:hX Flow) (λ_ _=>False) (zx X e) y_) (λy y_=>b7 (bp X.prog X.w) (X.A.mark (B (.ref e))) (AY x aa) (λ_ Fv=>zx X e y Fv) (zx X e) y_) a83) (zx X e) p7
variable{body sd:sl bD}{cf:ez}
section
variable{se:bD}{kd n:a8}{xb jf:Pos}{th:I->ez}{E1 E2:cW}{gH:I}
abbrev Mx(af:Ends):Ends:={c8:=λ_ _=>False,iw:=af.iw}
def a84(u:Nat)(N:sl a8)(i:Nat)(C:I)(cf:ez)(th:I->ez)(E1:cW):ez:=λaf G H=>cf af G H/\∀cls i_ H',E1 cls i_ H'->cls=.ref C/\∀e a3 m,i_=B a3->H' e=B (dW e C (B a3) m)->(1<=m/\m<=u)->th e (Mx af) (((hV N.length aa:L2.St)).set i (B (.ref e))) H'
def UN(D:L2.St):blank D=hV D.length aa:=by unfold blank;rw[List.map_const']
def UO(ok:X.Ok)(fA:X.stack=X.env::X.outer)(hf:X.env.frame=B X.env.locals)(ar:X.env.kindOf n=B .local)(c:mO u X E2):mO u (ow X e (X.c_++a4) (Cd X n jf e)) E2:=by
 intro _ G H s a C a3 m e4 _ T D q hm dq x pG fb;have xc:Inv X a4 G H s:=GK ok D;have xd:∀t,T=B t->H t=aa/\∀p∈X.c_++a4,p.1≠t:=λt z=>⟨(dq t z).1,λp aq=>(dq t z).2 p (sG _ aq)⟩;refine GL (X:=X) Y fA hf xc q hm.1 xd x pG λO q' aP GN eM=>?_;obtain⟨_,aH,_⟩:=aP.loc;refine a1P ar aH (by rw[aP.ok.kind];rfl) λa5 _ Fb mK=>?_;have cM:=Inv.forget (t':=s.toks+1) aP Fb mK;have eG:hE X.gz⁻¹ a C (B a3) e4 (B q') (iN X.env.locals) a5:=by
  obtain⟨cR,vs,hK,g8⟩:=eM.obj;refine⟨⟨cR,vs,(mK.2 a λz=>?_).trans hK,g8⟩,λt b9=>?_⟩
  .rw[z,aP.free]at q;cases q
  obtain⟨sa,xe,v7,ts,a85,a86⟩:=eM.cf t b9;refine⟨sa,xe,v7,ts,(mK.2 t λz=>?_).trans a85,a86⟩;exact(GG aP eM GN t (by rw[b9];simp)).2.2.1 z
 obtain⟨cR,vs,hK,g8,_,Ce,_,a88,_⟩:=eG.obj;unfold ak9;refine bB (jM hK Ce a88 ?_);show b7 _ _ (if(dO q'==eS)=a9 then _ else _) _ _ _;rw[aL (show¬((dO q'==eS)=a9) by simp)];refine bB (vb (X:=X) (fr:=X.env.frame) cM q hm.1 GN eG λaG dJ ik=>a1U ?_);rw[hf]at ik;have ik:hE X.gz⁻¹ a C (B a3) e4 (B q') (iN X.env.locals) aG:=ik;unfold zx yo;refine Mn hf ik ?_;obtain⟨_,_,lV,_,_,Fd,_,a89,_⟩:=ik.obj;unfold cameBackBy;refine bB (jM lV Fd a89 ?_);show b7 _ _ (if(dO q'==eS)=a9 then _ else _) _ _ _;rw[aL (show¬((dO q'==eS)=a9) by simp)];refine vb (X:=X) (fr:=X.env.frame) dJ q hm.1 GN ik λ_ f' iF=>?_;rw[hf]at iF;exact c a4 _ H _ a C a3 m e4 _ (B q') f' q hm GN iF (.inr ⟨Y,Y⟩) fb
def GO(fA:X.stack=X.env::X.outer)(hf:X.env.frame=B X.env.locals)(dF:X.N.Nodup)(hi:X.N[i]? =B n)(ar:X.env.scope.names.lookup n=B .local)(aI:hJ X kd)(hm:X.a6 kd=B (.ref C))(ee:kc X.K C gH cT)(a0:∀c_ bL,mO t (nE X c_ bL) E1->ix (nE X c_ bL) body cf)(c:mO u X E2)(ax:∀e c_ bL,mO u (ow X e c_ bL) E2->ix (ow X e c_ bL) (se::sd) (th e))(gj:kV kd:=by decide):
  jr X (.Try body [.ExceptHandler (B (.Name kd xb)) (B n) (se::sd) jf] [] [] pos) (a84 t X.N i C cf th E1):=by
 intro a4 s G H af D h;obtain⟨O,a5⟩:=h;rw[a1u];refine bB (rE (a1V ?_));have Cf:mO t (nE X (X.c_++a4) (λe dw=>b7 (bp X.prog X.w) X.A (uo e X.env) (λ_ j9=>b7 (bp X.prog X.w) X.A (AY e aa) (λ_ p7=>b7 (bp X.prog X.w) X.A (a1A e X.env [.ExceptHandler (B (.Name kd xb)) (B n) (se::sd) jf]) (nc X a4 af) X.bL p7) X.bL j9) X.bL dw)) E1:=by
  intro _ aN H' s1 e _ a3 m _ _ T aP q md dq x pG fb;obtain⟨qT,bT⟩:=a5 _ _ _ fb;cases qT;have xc:Inv X a4 aN H' s1:=xa aP;have xd:∀t,T=B t->H' t=aa/\∀p∈X.c_++a4,p.1≠t:=λt z=>⟨(dq t z).1,λp aq=>(dq t z).2 p (sG _ aq)⟩;refine GL (X:=X) Y fA hf xc q md.1 xd x pG λ_ _ dJ vc ik=>?_;refine vb (X:=X) (fr:=aa) dJ q md.1 vc ik λ_ f' iF=>?_;obtain⟨_,_,N,_,_,_,_,_,_,_,_,_,_,_,_,e5,_,_⟩:=ee.ex;refine a1N (a1y ?_) (by intro z;cases z);have jt:=zw (e:=e) (bL:=λ_ _=>True) f';refine o' (X:=ow X e (X.c_++a4) λ_ _=>True) jt aI hm ?_ gj;obtain⟨_,_,dr,dy,_,_,_,_,_⟩:=iF.obj;refine a1L (bm:=ov) (newId:="ValueError.__new__") (f'.gX _ _ e5) dr dy Y ?_;show my _ _ _ _ _;refine ak4 ?_;refine vb (X:=X) (fr:=aa) f' q md.1 vc iF λ_ ju _=>?_;have fR:=zw (e:=e) (a4:=a4) (bL:=(Cd X n jf e)) (Inv.blank ju);refine yH (X:=ow X e (X.c_++a4) (Cd X n jf e)) fR dF hi (.inl ar) (v:=.ref e) Y (λq3 uQ=>?_) (.inr ar);have ah:=bT e a3 m Y q md;have al3:(blank aN).length=X.N.length:=by unfold blank;rw[cX];exact aP.len
  rw[UN,show aN.length=X.N.length from aP.len]at uQ;have run:=ax e (X.c_++a4) _ (UO (jf:=jf) (n:=n) (e:=e) (a4:=a4) D.ok fA hf ar c) [] q3 _ H' _ uQ ah;refine bW run λf m3 z=>?_;cases f with|next=>obtain⟨_,_,_,z⟩:=z;exact z.elim|brk=>obtain⟨_,_,_,z⟩:=z;exact z.elim|cont=>obtain⟨_,_,_,z⟩:=z;exact z.elim|ret u=>obtain⟨v,GQ,oc,qO,Cg,nx⟩:=z;have qP:Inv X a4 GQ oc m3:=GK D.ok qO;obtain⟨_,aH,_⟩:=qP.loc;refine a1P ar aH (by rw[qP.ok.kind];rfl) λ_ _ My Mz=>?_;exact⟨v,_,oc,Inv.forget (t':=m3.toks+1) qP My Mz,Cg,nx⟩
 refine mB (a0 _ _ Cf [] s G H af (Mv D) O) (λf s1 z=>?_) λe s1 z=>z;have z:=Mw z;cases f with|next=>exact wb z|brk=>exact z|cont=>exact z|ret u=>exact z
end
open Builtin.Str
variable{b0:I}
def Ci{t:jL}{ty:String}(hi:h.IsStrIter b0 ty x t i)(k:∀o,h.get? b0=B o->h'.get? b0=B o):h'.IsStrIter b0 ty x t i:=by obtain⟨o,aU,r⟩:=hi;exact⟨o,k o aU,r⟩
def UR(x:a8):Jh x="str_ascii_iterator"∨Jh x="str_iterator" :=by
 unfold Jh;split
 .exact .inl Y
 exact .inr Y
section
variable{pr:bP}{wd:bG}{Ar:da}{GR:ae->ay->Prop}{gJ:ay}
def a8c{t:I}{xs:Array ae}{x:ae}{Q:ae->ay->Prop}(gn:gJ.heap.IsTupleIter b0 t i)(b9:gJ.heap.IsTuple t xs)(ah:xs[i]? =B x)(iO:∀h',h'.IsTupleIter b0 t (i+1)->Ej b0 gJ.heap h'->Q x {gJ with heap:=h'}):b7 (bp pr wd) Ar (yb (.ref b0)) Q GR gJ:=by obtain⟨o,aU,a7,hd⟩:=id gn;obtain⟨_,ve,_,_,xf⟩:=b9;unfold yb;refine bB (EB (name:=n2 "__next__") gn.typeIs P_ (EC P_ gn.typeIs F.entry_tuple_iterator_next ?_ (F.args_tuple_iterator_next_1 _)));show b7 (bp pr wd) _ (rA (.ref b0) 0>>=_) _ _ gJ;refine bB (jM aU hd (x:=.ref t) Y ?_);show b7 (bp pr wd) _ (if(dO t==eS)=a9 then _ else _) _ _ gJ;rw[aL (show¬((dO t==eS)=a9)from i6)];show b7 (bp pr wd) _ (rA (.ref b0) 1>>=_) _ _ gJ;refine bB (jM aU hd (x:=.int i 0) Y ?_);show b7 (bp pr wd) _ (AW (.ref t)>>=_) _ _ gJ;refine bB (wc ve xf ?_);simp only[u9,ah];refine bB (uv aU hd (by simp) (eJ ⟨x,Y,eJ (iO _ ⟨_,rz _ aU (AO (uh hd _)),(Q0 ..).trans a7,?_⟩ (ajz ..))⟩));rw[uh hd];simp[iN]
def a8d{t:I}{xs:Array ae}{Q:ae->ay->Prop}(bT:Ar.handled=aa)(gn:gJ.heap.IsTupleIter b0 t i)(b9:gJ.heap.IsTuple t xs)(ah:xs[i]? =aa)(fb:∀h' e,J1 b0 gJ.heap h'->(∃o,h'.get? e=B o/\o.cls=.type "StopIteration")->GR (.ref e) {gJ with heap:=h'}):b7 (bp pr wd) Ar (yb (.ref b0)) Q GR gJ:=by
 obtain⟨o,aU,_,hd⟩:=id gn;obtain⟨_,ve,_,_,xf⟩:=b9;unfold yb;refine bB (EB (name:=n2 "__next__") gn.typeIs P_ (EC P_ gn.typeIs F.entry_tuple_iterator_next ?_ (F.args_tuple_iterator_next_1 _)));show b7 (bp pr wd) _ (rA (.ref b0) 0>>=_) _ _ gJ;refine bB (jM aU hd (x:=.ref t) Y ?_);show b7 (bp pr wd) _ (if(dO t==eS)=a9 then _ else _) _ _ gJ;rw[aL (show¬((dO t==eS)=a9)from i6)];show b7 (bp pr wd) _ (rA (.ref b0) 1>>=_) _ _ gJ;refine bB (jM aU hd (x:=.int i 0) Y ?_);show b7 (bp pr wd) _ (AW (.ref t)>>=_) _ _ gJ;refine bB (wc ve xf ?_);simp only[u9,ah];refine bB (Qh (bB (uv aU hd (by simp) ?_)));show b7 (bp pr wd) _ (Je (.type "StopIteration") []>>=_) _ _ _;refine bB ?_;simp only[Je,newTuple];refine bB (yq ?_ (by size_fits));refine bB (m:=Qa _ _) (a1R (a:=eS) (by first|rfl|(simp only[Qa];rfl)) ?_);refine yq ?_ (by size_fits);simp only[Jg];refine bB (akj ?_);first|rw[show Ar.in1.handled=aa from bT]|rw[bT]
 refine bB (eJ (a1U ?_));exact fb _ _ (((ajz ..).extBut.push _).push _) ⟨_,hW _ Y,Y⟩
def a8e(bT:Ar.handled=aa)(b0 t:I)(bV:t≠b0)(xs:Array ae):Draws pr wd Ar b0 [b0,t] xs.size (λi v=>xs[i]? =B v) (λi h=>h.IsTupleIter b0 t i/\h.IsTuple t xs) where
 live:=λ_ _ st=>let⟨o,aU,_⟩:=st.1;⟨o,aU⟩
 frame:=λ_ _ _ st aA=>⟨let⟨o,aU,r⟩:=st.1;⟨o,aA b0 (by simp) o aU,r⟩,let⟨o,aU,r⟩:=st.2;⟨o,aA t (by simp) o aU,r⟩⟩
 item:=λi s Q E hi st iO=>by refine a8c st.1 st.2 (x:=xs[i]) (by simp[hi]) λh' BL zy=>?_;exact iO _ h' s.toks (by simp[hi]) ⟨BL,st.2.extBut zy.extBut bV⟩ zy
 done:=λs Q E st fb=>a8d bT st.1 st.2 (by simp) fb
def a8f(t:I)(xs:Array ae)(n:Nat)(MA:Iw I)(aV:Array (Iw ae)):Meets (w1.«enumerate.__new__» ⟨[.type "enumerate",.ref t],[]⟩) (λ_ R s=>s.heap.get? t=B {cls:=.type "tuple",dict:=MA,data:=.seq xs n,slots:=aV}/\R (.ok (.ret (.ref (s.heap.push {cls:=.type "tuple_iterator",data:=.fields #[.ref t,.int 0 0]}).objs.size))) {s with heap:=(s.heap.push {cls:=.type "tuple_iterator",data:=.fields #[.ref t,.int 0 0]}).push {cls:=.type "enumerate",data:=.fields #[.none,.bool aK,.ref s⁻¹,iN 0,.none,.none]}}):=
 .of_wp λ_ w A R s h=>by
  obtain⟨aq,g,d,tk,os⟩:=s;obtain⟨ar,h⟩:=h;have al4:=sub_enumerate;have di:Heap.IsTuple (Shared.heap ⟨aq,g,d,tk,os⟩) t xs:=⟨_,ar,Y,n,Y⟩
  wp_walk using PS ar
  refine wpAny_stack_any λ_=>eJ ?_;split
  .rename_i c _ _ _ _ _
   cases(c==ui "enumerate")
   .wp_walk using PS ar,Jk di
    exact⟨_,Y,h⟩
   .wp_walk using PS ar,Jk di
    exact⟨_,Y,h⟩
  .wp_walk using PS ar,Jk di
   exact⟨_,Y,h⟩
def a8g{t:I}{xs:Array ae}{Q:ae->ay->Prop}(di:gJ.heap.IsTuple t xs)(h:∀h',J2 h' (gJ⁻¹+1) gJ⁻¹ 0 .none->h'.IsTupleIter gJ⁻¹ t 0->h'.objs.size=gJ⁻¹+2->(∀b o,gJ.heap.get? b=B o->h'.get? b=B o)->Q (.ref (gJ⁻¹+1)) {gJ with heap:=h'}):b7 (bp pr wd) Ar (n4 (.type "enumerate") [.ref t]) Q GR gJ:=by
 obtain⟨⟨c,MA,gG,aV⟩,ar,a7,n,hd⟩:=di;replace a7:c=.type "tuple" :=a7;replace hd:gG=.seq xs n:=hd;subst a7 hd;refine callType_new F.called_enumerate dQ (F.typeCall_enumerate_1 _) (F.newCall_enumerate_1 _) (λobj=>F.args_object_init_2 obj _) F.entry_enumerate_new (a8f t xs n MA aV) ⟨ar,?_⟩;have aR:(gJ.heap.push {cls:=.type "tuple_iterator",data:=.fields #[.ref t,.int 0 0]}).objs.size=gJ⁻¹+1:=n1 ..;show _/\_;rw[aR];have aF:J2 ((gJ.heap.push {cls:=.type "tuple_iterator",data:=.fields #[.ref t,.int 0 0]}).push {cls:=.type "enumerate",data:=.fields #[.none,.bool aK,.ref gJ⁻¹,iN 0,.none,.none]}) (gJ⁻¹+1) gJ⁻¹ 0 .none:=by have:=hW (gJ.heap.push {cls:=.type "tuple_iterator",data:=.fields #[.ref t,.int 0 0]}) (o:={cls:=.type "enumerate",data:=.fields #[.none,.bool aK,.ref gJ⁻¹,iN 0,.none,.none]}) Y;rw[aR]at this;exact this
 refine⟨⟨_,aF,Y⟩,h _ aF ⟨_,ef _ (hW _ Y),Y,Y⟩ (by rw[n1,aR]) λb o x=>ef _ (ef _ x)⟩
end
def Holds(K:bb)(H:ag)(v:V)(xs:sl V):Prop:=(∃a,v=.ref a/\dt K H a xs)∨∃x:a8,v=.str x/\xs=x.cps.toList.map λ(c:Nat)=>V.str ⟨#[c]⟩
def vf(v:V)(b0:I)(i:Nat)(h:bq):Prop:=(∃a,v=.ref a/\h.IsTupleIter b0 a i)∨∃x t,v=.str x/\h.IsStrIter b0 (Jh x) x t i
def US(st:vf v b0 i h)(k:∀o,h.get? b0=B o->h'.get? b0=B o):vf v b0 i h':=by
 obtain⟨a,e,o,aU,r⟩|⟨x,t,e,hi⟩:=st
 .exact .inl ⟨a,e,o,k o aU,r⟩
 exact .inr ⟨x,t,e,Ci hi k⟩
def UT(st:vf v b0 i h):∃o,h.get? b0=B o/\(∃vs,o.data=.fields vs)/\o.cls≠ .type "tuple" :=by
 obtain⟨a,e,o,aU,a7,hd⟩|⟨x,t,e,o,aU,a7,hd⟩:=st
 .exact⟨o,aU,⟨_,hd⟩,by rw[a7];decide⟩
 refine⟨o,aU,⟨_,hd⟩,?_⟩;rw[a7];rcases UR x with e|e<;>rw[e]<;>decide
variable{xs:sl V}
def UU(D:Inv X a4 G H s)(bT:X.A.handled=aa)(bk:Holds X.K H v xs)(st:vf v b0 i s.heap):∃bM P St,Draws X.prog X.w X.A.in1 b0 bM xs.length P St/\St i s.heap/\(∀b∈bM,b=b0∨∃o,s.heap.get? b=B o/\o.cls=.type "tuple")/\b0∈bM/\(∀j u,P j u->∃x,xs[j]? =B x/\RelV x u)/\∀j h',St j h'->vf v b0 j h':=by
 obtain⟨a,rfl,hi⟩|⟨x,t,rfl,hi⟩:=st
 .obtain⟨K6,e,aQ⟩|⟨x,e,_⟩:=bk
  .cases e;obtain⟨b6,cB,p,_⟩:=D.tuple aQ;obtain⟨o,aU,a7,_⟩:=id p;have bV:a≠b0:=λz=>by obtain⟨_,mH,oY,_⟩:=hi;rw[z,mH]at aU;cases aU;rw[oY]at a7;exact absurd a7 dQ
   have dd:=a8e (pr:=X.prog) (wd:=X.w) (Ar:=X.A.in1) bT b0 a bV b6.toArray;rw[show b6.toArray.size=xs.length by simp[cB.length]]at dd;refine⟨[b0,a],_,_,dd,⟨hi,p⟩,λb a0=>?_,by simp,λj u bx=>?_,λj h' z=>.inl ⟨a,Y,z.1⟩⟩
   .have d8:b=b0∨b=a:=by simpa using a0
    obtain z|z:=d8
    .exact .inl z
    rw[z];exact .inr ⟨o,aU,a7⟩
   have bx:b6[j]? =B u:=by simpa using bx
   have c6:j<xs.length:=by rw[cB.length];exact(ei.mp bx).1
   obtain⟨_,UW,hk⟩:=cB.get (ff c6);rw[bx]at UW;cases UW;exact⟨_,ff c6,hk⟩
  cases e
 obtain⟨K6,e,_⟩|⟨eT,e,rfl⟩:=bk
 .cases e
 cases e;have key:∀(ty:String),Jh x=ty->Draws X.prog X.w X.A.in1 b0 [b0] x.cps.size (λi v=>∃c u,x.cps[i]? =B c/\v=.str ⟨#[c]⟩ u) (λi h=>h.IsStrIter b0 ty x t i)->∃bM P St,Draws X.prog X.w X.A.in1 b0 bM (x.cps.toList.map λ(c:Nat)=>V.str ⟨#[c]⟩).length P St/\St i s.heap/\(∀b∈bM,b=b0∨∃o,s.heap.get? b=B o/\o.cls=.type "tuple")/\b0∈bM/\(∀j u,P j u->∃y,(x.cps.toList.map λ(c:Nat)=>V.str ⟨#[c]⟩)[j]? =B y/\RelV y u)/\∀j h',St j h'->vf (.str x) b0 j h':=λty b9 af=>by
  rw[show x.cps.size=(x.cps.toList.map λ(c:Nat)=>V.str ⟨#[c]⟩).length by simp]at af;refine⟨_,_,_,af,?_,λb a0=>.inl (by simpa using a0),by simp,λj u bx=>?_,λj h' z=>.inr ⟨x,t,Y,?_⟩⟩
  .show s.heap.IsStrIter b0 ty x t i;rw[<-b9];exact hi
  .obtain⟨c,t',a7,rfl⟩:=bx;refine⟨.str ⟨#[c]⟩,?_,⟨t',Y⟩⟩;rw[fW,ais,a7];rfl
  rw[b9];exact z
 obtain e|e:=UR x
 .exact key _ e (Draws.strAscii (A:=X.A.in1) bT b0 x t)
 exact key _ e (Draws.strWide (A:=X.A.in1) bT b0 x t)
def vg(K:bb)(v:V)(xs:sl V):iz:=
 ⟨λi H=>Holds K H v xs/\i<xs.length,λi H y H'=>∃T x,y=.ref T/\H T=aa/\H'=av H T (.tup [.int (i:Nat),x])/\xs[i]? =B x,λi H=>Holds K H v xs/\i=xs.length⟩
variable{kY:sl bO}
def a8h{c9:Nat}(e b0:I):rQ P w K (.Tuple kY c9 lu) (vg K v xs) [e,b0] e (λi h=>(∃pk,J2 h e b0 ((i:Nat):Int) pk)/\vf v b0 i h/\e≠b0) where
 mem:=by simp
 obj:=λi h st b a0=>by
  obtain⟨⟨pk,aF⟩,b9,_⟩:=st;have d8:b=e∨b=b0:=by simpa using a0
  obtain rfl|rfl:=d8
  .exact⟨_,aF,λv q=>nomatch q⟩
  obtain⟨o,aU,⟨_,hd⟩,_⟩:=UT b9;exact⟨o,aU,λv q=>by rw[hd]at q;cases q⟩
 keep:=λi h h' st k=>let⟨⟨pk,aF⟩,hi,bV⟩:=st;⟨⟨pk,k e (by simp) _ aF⟩,US hi λo q=>k b0 (by simp) o q,bV⟩
 item:=by
  intro X bI hw fB a7 i a4 s G H E D hf st aI;subst bI hw fB;obtain⟨⟨pk,aF⟩,gn,bV⟩:=st;obtain⟨bk,c6⟩:=aI;obtain⟨bM,a8i,a8j,af,lB,ta,t9,bI,dq⟩:=UU D (D.ok.hd a7) bk gn;have rV:e<s⁻¹:=dI aF;have Le:b0<s⁻¹:=by obtain⟨o,q,_⟩:=UT gn;exact dI q
  have a8k:e∉bM:=λz=>by
   obtain q|⟨o,aU,f9⟩:=ta e z
   .exact bV q
   rw[aF]at aU;cases aU;exact absurd f9 (show¬ui "enumerate" =ui "tuple" by decide)
  refine wpAny_pyNext_enum_itemD af aF lB c6 bV a8k λu h' tk a8l aU a8m a8n _ aA=>?_;obtain⟨x,ah,hk⟩:=bI i u a8l;refine⟨_,Y,akl (s:={s with heap:=h',toks:=tk+1}) aU λjy wI cI=>?_⟩;have wR:jy.get? s⁻¹=B {cls:=.type "tuple",data:=.seq #[.int i tk,u]}:=(cI.2 _ (y8 rV)).trans a8n;have new:hj X.prog X.w (av H s⁻¹ (.tup [.int (i:Nat),x])) jy s⁻¹ (.tup [.int (i:Nat),x]):=⟨by show 2<=cN;decide,[.int i tk,u],.cons ⟨_,Y⟩ (.cons hk .nil),⟨_,wR,Y,_,Y⟩⟩;have aP:Inv X a4 G (av H s⁻¹ (.tup [.int (i:Nat),x])) {s with heap:=jy,toks:=tk+1}:=
   D.FD (ch:=[e,b0]) (λb cG a0 q=>(cI.2 b (λz=>a0 (by simp[z]))).trans (aA b cG (λz=>a0 (by simp[z])) (λz=>a0 (by simp[z])) q)) hf (cP _) new
  refine⟨.ref s⁻¹,_,aP,Y,⟨_,x,Y,D.bQ.fresh (cP _),Y,ah⟩,⟨⟨u,?_⟩,US (dq _ _ a8m) λo q=>(cI.2 b0 (ej bV)).trans q,bV⟩,λb a0=>?_⟩
  .rw[show((i+1:Nat):Int)=(i:Int)+1 by lia];exact wI
  have s':b<s⁻¹:=by
   have d8:b=e∨b=b0:=by simpa using a0
   obtain rfl|rfl:=d8
   .exact rV
   exact Le
  rw[aM (h3 s')];exact(hf b a0).1
 done:=by intro X bI hw fB a7 i a4 s G H E D hf st aI;subst bI hw fB;obtain⟨⟨pk,aF⟩,gn,bV⟩:=st;obtain⟨bk,rfl⟩:=aI;obtain⟨bM,a8i,a8j,af,lB,ta,t9,bI,dq⟩:=UU D (D.ok.hd a7) bk gn;obtain⟨f_,dU,_,dx,fh,fi⟩:=hf b0 (by simp);exact wpAny_pyNext_enum_endD af aF lB λh' hl=>⟨Y,D.turned (t':=s.toks) (λb o a0 q=>hl b o a0 q) f_ dU dx fh fi⟩
 self:=λA i s Q E st h=>let⟨⟨_,aF⟩,_⟩:=st;Jj aF h
def a8o(K:bb)(c1:gA):TI:=λG H R=>c1 G H λvs ai=>∃v xs,vs=[v]/\((Holds K ai v xs/\R (vg K v xs) ai)∨∃a,v=.ref a/\bo K ai a xs/\R (uT K a) ai)
def a8p{e:bO}{c1:gA}{c9:Nat}(aI:hJ X "enumerate")(hm:X.a6 "enumerate" =aa)(bf:hI X [e] c1)(ax:fI [e] X.env=[(aK,eval e X.env)]:=by rfl):
  qH X (.Tuple kY c9 lu) (.Call (.Name "enumerate" p) [e] [] pos) (a8o X.K c1):=by
 intro a4 s G H R D h;refine I_ (wm D aI hm boot_enumerate (Ei (bW (bf pos a4 s G H _ D h) λ_ s1 ⟨_,ai,aP,cx,bw⟩=>?_) ax Y));obtain⟨v,_,ex,⟨bk,q⟩|⟨a,jw,aQ,q⟩⟩:=bw;case inr=>
  subst ex jw;cases cx with
  |cons r iQ=>
   cases iQ;cases r;obtain⟨b6,cB,fS,aR⟩:=aP.list aQ;refine call_enumerate_list fS.isList λh' aF gn hsz aA=>Jj aF ?_;have cM:Inv X a4 G ai {s1 with heap:=h'}:=aP.kept (t':=s1.toks) aA;refine⟨s1⁻¹+1,[s1⁻¹+1,s1⁻¹],_,_,ai,Y,cM,a4x a (s1⁻¹+1) s1⁻¹,⟨⟨.none,aF⟩,gn,aj9 _⟩,λb a0=>?_,q⟩;have d8:b=s1⁻¹+1∨b=s1⁻¹:=by simpa using a0
   have hq:s1⁻¹<=b:=by rcases d8 with z|z<;>rw[z]<;>first|exact rx _ _|exact cP _
   exact aP.qG hq (aP.bQ.fresh hq)
 subst ex;have fin:∀(h':bq),J2 h' (s1⁻¹+1) s1⁻¹ 0 .none->vf v s1⁻¹ 0 h'->(∀b o,s1.heap.get? b=B o->h'.get? b=B o)->F1 X a4 G (.Tuple kY c9 lu) R (.ref (s1⁻¹+1)) {s1 with heap:=h'}:=λh' aF gn aA=>by
  have cM:Inv X a4 G ai {s1 with heap:=h'}:=aP.kept (t':=s1.toks) aA;refine⟨s1⁻¹+1,[s1⁻¹+1,s1⁻¹],_,_,ai,Y,cM,a8h (s1⁻¹+1) s1⁻¹,⟨⟨.none,aF⟩,gn,aj9 _⟩,λb a0=>?_,q⟩;have d8:b=s1⁻¹+1∨b=s1⁻¹:=by simpa using a0
  have hq:s1⁻¹<=b:=by rcases d8 with z|z<;>rw[z]<;>first|exact rx _ _|exact cP _
  exact aP.qG hq (aP.bQ.fresh hq)
 cases cx with
 |cons r iQ=>
  cases iQ;obtain⟨a,rfl,aQ⟩|⟨x,rfl,rfl⟩:=bk
  .cases r;obtain⟨b6,cB,fS,aR⟩:=aP.tuple aQ;exact a8g fS λh' aF gn hsz aA=>Jj aF (fin h' aF (.inl ⟨a,Y,gn⟩) aA)
  obtain⟨t,rfl⟩:=r;exact call_enumerate_str λh' aF gn hsz aA=>Jj aF (fin h' aF (.inr ⟨x,t,Y,gn⟩) aA)
def a8q{g:h7}(Pv:Nat->L2.St->ag->Prop)(b8:Pv 0 G H)(ar:∀i G H,i<=xs.length->Pv i G H->Holds K H v xs)(ax:∀i x G H,xs[i]? =B x->Pv i G H->∀T,H T=aa->g (.ref T) G (av H T (.tup [.int (i:Nat),x])) λcQ au=>cf {af with c8:=Pv (i+1),dX:=Pv (i+1),gK:=af.c8} cQ au)(hd:∀G H,Pv xs.length G H->af.c8 G H):∃W:Nat->Nat->L2.St->ag->Prop,(∃m,W 0 m G H)/\∀i m G H,W i m G H->((vg K v xs).stop i H/\af.c8 G H)∨((vg K v xs).go i H/\∃N:L2.St->ag->Prop,(∀aN H',N aN H'->∃m',m'<m/\W (i+1) m' aN H')/\∀x H',(vg K v xs).j' i H x H'->g x G H' λcQ au=>cf {af with c8:=N,dX:=N,gK:=af.c8} cQ au):=by
 refine⟨λi m G H=>m=xs.length-i/\i<=xs.length/\Pv i G H,⟨xs.length,by simp,es _,b8⟩,?_⟩;rintro i m G H ⟨rfl,hi,p⟩;have q:=ar i G H hi p;obtain c6|zz:=y6 i xs.length
 .refine .inr ⟨⟨q,c6⟩,Pv (i+1),λaN H' fS=>⟨_,by lia,Y,c6,fS⟩,λy H' bl=>?_⟩;obtain⟨T,x,rfl,dq,rfl,ah⟩:=bl;exact ax i x G H ah p T dq
 have e:i=xs.length:=by lia
 subst e;exact .inl ⟨⟨q,Y⟩,hd G H p⟩
def a8r{a:I}{g:h7}(Pv:Nat->L2.St->ag->Prop)(b8:Pv 0 G H)(ar:∀i G H,i<=xs.length->Pv i G H->bo K H a xs)(ax:∀i x G H,xs[i]? =B x->Pv i G H->∀T,H T=aa->g (.ref T) G (av H T (.tup [.int (i:Nat),x])) λcQ au=>cf {af with c8:=Pv (i+1),dX:=Pv (i+1),gK:=af.c8} cQ au)(hd:∀G H,Pv xs.length G H->af.c8 G H):∃W:Nat->Nat->L2.St->ag->Prop,(∃m,W 0 m G H)/\∀i m G H,W i m G H->((uT K a).stop i H/\af.c8 G H)∨((uT K a).go i H/\∃N:L2.St->ag->Prop,(∀aN H',N aN H'->∃m',m'<m/\W (i+1) m' aN H')/\∀x H',(uT K a).j' i H x H'->g x G H' λcQ au=>cf {af with c8:=N,dX:=N,gK:=af.c8} cQ au):=by
 refine⟨λi m G H=>m=xs.length-i/\i<=xs.length/\Pv i G H,⟨xs.length,by simp,es _,b8⟩,?_⟩;rintro i m G H ⟨rfl,hi,p⟩;have q:=ar i G H hi p;obtain c6|zz:=y6 i xs.length
 .refine .inr ⟨⟨xs,xs[i],q,ff c6⟩,Pv (i+1),λaN H' fS=>⟨_,by lia,Y,c6,fS⟩,λy H' bl=>?_⟩;obtain⟨T,x,rfl,dq,rfl,ah⟩:=bl;exact ax i x G H (ah xs q) p T dq
 have e:i=xs.length:=by lia
 subst e;exact .inl ⟨⟨xs,q,cP _⟩,hd G H p⟩
def a8s{g:h7}(Pv:Nat->L2.St->ag->Prop)(b8:Pv 0 G H)(ar:(∀i G H,i<=xs.length->Pv i G H->Holds K H v xs)∨∃a,v=.ref a/\∀i G H,i<=xs.length->Pv i G H->bo K H a xs)(ax:∀i x G H,xs[i]? =B x->Pv i G H->∀T,H T=aa->g (.ref T) G (av H T (.tup [.int (i:Nat),x])) λcQ au=>cf {af with c8:=Pv (i+1),dX:=Pv (i+1),gK:=af.c8} cQ au)(hd:∀G H,Pv xs.length G H->af.c8 G H):(Holds K H v xs/\∃W:Nat->Nat->L2.St->ag->Prop,(∃m,W 0 m G H)/\∀i m G H,W i m G H->((vg K v xs).stop i H/\af.c8 G H)∨((vg K v xs).go i H/\∃N:L2.St->ag->Prop,(∀aN H',N aN H'->∃m',m'<m/\W (i+1) m' aN H')/\∀x H',(vg K v xs).j' i H x H'->g x G H' λcQ au=>cf {af with c8:=N,dX:=N,gK:=af.c8} cQ au))∨∃a,v=.ref a/\bo K H a xs/\∃W:Nat->Nat->L2.St->ag->Prop,(∃m,W 0 m G H)/\∀i m G H,W i m G H->((uT K a).stop i H/\af.c8 G H)∨((uT K a).go i H/\∃N:L2.St->ag->Prop,(∀aN H',N aN H'->∃m',m'<m/\W (i+1) m' aN H')/\∀x H',(uT K a).j' i H x H'->g x G H' λcQ au=>cf {af with c8:=N,dX:=N,gK:=af.c8} cQ au):=by
 obtain ar|⟨a,e,ar⟩:=ar
 .exact .inl ⟨ar 0 G H (es _) b8,a8q Pv b8 ar ax hd⟩
 exact .inr ⟨a,e,ar 0 G H (es _) b8,a8r Pv b8 ar ax hd⟩
def a8t{a b:I}{ys:sl V}{g:h7}(Pv:Nat->L2.St->ag->Prop)(b8:Pv 0 G H)(ar:∀i G H,Pv i G H->bo K H a xs/\bo K H b ys)(ax:∀i x y G H,xs[i]? =B x->ys[i]? =B y->Pv i G H->∀T,H T=aa->g (.ref T) G (av H T (.tup [x,y])) λcQ au=>cf {af with c8:=Pv (i+1),dX:=Pv (i+1),gK:=af.c8} cQ au)(hd:∀i G H,i<=xs.length->i<=ys.length->(i=xs.length∨i=ys.length)->Pv i G H->af.c8 G H):∃W:Nat->Nat->L2.St->ag->Prop,(∃m,W 0 m G H)/\∀i m G H,W i m G H->((ti K a b).stop i H/\af.c8 G H)∨((ti K a b).go i H/\∃N:L2.St->ag->Prop,(∀aN H',N aN H'->∃m',m'<m/\W (i+1) m' aN H')/\∀x H',(ti K a b).j' i H x H'->g x G H' λcQ au=>cf {af with c8:=N,dX:=N,gK:=af.c8} cQ au):=by
 refine⟨λi m G H=>m=xs.length-i/\i<=xs.length/\i<=ys.length/\Pv i G H,⟨xs.length,by simp,es _,es _,b8⟩,?_⟩;rintro i m G H ⟨rfl,hi,vh,p⟩;obtain⟨q,cy⟩:=ar i G H p;obtain c6|zz:=y6 i xs.length
 .obtain xg|a8u:=y6 i ys.length
  .refine .inr ⟨⟨xs,ys,xs[i],ys[i],q,cy,ff c6,ff xg⟩,Pv (i+1),λaN H' fS=>⟨_,by lia,Y,c6,xg,fS⟩,λv H' bl=>?_⟩;obtain⟨T,x,y,rfl,dq,rfl,ah,bl⟩:=bl;exact ax i x y G H (ah xs q) (bl ys cy) p T dq
  exact .inl ⟨⟨xs,ys,q,cy,.inr a8u⟩,hd i G H hi vh (.inr (by lia)) p⟩
 exact .inl ⟨⟨xs,ys,q,cy,.inl zz⟩,hd i G H hi vh (.inl (by lia)) p⟩
def a8v{g:h7}(Pv:Nat->L2.St->ag->Prop)(b8:Pv 0 G H)(ax:∀i c G H,x.cps[i]? =B c->Pv i G H->g (.str ⟨#[c]⟩) G H λcQ au=>cf {af with c8:=Pv (i+1),dX:=Pv (i+1),gK:=af.c8} cQ au)(hd:∀G H,Pv x.cps.size G H->af.c8 G H):∃W:Nat->Nat->L2.St->ag->Prop,(∃m,W 0 m G H)/\∀i m G H,W i m G H->((pj x).stop i H/\af.c8 G H)∨((pj x).go i H/\∃N:L2.St->ag->Prop,(∀aN H',N aN H'->∃m',m'<m/\W (i+1) m' aN H')/\∀v H',(pj x).j' i H v H'->g v G H' λcQ au=>cf {af with c8:=N,dX:=N,gK:=af.c8} cQ au):=by
 refine⟨λi m G H=>m=x.cps.size-i/\i<=x.cps.size/\Pv i G H,⟨x.cps.size,by simp,es _,b8⟩,?_⟩;rintro i m G H ⟨rfl,hi,p⟩;obtain c6|zz:=y6 i x.cps.size
 .refine .inr ⟨c6,Pv (i+1),λaN H' fS=>⟨_,by lia,Y,c6,fS⟩,λy H' bl=>?_⟩;obtain⟨rfl,c,a7,rfl⟩:=bl;exact ax i c G _ a7 p
 have e:i=x.cps.size:=by lia
 subst e;exact .inl ⟨cP _,hd G H p⟩
def UX{g:h7}{tt:TT}{vs:sl Nat}{ai:ag}{af:I}{Qd:ag->Prop}(Pv:Nat->ag->Prop)(b8:Pv 0 (av ai af (.lst [])))(ax:∀i c H,x.cps[i]? =B c->Pv i H->g (.str ⟨#[c]⟩) (eZ G vs) H λcQ au=>eZ cQ vs=eZ G vs/\tt cQ au λb bc=>if b=a9 then b_ cQ bc λy cU=>∃bK,cU af=B (.lst bK)/\bK.length<cN/\Pv (i+1) (av cU af (.lst (bK++[y])))else Pv (i+1) bc)(hd:∀H,Pv x.cps.size H->Qd H):∃W:Nat->Nat->ag->Prop,(∃m,W 0 m (av ai af (.lst [])))/\∀i m H,W i m H->((pj x).stop i H/\Qd H)∨((pj x).go i H/\∃ie:ag->Prop,(∀H',ie H'->∃m',m'<m/\W (i+1) m' H')/\∀v H',(pj x).j' i H v H'->g v (eZ G vs) H' λcQ au=>eZ cQ vs=eZ G vs/\tt cQ au λb bc=>if b=a9 then b_ cQ bc λy cU=>∃bK,cU af=B (.lst bK)/\bK.length<cN/\ie (av cU af (.lst (bK++[y])))else ie bc):=by
 refine⟨λi m H=>m=x.cps.size-i/\i<=x.cps.size/\Pv i H,⟨x.cps.size,by simp,es _,b8⟩,?_⟩;rintro i m H ⟨rfl,hi,p⟩;obtain c6|zz:=y6 i x.cps.size
 .refine .inr ⟨c6,Pv (i+1),λH' fS=>⟨_,by lia,Y,c6,fS⟩,λy H' bl=>?_⟩;obtain⟨rfl,c,a7,rfl⟩:=bl;exact ax i c _ a7 p
 have e:i=x.cps.size:=by lia
 subst e;exact .inl ⟨cP _,hd H p⟩
def UY:hB X (sM .Mult) (λx y H Q=>∃c k:Nat,x=.str ⟨#[c]⟩/\y=.int (k:Int)/\1<k/\k<=1000/\Q (.str ⟨(hV k c).toArray⟩) H):=by
 intro _ s G H x y v u Q D ct cD h;obtain⟨c,k,rfl,rfl,O,_,q⟩:=h;obtain⟨t,rfl⟩:=ct;obtain⟨_,rfl⟩:=cD;have e:Txt.mul ⟨#[c]⟩ (k:Int)=⟨(hV k c).toArray⟩:=by
  unfold Txt.mul;rw[aL (by lia),aL (by
   intro z;rw[sE]at z;obtain z|z:=z
   .have:=eq_of_beq z;lia
   exact absurd (show((1:Nat)==0)=a9 from z) dQ)]
  congr 1;rw[u9];have g:∀(n:Nat)(bK:Array Nat),(hV n (#[c]:Array Nat)).foldl (·++·) bK=bK++(hV n c).toArray:=by intro n;induction n with|zero=>intro bK;simp|succ n ih=>intro bK;rw[AH,vX,ih,AH];apply Array.ext';simp
  rw[g];simp
 refine SB.mul (x:=⟨#[c]⟩) (n:=(k:Int)) ⟨?_,λ_ _=>?_,λ_ _=>?_⟩ λ_ _=>⟨.str _,H,D.tok _,⟨_,Y⟩,by rw[e];exact q⟩
 .rw[gW (by lia),gW (by lia)];rfl
 .show¬(((1:Nat):Int)>(2^63-1)/(k:Int));have:(1:Int)<=(2^63-1)/(k:Int):=(Int.le_ediv_iff_mul_le (by lia)).mpr (by lia)
  lia
 show a1a (1*(k:Int).toNat)=aK;rw[u9,Nat.one_mul];exact a4A (by lia)
def tC(b8 h:bq):Prop:=∀b o,b8.get? b=B o->h.get? b=B o
variable{bt:Nat->Nat->Bool}
section
variable{S:I}{bM zA:sl I}{Pv:Nat->ae->Prop}{St:Nat->bq->Prop}{b8:bq}
def UZ(P:bP)(w:bG)(A:da)(Pv:Nat->ae->Prop)(bt:Nat->Nat->Bool)(b8:bq):Prop:=∀i j u v (s:ay) (Q E:ae->ay->Prop),Pv i u->Pv j v->tC b8 s.heap->Q (.bool (bt i j)) s->b7 (bp P w) A (a1E .Lt u v) Q E s
def tC.on(aH:∀b,b∈zA∨b=S->b8.get? b=aa)(o:tC b8 h)(k:∀b o,b∉zA->b≠S->h.get? b=B o->h'.get? b=B o):tC b8 h':=λb cG e=>k b cG (λz=>by rw[aH b (.inl z)]at e;cases e) (λz=>by rw[aH b (.inr z)]at e;cases e) (o b cG e)
def a8w(W:Walks P w A.in1 b0 bM zA n Pv St)(C:UZ P w A.in1 Pv bt b8)(zB:S∉bM)(aH:∀b,b∈zA∨b=S->b8.get? b=aa)(k:Nat):∀(j:Nat)(s:ay)(tD:ae)(c:Nat),n-(j+1)=k->j+1<=n->St (j+1) s.heap->tC b8 s.heap->Pv (mx bt j) tD->s.heap.get? S=B {cls:=.type "list",dict:=aa,data:=.seq #[tD,tD] c,slots:=#[]}->(∀v h' tk,Pv (mx bt (n-1)) v->(∀b o,b∉zA->b≠S->s.heap.get? b=B o->h'.get? b=B o)->R (.ok (.ret v)) {s with heap:=h',toks:=tk})->my (bp P w) A (.builtin "min.loop" ⟨[.ref b0,.none,.ref S],[]⟩) R s:=by
 have U_:S∉zA:=λz=>zB (W.sub _ z);have nm:(toString "min" ++toString ".loop" :String)="min.loop" :=by decide
 induction k with
 |zero=>
  intro j s tD c aA bY fA aU GS lB d2;have zC:j+1=n:=by omega
  refine Q9 F.entry_min_loop ?_;rw[a18 AM _];show b7 _ A.in1 (AW (.ref S)>>=_) _ _ s;refine bB (wc lB Y ?_);show b7 _ A.in1 (tryCatch (pT (.ref b0)) _>>=_) _ _ s;refine bB (Qi (W.done s _ _ (zC ▸ fA) λh' tk dK=>?_));have vi:=dK S _ U_ lB;show b7 _ A.in1 (updateSeq S (λ_=>#[])>>=_) _ _ _;refine bB ?_;refine a1W vi Y (bB (ED (eJ (d2 tD _ tk (by rw[<-zC];exact GS) λb o xh mP e=>(nN _ _ (ej mP)).trans (dK b o xh e)))))
 |succ k ih=>
  intro j s tD c aA bY fA aU GS lB d2;have c6:j+1<n:=by omega
  refine Q9 F.entry_min_loop ?_;rw[a18 AM _];show b7 _ A.in1 (AW (.ref S)>>=_) _ _ s;refine bB (wc lB Y ?_);show b7 _ A.in1 (tryCatch (pT (.ref b0)) _>>=_) _ _ s;refine bB (Qi (W.item (j+1) s _ _ c6 fA λv h' tk bI n' dK=>?_));have vi:=dK S _ U_ lB;have lz:tC b8 h':=aU.on aH λb o a0 _ e=>dK b o a0 e;show b7 _ A.in1 (tryCatch (rB [v,v] (a1E .Lt v tD>>=_)) _>>=_) _ _ _;refine bB (Qi (rC (bB (C (j+1) (mx bt j) v tD _ _ _ bI GS lz ?_))));refine bB (rC (uw ?_));refine bB (ED (eJ ?_));cases a0:bt (j+1) (mx bt j)with|true=>simp only[jO];refine bB ?_;refine a1W vi Y (bB (ED ?_));rw[nm];have xi:∀f b o,b≠S->h'.get? b=B o->(h'.update S f).get? b=B o:=λf b o mP e=>(nN _ _ (ej mP)).trans e;refine eJ ⟨Qb AM _,ih (j+1) _ v _ (by omega) c6 (W.frame _ _ _ n' λb MB o e=>xi _ b o (λz=>zB (z ▸ MB)) e) (lz.on aH λb o _ mP e=>xi _ b o mP e) (by simp only[mx,a0,jO];exact bI) (rz _ vi Y) λkR jy Cj vj bJ=>d2 kR jy Cj vj λb o xh mP e=>bJ b o xh mP (xi _ b o mP (dK b o xh e))⟩|false=>simp only[qu,jN];refine bB (ED ?_);rw[nm];exact eJ ⟨Qb AM _,ih (j+1) _ tD c (by omega) c6 n' lz (by simp only[mx,a0,qu,jN];exact GS) vi λkR jy Cj vj bJ=>d2 kR jy Cj vj λb o xh mP e=>bJ b o xh mP (dK b o xh e)⟩
end
section
variable{l:I}{b6:Array ae}
def a8x{Q:ae->ay->Prop}(bT:A.handled=aa)(ar:s.heap.IsList l b6)(bV:0<b6.size)(C:UZ P w A.in1 (λi v=>b6[i]? =B v) bt s.heap)(h:∀v h' tk,b6[mx bt (b6.size-1)]? =B v->tC s.heap h'->Q v {s with heap:=h',toks:=tk}):b7 (bp P w) A (n4 (.builtin "min") [.ref l]) Q E s:=by
 have nm:(toString "min" ++toString ".loop" :String)="min.loop" :=by decide
 refine call_function_tree F.kind_min F.plain_min F.entry_min (F.args_min1 _) ?_;show b7 _ A.in1 (ajj "min" ["key","default"] 0 ⟨[],[]⟩>>=_) _ _ s;refine bB (a1R (show ajj "min" ["key","default"] 0 ⟨[],[]⟩=pure [aa,aa]from Y) (bB (eJ ?_)));have c6:l<s⁻¹:=by obtain⟨_,e,_⟩:=ar;exact dI e
 refine bB (a1S ar (bB (yq ?_)));rw[nm];have W:Walks P w A.in1 s⁻¹ _ _ _ _ _:=ajU (A:=A.in1) bT s⁻¹ l (h3 c6) b6;let O:=s.heap.push {cls:=.type "list_iterator",data:=.fields #[.ref l,.int 0 0]}
 have hK:O.objs.size=s⁻¹+1:=n1 ..;have zB:O.objs.size∉[s⁻¹,l]:=λz=>by
  obtain e|z:=dz.mp z
  .omega
  have e:O.objs.size=l:=jY.mp z;rw[<-e,hK]at c6;exact absurd c6 (AL.mpr (sH _))
 have aH:∀b,b∈[s⁻¹]∨b=O.objs.size->s.heap.get? b=aa:=λb a0=>by
  cases e:s.heap.get? b with
  |none=>rfl
  |some o=>
   have lt:=dI e;obtain e|e:=a0
   .rw[jY.mp e]at lt;exact absurd lt (ry _)
   rw[e,hK]at lt;exact absurd lt (AL.mpr (sH _))
 have cK:tC s.heap (O.push {cls:=.type "list",data:=.seq #[]}):=λb o e=>ef _ (ef _ e);refine eJ ⟨Qb AM _,?_⟩;refine Q9 F.entry_min_loop ?_;rw[a18 AM _];show b7 _ A.in1 (AW (.ref O.objs.size)>>=_) _ _ _;refine bB (wc (hW _ Y) Y ?_);show b7 _ A.in1 (tryCatch (pT (.ref s⁻¹)) _>>=_) _ _ _;have a8y:(λi (h:bq)=>h.IsListIter s⁻¹ l i/\h.IsList l b6) 0 (O.push {cls:=.type "list",data:=.seq #[]}):=⟨⟨_,ef _ (hW _ Y),Y,Y⟩,(ar.push _).push _⟩;refine bB (Qi (W.item 0 _ _ _ bV a8y λv h' tk bI n' dK=>?_));have vi:=dK O.objs.size _ (λz=>zB (W.sub _ z)) (hW _ Y);show b7 _ A.in1 (updateSeq O.objs.size (λ_=>#[v,v])>>=_) _ _ _;refine bB (a1W vi Y ?_);rw[nm];have lz:tC s.heap h':=cK.on aH λb o a0 _ e=>dK b o a0 e;have xi:∀f b o,b≠O.objs.size->h'.get? b=B o->(h'.update O.objs.size f).get? b=B o:=λf b o mP e=>(nN _ _ (ej mP)).trans e;refine eJ ⟨Qb AM _,a8w W C zB aH _ 0 _ v _ Y bV (W.frame _ _ _ n' λb MB o e=>xi _ b o (λz=>zB (z ▸ MB)) e) (lz.on aH λb o _ mP e=>xi _ b o mP e) bI (rz _ vi Y) λkR jy Cj vj bJ=>h kR jy Cj vj ?_⟩;exact(lz.on aH λb o _ mP e=>xi _ b o mP e).on aH λb o a0 ax e=>bJ b o a0 ax e
end
abbrev me(p q:Int×Int):Bool:=HT.lexLt [p.1,p.2] [q.1,q.2]
def xj(p q:Int×Int):me p q=a9↔p.1<q.1∨(p.1=q.1/\p.2<q.2):=by
 unfold me HT.lexLt HT.lexLt HT.lexLt;by_cases h:p.1=q.1
 .rw[aZ h];by_cases a5:p.2=q.2
  .rw[aZ a5];constructor
   .intro z;cases z
   intro z;lia
  rw[aL a5,mE];lia
 rw[aL h,mE];lia
def MC(f:Nat->Int×Int):∀k j,j<=k->me (f j) (f (mx (λi j=>me (f i) (f j)) k))=aK
 |0,j,h=>by
  have:j=0:=by lia
  subst this;cases z:me (f 0) (f (mx (λi j=>me (f i) (f j)) 0))with|false=>rfl|true=>have:=(xj _ _).mp z;unfold mx at this;lia
 |k+1,j,h=>by
  cases z:me (f j) (f (mx (λi j=>me (f i) (f j)) (k+1)))with
  |false=>rfl
  |true=>
   exfalso;have z:=(xj _ _).mp z;by_cases a0:me (f (k+1)) (f (mx (λi j=>me (f i) (f j)) k))=a9
   .have e:mx (λi j=>me (f i) (f j)) (k+1)=k+1:=by show(if _ then _ else _)=_;exact aZ a0
    rw[e]at z;by_cases bY:j=k+1
    .subst bY;lia
    have ih:=MC f k j (by lia);have a0:=(xj _ _).mp a0;have:me (f j) (f (mx (λi j=>me (f i) (f j)) k))=a9:=(xj _ _).mpr (by lia);rw[ih]at this;cases this
   have e:mx (λi j=>me (f i) (f j)) (k+1)=mx (λi j=>me (f i) (f j)) k:=by show(if _ then _ else _)=_;exact aL a0
   rw[e]at z;by_cases bY:j=k+1
   .subst bY;exact a0 ((xj _ _).mpr z)
   have ih:=MC f k j (by lia);rw[(xj _ _).mpr z]at ih;cases ih
def a8z(K:bb):sl V->ag->c2->Prop:=λvs H Q=>∃(l:I)(ts:sl I)(aJ:sl (Int×Int)),vs=[.ref l]/\bo K H l (ts.map V.ref)/\ts.length=aJ.length/\(∀(i:Nat) t p,ts[i]? =B t->aJ[i]? =B p->dt K H t [.int p.1,.int p.2])/\0<ts.length/\∀(i:Nat) t p,ts[i]? =B t->aJ[i]? =B p->(∀q∈aJ,me q p=aK)->Q (.ref t) H
def a8A(r:cC (ts.map V.ref) us):us=ts.map dO:=by
 induction ts generalizing us with
 |nil=>cases r;rfl
 |cons t ts ih=>cases r with|cons h r=>cases h;rw[ih r];rfl
def a8B(a7:X.calm=a9)(bx:X.A.in1.units<uk):q0 X (.builtin "min") (a8z X.K):=by
 intro _ s G H _ _ Q D r h;obtain⟨l,ts,aJ,rfl,ar,_,l1,bV,k⟩:=h;obtain⟨_,cB,di,_⟩:=D.list ar;rw[cC.KI r];have l2:=a8A cB;subst l2;let f:Nat->Int×Int:=λi=>aJ.getD i (0,0)
 have lp:(ts.map dO).toArray.size=ts.length:=by simp
 have at_:∀{i:Nat}{v:ae},(ts.map dO).toArray[i]? =B v->∃t,ts[i]? =B t/\v=.ref t/\aJ[i]? =B (f i):=fun{i v} e=>by
  rw[a0H,fW]at e;cases z:ts[i]? with
  |none=>rw[z]at e;cases e
  |some t=>
   rw[z]at e;have hi:=(ei.mp z).1;refine⟨t,Y,(h4 e).symm,?_⟩;have vh:i<aJ.length:=by lia
   show aJ[i]? =B (aJ.getD i (0,0));rw[ua,ff vh];rfl
 refine a8x (bt:=λi j=>me (f i) (f j)) (D.ok.hd a7) di.isList (by rw[lp];exact bV) (λi j u v _ _ _ hi bY aU q=>?_) λv _ _ bk aU=>?_
 .obtain⟨t,b9,rfl,aq⟩:=at_ hi;obtain⟨nz,vk,rfl,nF⟩:=at_ bY;obtain⟨a8C,cx,i0,_⟩:=D.tuple (l1 i t _ b9 aq);obtain⟨a8D,dT,eb,_⟩:=D.tuple (l1 j nz _ vk nF);have gO:sI a8C.toArray.toList [(f i).1,(f i).2]:=intsAre_of (ns:=[(f i).1,(f i).2]) cx;have g9:sI a8D.toArray.toList [(f j).1,(f j).2]:=intsAre_of (ns:=[(f j).1,(f j).2]) dT;obtain⟨o1,aO,eO⟩:=i0;obtain⟨o2,aT,gm⟩:=eb;exact HT.a3p ⟨o1,aU _ _ aO,eO⟩ ⟨o2,aU _ _ aT,gm⟩ gO g9 bx q
 obtain⟨t,b9,rfl,aq⟩:=at_ bk;refine⟨.ref t,H,D.kept aU,Y,k _ t _ b9 aq λq aQ=>?_⟩;obtain⟨j,bY⟩:=AD aQ;have U':=(ei.mp bY).1;have:=MC f ((ts.map dO).toArray.size-1) j (by rw[lp];lia);have e:f j=q:=by show aJ.getD j (0,0)=q;rw[ua,bY];rfl
 rw[e]at this;exact this
structure kf (k:Nat) (A:da):Prop where
 eF:A.depth+3*k+5<a1D
 un:A.units+16*k+200<uk
def dp.Ck(r:dp k A):kf k A:=⟨r.eF,r.un⟩
def kf.make(r:kf (k+1) A)(C:I)(us:sl ae):kf k (A.under (.builtin "type.__call__" ⟨.ref C::us,[]⟩)):=⟨by have:=r.eF;rw[Rl];lia,by have:=r.un;rw[Rm];lia⟩
structure GU (P:bP) (w:bG) (K:bb) (a6:a8->Iw ae) (base:bq) (k:Nat) (f:I) (fd:kp) (aJ:sl a8) (sp:bN):Prop where
 len:∀vs H Q E,sp vs H Q E->vs.length=aJ.length
 run:∀(A:da)(outer:sl eC)(s:ay)(H:ag)(args:Args)(us:sl ae)(vs:sl V)(Q:c2)(E:cW),kf k A->qK P w K a6 base A outer s H->ya s fd args (aJ.zip us)->cC vs us->sp vs H Q E->my (bp P w) A (.call (.ref f) args) (Kh cp outer P w H s Q E) s
abbrev xk(P:bP)(w:bG)(K:bb)(a6:a8->Iw ae)(base:bq)(N:sl a8)(bX:a8)(scope:i8)(f:I)(d6:ae)(A:da)(outer:sl eC)(s:ay)(H:ag)(E:cW):bA:={pd cp P w K a6 base N bX scope f d6 A outer s H E with calm:=aK,bL:=λ_ _=>False}
def Ck{bX:a8}{scope:i8}{d6:ae}{s1:ay}{ai:ag}{E:cW}(D:Inv (pd cp P w K a6 base N bX scope f d6 {A with handled:=aa} outer s H E) [] G ai s1):Inv (xk P w K a6 base N bX scope f d6 A outer s H E) [] G ai s1:=by obtain⟨ok,os,bare,bs,loc,cell,free,ll,pin,bQ,len⟩:=D;exact⟨⟨ok.mod,ok.kind,ok.glob,ok.blt,ok.above,ok.inj,ok.has,ok.sT,λz=>(nomatch z),ok.frames,ok.uB,ok.rK,ok.bs,ok.mG,ok.sU,ok.rL,ok.lj,ok.oX⟩,os,bare,bs,loc,cell,free,ll,pin,bQ,len⟩
def a8E{bX:a8}{st:bD}(F:oi K x bX st f fd)(S:b' N aJ (bh st))(len:∀vs H Q E,sp vs H Q E->vs.length=aJ.length)(s_:∀(bU:ae)(A:da)(outer:sl eC)(s:ay)(H:ag)(vs:sl V)(Q:c2)(E:cW),sp vs H Q E->∃t,ix (xk P w K a6 base N bX (bh st) f bU A outer s H E) (jR st) t/\t {c8:=λ_ H'=>Q .bR H',iw:=Q} (start N vs) H):GU P w K a6 base (k+1) f fd aJ sp:=by
 obtain⟨_,_,_,_,_,_,bU,_,_,rfl,lk,lq⟩:=F.ex;refine⟨len,λA outer s H _ us vs Q E ak e0 a0 r ly=>?_⟩;have ar:=len _ _ _ _ ly;have ba:K.In s.heap:=e0.mod.hY.keeps λb o e=>(e0.bs b o e).1;have Km:s.heap.NoLimit:=e0.mod.nolimit.keeps λb o e=>(e0.bs b o e).1;have aA:∀y∈aJ.zip us,(bh st).names.lookup y.1=B .local∨((bh st).names.lookup y.1=B .cell/\((iv (s⁻¹+1) (bh st).names []).lookup y.1).isSome=a9):=λ⟨n,v⟩ bl=>by
  obtain z|z:=S.par n (IU bl).1
  .exact .inl z
  exact .inr ⟨z,Q4 _ _ _ (.inl z)⟩
 refine a1w (by have:=ak.eF;lia) (ba _ _ lk) Y S.co S.gen Y (a1n ba lq) (a0 _ _ _ _ ?_);refine a1Q S.kind aA λ_ aF s1 x=>?_;subst aF;refine⟨Km.keeps x.toInCall.keep,a1x ?_⟩;obtain⟨t,b9,aQ⟩:=s_ bU A outer s H vs Q E ly;have aO:qK P w K a6 base {A with handled:=aa} outer s H:=⟨e0.frames,e0.mod,e0.bs,e0.mG,e0.lj,e0.oX,e0.bQ,e0.bare⟩;have D:=Ck (Kk (CX:=cp) (E:=E) (A:={A with handled:=aa}) S Y aO ar r x);refine mB (b9 [] s1 (start N vs) H _ D aQ) (λdG a_ ax=>?_) λe a_ ax=>ax.elim;cases dG with|ret u=>obtain⟨v,aN,H',d5,cB,q⟩:=ax;exact⟨v,H',d5.os,d5.bare,d5.base,d5.bQ,cB,q⟩|next=>obtain⟨aN,H',d5,q⟩:=ax;exact⟨.bR,H',d5.os,d5.bare,d5.base,d5.bQ,Y,q⟩|brk=>obtain⟨_,_,_,q⟩:=ax;exact hu q|cont=>obtain⟨_,_,_,q⟩:=ax;exact hu q
section
variable{E:cW}{e:bO}{t:gA}
def a8F{Q:c2}{vs:sl V}(ee:kc X.K C f cT)(F:GU X.prog X.w X.K X.a6 X.base k f fd aJ sp)(ak:kf (k+1) X.A)(a0:Binds X.K fd aJ [])(D:Inv X a4 G H s)(r:cC vs us)(aR:vs.length<=cN)(h:∀a,H a=aa->sp (.ref a::vs) (av H a (dW a C aa 0)) (λv au=>v=.bR/\Q (.ref a) au) E):b7 (bp X.prog X.w) X.A (n4 (.ref C) us) (h_ X a4 G Q) X.bL s:=by
 obtain⟨_,q,N,_,_,_,_,_,_,_,_,_,_,_,_,e5,dF,hi,_,_,_,_⟩:=ee.ex;obtain⟨_,hf,x4⟩:=ee.fn;have hY:=D.gX;obtain⟨aq,g,d,tk,os⟩:=s;have aQ:=h (aq.objs.size+1) (D.bQ.fresh (sH _));have c9:∀b u,aq.get? b=B u->((aq.push (nC us)).push (lE C aq.objs.size)).get? b=B u:=λb u z=>ef _ (ef _ z);have C6:((aq.push (nC us)).push (lE C aq.objs.size)).get? (aq.objs.size+1)=B (lE C aq.objs.size):=by heap_get
 have cM:Inv X a4 G (av H (aq.objs.size+1) (dW (aq.objs.size+1) C aa 0)) ⟨(aq.push (nC us)).push (lE C aq.objs.size),g,d,tk,os⟩:=
  D.laid (a:=aq.objs.size+1) (o:=dW (aq.objs.size+1) C aa 0) (t':=tk) c9 (sH _) (zo ⟨_,_,C6,Y,Y,Y,Y,λ_=>rfl,λ_=>rfl⟩)
 have dT:cC (V.ref (aq.objs.size+1)::vs) (dO (aq.objs.size+1)::us):=.cons Y r;have ar:(dO (aq.objs.size+1)::us++[]).length=aJ.length:=by have z:=dT.length;rw[F.len _ _ _ _ aQ]at z;rw[hU];exact z.symm
 have wU:=a0 ⟨(aq.push (nC us)).push (lE C aq.objs.size),g,d,tk,os⟩ (dO (aq.objs.size+1)::us) cM.gX ar;rw[hU]at wU;refine A_ (Uv aju (hY _ _ e5) (dF _ hY) hi (hY _ _ hf) x4 (w8 (F.run _ X.stack _ _ ⟨dO (aq.objs.size+1)::us,[]⟩ (dO (aq.objs.size+1)::us) _ _ E (ak.make C us) (cM.yT.make C us []) wU dT aQ) λiQ _ kv=>?_) (by rw[<-r.length];exact aR));cases iQ with
 |error iS=>exact kv.elim
 |ok dG=>cases dG with|ret u=>obtain⟨v,H',dJ,cB,iS,h9⟩:=cM.after kv;subst iS;exact⟨cB,⟨V.ref (aq.objs.size+1),H',dJ,Y,h9⟩⟩|next=>exact hu kv|brk=>exact hu kv|cont=>exact hu kv
def a8G(ee:kc X.K C f cT)(F:GU X.prog X.w X.K X.a6 X.base k f fd aJ sp)(ak:kf (k+1) X.A)(aI:hJ X x)(hm:X.a6 x=B (.ref C))(a0:Binds X.K fd aJ [])(bf:hI X (e::b5) t)(gj:kV x:=by decide)(aF:o9 X e b5:=by rfl)(eN:lx X pos b5:=by rfl):
  bS X (.Call (.Name x p) (e::b5) [] pos) (x7 C sp E t):=by
 intro a4 s G H Q D h;refine wa (o' D aI hm ?_ gj);exact ye (h₀:=X.base) D.ok.mod.hY ee.dK (bW (bf pos a4 s G H _ D h) λ_ _ ⟨_,_,aP,r,q⟩=>⟨aP.gX,a8F ee F ak a0 aP r q.1 q.2⟩) aF eN
end
section
variable{se:bD}{kd n:a8}{xb jf:Pos}{th:ez}{tn:I->ez}{E1 E2:cW}{gH:I}
def a8H(u:Nat)(N:sl a8)(C:I)(cf th:ez)(E1:cW):ez:=λaf G H=>cf af G H/\∀cls i_ H',E1 cls i_ H'->cls=.ref C/\th (Mx af) (hV N.length aa) H'
def a8I(fA:X.stack=X.env::X.outer)(hf:X.env.frame=B X.env.locals)(aI:hJ X kd)(hm:X.a6 kd=B (.ref C))(ee:kc X.K C gH cT)(a0:∀c_ bL,mO t (nE X c_ bL) E1->ix (nE X c_ bL) body cf)(ax:∀e c_ bL,ix (ow X e c_ bL) (se::sd) th)(gj:kV kd:=by decide):
  jr X (.Try body [.ExceptHandler (B (.Name kd xb)) aa (se::sd) jf] [] [] pos) (a8H t X.N C cf th E1):=by
 intro a4 s G H af D h;obtain⟨O,a5⟩:=h;rw[a1u];refine bB (rE (a1V ?_));have Cf:mO t (nE X (X.c_++a4) (λe dw=>b7 (bp X.prog X.w) X.A (uo e X.env) (λ_ j9=>b7 (bp X.prog X.w) X.A (AY e aa) (λ_ p7=>b7 (bp X.prog X.w) X.A (a1A e X.env [.ExceptHandler (B (.Name kd xb)) aa (se::sd) jf]) (nc X a4 af) X.bL p7) X.bL j9) X.bL dw)) E1:=by intro _ aN H' s1 e _ _ m _ _ T aP q md dq x pG fb;obtain⟨qT,bT⟩:=a5 _ _ _ fb;cases qT;have xc:Inv X a4 aN H' s1:=xa aP;have xd:∀t,T=B t->H' t=aa/\∀p∈X.c_++a4,p.1≠t:=λt z=>⟨(dq t z).1,λp aq=>(dq t z).2 p (sG _ aq)⟩;refine GL (X:=X) Y fA hf xc q md.1 xd x pG λ_ _ dJ vc ik=>?_;refine vb (X:=X) (fr:=aa) dJ q md.1 vc ik λ_ f' iF=>?_;obtain⟨_,_,N,_,_,_,_,_,_,_,_,_,_,_,_,e5,_,_⟩:=ee.ex;refine a1N (a1y ?_) (by intro z;cases z);have jt:=zw (e:=e) (bL:=λ_ _=>True) f';refine o' (X:=ow X e (X.c_++a4) λ_ _=>True) jt aI hm ?_ gj;obtain⟨_,_,dr,dy,_,_,_,_,_⟩:=iF.obj;refine a1L (bm:=ov) (newId:="ValueError.__new__") (f'.gX _ _ e5) dr dy Y ?_;show my _ _ _ _ _;refine codeAny_handlers_suite ?_;refine vb (X:=X) (fr:=aa) f' q md.1 vc iF λ_ ju _=>?_;have fR:=zw (e:=e) (a4:=a4) (bL:=zx X e) (Inv.blank ju);rw[UN,show aN.length=X.N.length from aP.len]at fR;refine bW (ax e (X.c_++a4) _ [] _ _ H' _ fR bT) λf _ z=>?_;cases f with|next=>obtain⟨_,_,_,z⟩:=z;exact z.elim|brk=>obtain⟨_,_,_,z⟩:=z;exact z.elim|cont=>obtain⟨_,_,_,z⟩:=z;exact z.elim|ret u=>obtain⟨v,_,oc,qO,Cg,nx⟩:=z;exact⟨v,_,oc,GK D.ok qO,Cg,nx⟩
 refine mB (a0 _ _ Cf [] s G H af (Mv D) O) (λf s1 z=>?_) λe s1 z=>z;have z:=Mw z;cases f with|next=>exact wb z|brk=>exact z|cont=>exact z|ret u=>exact z
def zD(u:Nat)(X:bA)(G:L2.St)(E:cW):Prop:=∀(a4:sl (I×bH))(H:ag)(s:ay)(e C a3:I)(m:Nat)(e4 dG:ae)(T:Iw I),Inv X a4 G H s->H e=B (dW e C (B a3) m)->(1<=m/\m<=u)->(∀t,T=B t->H t=aa/\∀p∈X.c_++a4,p.1≠t)->hE X.gz⁻¹ e C (B a3) e4 T dG s.heap->(dG=.none∨(T.isSome=a9/\dG=iN X.env.locals))->E (.ref C) (B a3) H->X.bL (.ref e) s
def GV(X:bA)(G:L2.St)(e:bO)(t:bZ):Prop:=∀(a4:sl (I×bH))(s:ay)(H:ag)(Q:c2),Inv X a4 G H s->t G H Q->b7 (bp X.prog X.w) X.A (eval e X.env) (h_ X a4 G Q) X.bL s
def zD.passes{E:cW}(c:zD u X G E)(bx:t<=u){a_:ay}{iS:ae}(D:Inv X a4 G H s)(h:mb t X.prog X.w X.stack H s E iS a_):X.bL iS a_:=by obtain⟨e,C,a3,m,T,e4,H',rfl,aU,aI,un,bQ,q,hm,Ca,x,fb⟩:=h;have et:Inv X a4 G H' a_:=D.EW (ch:=[]) aU un bQ aI (λ_ z=>nomatch z);refine c a4 H' a_ e C a3 m e4 .none (B T) et q ⟨hm.1,dE hm.2 bx⟩ (λt z=>?_) (x.mono D.lp) (.inl Y) fb;cases z;refine⟨Ca,λp aq z=>?_⟩;have a:=(x.cf T Y).1;have b:=dI (D.pin p aq).1;rw[z]at b;exact absurd b (AL.mpr a)
def a8J{E:cW}{e:bO}{c1:gA}(F:jP X.prog X.w X.K X.a6 X.base (mb t X.prog X.w) k f fd aJ sp)(ak:dp k X.A)(aI:hJ X x)(hm:X.a6 x=B (.ref f))(aA:nQ X.K (.ref f)=a9)(a0:Binds X.K fd aJ [])(c:zD u X G E)(bx:t<=u)(bf:hI X (e::b5) c1)(gj:kV x:=by decide)(aF:o9 X e b5:=by rfl)(eN:lx X pos b5:=by rfl):
  GV X G (.Call (.Name x p) (e::b5) [] pos) (iR sp [] E c1):=by
 intro a4 s H Q D h;refine wa (o' D aI hm ?_ gj);refine ye (h₀:=X.base) D.ok.mod.hY aA (bW (bf pos a4 s G H _ D h) λus s1 ⟨vs,ai,aP,r,q⟩=>⟨aP.gX,?_⟩) aF eN;have dT:cC (vs++[]) (us++[]):=r.append .nil;have ar:(us++[]).length=aJ.length:=by rw[<-dT.length];exact F.len _ _ _ _ q
 refine A_ (w8 (F.run X.A X.stack s1 ai ⟨us,[]⟩ (us++[]) (vs++[]) Q E ak aP.yT (a0 s1 us aP.gX ar) dT q) λr _ aQ=>?_);cases r with
 |error e=>exact c.passes bx aP aQ
 |ok dG=>cases dG with|ret u=>exact aP.after aQ|next=>exact hu aQ|brk=>exact hu aQ|cont=>exact hu aQ
def a8K{j:Nat}{y:a8}{oe uR:Pos}{ex:bO}(dF:X.N.Nodup)(bY:X.N[j]? =B y)(bl:X.env.scope.names.lookup y=B .local)(aF:GV X G ex b_)(BG:sN ex (B (.Name y oe)) uR.line X.env=pure aK)(D:Inv X a4 G H s)(h:p6 b_ (mJ j) af G H):b7 (bp X.prog X.w) X.A (execs [.Assign [.Name y oe] ex uR] X.env) (nc X a4 af) X.bL s:=by refine a1M ?_;refine akg (bW (aF a4 s H _ D h) λv _ ⟨z,ai,aP,cx,bw⟩=>?_) BG;exact yH aP dF bY (.inl bl) cx (λ_ cM=>wb ⟨_,ai,cM,bw⟩) (.inr bl)
def a8L(u:Nat)(i j:Nat)(C:I)(b_:bZ)(tn:I->ez)(E1:cW):ez:=λaf G H=>p6 b_ (mJ j) af G H/\∀cls i_ H',E1 cls i_ H'->cls=.ref C/\∀e a3 m,i_=B a3->H' e=B (dW e C (B a3) m)->(1<=m/\m<=u)->tn e (Mx af) (G.set i (B (.ref e))) H'
def a8M{j:Nat}{y:a8}{oe uR:Pos}{ex:bO}(fA:X.stack=X.env::X.outer)(hf:X.env.frame=B X.env.locals)(dF:X.N.Nodup)(hi:X.N[i]? =B n)(ar:X.env.scope.names.lookup n=B .local)(bY:X.N[j]? =B y)(bl:X.env.scope.names.lookup y=B .local)(aI:hJ X kd)(hm:X.a6 kd=B (.ref C))(ee:kc X.K C gH cT)(a0:∀G c_ bL,zD t (nE X c_ bL) G E1->GV (nE X c_ bL) G ex b_)(c:mO u X E2)(ax:∀e c_ bL,mO u (ow X e c_ bL) E2->ix (ow X e c_ bL) (se::sd) (tn e))(BG:sN ex (B (.Name y oe)) uR.line X.env=pure aK:=by rfl)(gj:kV kd:=by decide):
  jr X (.Try [.Assign [.Name y oe] ex uR] [.ExceptHandler (B (.Name kd xb)) (B n) (se::sd) jf] [] [] pos) (a8L t i j C b_ tn E1):=by
 intro a4 s G H af D h;obtain⟨O,a5⟩:=h;rw[a1u];refine bB (rE (a1V ?_));have Cf:zD t (nE X (X.c_++a4) (λe dw=>b7 (bp X.prog X.w) X.A (uo e X.env) (λ_ j9=>b7 (bp X.prog X.w) X.A (AY e aa) (λ_ p7=>b7 (bp X.prog X.w) X.A (a1A e X.env [.ExceptHandler (B (.Name kd xb)) (B n) (se::sd) jf]) (nc X a4 af) X.bL p7) X.bL j9) X.bL dw)) G E1:=by intro _ H' s1 e _ a3 m _ _ T aP q md dq x pG fb;obtain⟨qT,bT⟩:=a5 _ _ _ fb;cases qT;have xc:Inv X a4 G H' s1:=xa aP;have xd:∀t,T=B t->H' t=aa/\∀p∈X.c_++a4,p.1≠t:=λt z=>⟨(dq t z).1,λp aq=>(dq t z).2 p (sG _ aq)⟩;refine GL (X:=X) Y fA hf xc q md.1 xd x pG λ_ _ dJ vc ik=>?_;refine vb (X:=X) (fr:=aa) dJ q md.1 vc ik λ_ f' iF=>?_;obtain⟨_,_,N,_,_,_,_,_,_,_,_,_,_,_,_,e5,_,_⟩:=ee.ex;refine a1N (a1y ?_) (by intro z;cases z);have jt:=zw (e:=e) (bL:=λ_ _=>True) f';refine o' (X:=ow X e (X.c_++a4) λ_ _=>True) jt aI hm ?_ gj;obtain⟨_,_,dr,dy,_,_,_,_,_⟩:=iF.obj;refine a1L (bm:=ov) (newId:="ValueError.__new__") (f'.gX _ _ e5) dr dy Y ?_;show my _ _ _ _ _;refine ak4 ?_;refine vb (X:=X) (fr:=aa) f' q md.1 vc iF λ_ ju _=>?_;have fR:=zw (e:=e) (a4:=a4) (bL:=(Cd X n jf e)) ju;refine yH (X:=ow X e (X.c_++a4) (Cd X n jf e)) fR dF hi (.inl ar) (v:=.ref e) Y (λq3 uQ=>?_) (.inr ar);have ah:=bT e a3 m Y q md;have run:=ax e (X.c_++a4) _ (UO (jf:=jf) (n:=n) (e:=e) (a4:=a4) D.ok fA hf ar c) [] q3 _ H' _ uQ ah;refine bW run λf m3 z=>?_;cases f with|next=>obtain⟨_,_,_,z⟩:=z;exact z.elim|brk=>obtain⟨_,_,_,z⟩:=z;exact z.elim|cont=>obtain⟨_,_,_,z⟩:=z;exact z.elim|ret u=>obtain⟨v,GQ,oc,qO,Cg,nx⟩:=z;have qP:Inv X a4 GQ oc m3:=GK D.ok qO;obtain⟨_,aH,_⟩:=qP.loc;refine a1P ar aH (by rw[qP.ok.kind];rfl) λ_ _ My Mz=>?_;exact⟨v,_,oc,Inv.forget (t':=m3.toks+1) qP My Mz,Cg,nx⟩
 refine mB (a8K (X:=nE X (X.c_++a4) _) dF bY bl (a0 G _ _ Cf) BG (Mv D) O) (λf s1 z=>?_) λe s1 z=>z;have z:=Mw z;cases f with|next=>exact wb z|brk=>exact z|cont=>exact z|ret u=>exact z
end
inductive V0 (Q:c2) (x:V) (ai:ag):Prop
 |mk:∀z:a8,(x=.str z)->z.length<=cN->Q (.str z) ai->V0 Q x ai
def MD(b_:bZ):bZ:=λG H Q=>b_ G H (V0 Q)
def V1{e:bO}(aF:bS X e b_):bS X (.FormattedValue e (-1) aa pos) (MD b_):=by intro a4 s G H Q D h;refine FormattedValue_plain (bW (aF a4 s G H _ D h) λv _ ⟨x,ai,aP,cx,z,ex,aR,q⟩=>?_);subst ex;obtain⟨t,rfl⟩:=cx;exact formatField_str (λt' _=>⟨.str z,ai,aP.tok _,⟨t',Y⟩,q⟩) aR
def ME:sl bZ->a8->L2.St->ag->c2->Prop
 |[],bK,_,H,Q=>bK.length<=cN/\Q (.str bK) H
 |t::ts,bK,G,H,Q=>t G H λx ai=>∃y:a8,x=.str y/\(bK++y).length<=cN/\ME ts (bK++y) G ai Q
def MF(X:bA):sl bO->sl bZ->Prop
 |[],[]=>True
 |e::b5,t::ts=>bS X e t/\MF X b5 ts
 |_,_=>False
def a8N{Q:c2}:∀(b5:sl bO)(ts:sl bZ)(bK:a8)(H:ag)(s:ay),MF X b5 ts->Inv X a4 G H s->ME ts bK G H Q->Joins (bp X.prog X.w) X.A X.bL (evalEach b5 X.env) bK (λob dw=>ob.length<=cN/\h_ X a4 G Q (.str ob dw.toks) {dw with toks:=dw.toks+1}) s:=by
 intro b5;induction b5 with
 |nil=>intro ts bK H s aq D h;cases ts with|nil=>exact⟨h.1,.str bK,H,D.tok _,⟨_,rfl⟩,h.2⟩|cons t ts=>exact(aq:False).elim
 |cons e b5 ih=>intro ts bK H s aq D h;cases ts with|nil=>exact(aq:False).elim|cons t ts=>show b7 _ _ (eval e X.env) _ _ s;refine bW (aq.1 a4 s G H _ D h) λv s1 z=>?_;obtain⟨x,ai,aP,cx,y,ex,aR,q⟩:=z;subst ex;obtain⟨t',rfl⟩:=cx;exact⟨y,t',Y,aR,ih ts _ ai s1 aq.2 aP q⟩
def a8O{V2 GW:bO}{rest:sl bO}{ts:sl bZ}(h:MF X (V2::GW::rest) ts):bS X (.JoinedStr (V2::GW::rest) pos) (λG H Q=>ME ts AQ G H Q):=by intro _ s G H Q D aQ;exact wpAny_JoinedStr (a8N _ _ _ H s h D aQ)
def pH(h:bq)(e0:I):Prop:=∃mM ot,h.get? e0=B mM/\mM.data=.fields ot/\ot[2]? =B .none
def pH.keeps(x:pH h e0)(k:∀o,h.get? e0=B o->h'.get? e0=B o):pH h' e0:=let⟨o,vs,a,b,c⟩:=x;⟨o,vs,k o a,b,c⟩
def V3{br:Type}{Q:br->ay->Prop}(bT:A.handled=B (.ref e0))(b8:pH s.heap e0)(fb:∀h' e,(∀b o,s.heap.get? b=B o->h'.get? b=B o)->(∃o,h'.get? e=B o/\o.cls=.type "StopIteration")->E (.ref e) {s with heap:=h'}):b7 (bp prog w) A (Je (.type "StopIteration") []>>=λe=>(Jg e:hX br)) Q E s:=by
 obtain⟨_,_,b8,ou,C7⟩:=b8;refine bB ?_;simp only[Je,newTuple];refine bB (yq (bB (m:=Qa _ _) (a1R (a:=eS) (by first|rfl|(simp only[Qa];rfl)) (yq ?_ (by size_fits)))) (by size_fits));refine Uw bT (h3 (dI (ef _ b8))) (hW _ rfl) rfl (by simp;lia) (ef _ (ef _ b8)) ou C7 (fb _ _ (λb o z=>?_) ?_)
 .exact(nN _ _ (y8 (dI (ef _ z)))).trans (ef _ (ef _ z))
 exact⟨_,rz _ (hW _ Y) Y,Y⟩
def V4{br:Type}{l:I}{items:Array ae}{nl:Nat}{ol:bH}{Q:br->ay->Prop}{n:String}{kx:ae->hX br}(bT:A.handled=B (.ref e0))(b8:pH s.heap e0)(bV:e0≠b0)(aU:s.heap.get? b0=B o)(hd:o.data=.fields #[.ref l,.int i 0])(fb:∀h' e,J1 b0 s.heap h'->(∃o,h'.get? e=B o/\o.cls=.type "StopIteration")->E (.ref e) {s with heap:=h'}):b7 (bp prog w) A (qA n>>=λ_=>a1G (.ref b0) 0 .none>>=λ_=>(Je (.type "StopIteration") []>>=λe=>(Jg e:hX br))) Q E s:=by refine bB (Qh (bB (uv aU hd (by simp) (V3 bT (b8.keeps λo z=>(nN _ _ bV.symm).trans z) λh' e k aF=>?_))));exact fb h' e (λb o a0 z=>k b o ((nN _ _ a0.symm).trans z)) aF
def V5{t:I}{items}{Q:Iw ae->ay->Prop}(bT:A.handled=B (.ref e0))(b8:pH s.heap e0)(bV:e0≠b0)(gn:IsTupIter s.heap b0 t i)(b9:Eh s.heap t items)(ah:items[i]? =aa)(iO:∀h',J1 b0 s.heap h'->Q aa {s with heap:=h'}):b7 (bp prog w) A (pT (.ref b0)) Q E s:=by obtain⟨o,aU,_,hd⟩:=id gn;obtain⟨ol,ve,_,nl,xf⟩:=b9;unfold pT;refine bB (a1K (EB (name:=n2 "__next__") gn.typeIs ajf (EC ajf gn.typeIs entry_tupleiter_next ?_ (args_tupleiter_next _))));refine(show b7 _ _ (rA (.ref b0) 0>>=_) _ _ s from bB (jM aU hd (x:=.ref t) Y ?_));refine(show b7 _ _ (if(dO t==eS)=a9 then _ else _) _ _ s from ?_);rw[aL (show¬((dO t==eS)=a9)from i6)];refine(show b7 _ _ (rA (.ref b0) 1>>=_) _ _ s from bB (jM aU hd (x:=.int i 0) Y ?_));refine(show b7 _ _ (AW (.ref t)>>=_) _ _ s from bB (wc ve xf ?_));simp only[u9,ah];refine V4 (kx:=λ_=>pure default) (items:=items) (nl:=nl) (ol:=ol) bT b8 bV aU hd λh' e k aF=>?_;obtain⟨cR,O,a5⟩:=aF;exact bB (a1O (T:="StopIteration") (b:=a9) ⟨cR,O,a5⟩ a1C (eJ (iO _ k)))
def V6{l:I}{items}{Q:ae->ay->Prop}(bT:A.handled=B (.ref e0))(b8:pH s.heap e0)(bV:e0≠b0)(gn:s.heap.IsListIter b0 l i)(ar:s.heap.IsList l items)(ah:items[i]? =aa)(fb:∀h' e,J1 b0 s.heap h'->(∃o,h'.get? e=B o/\o.cls=.type "StopIteration")->E (.ref e) {s with heap:=h'}):b7 (bp prog w) A (yb (.ref b0)) Q E s:=by obtain⟨o,aU,_,hd⟩:=id gn;obtain⟨ol,ve,_,nl,xf⟩:=ar;unfold yb;refine bB (EB (name:=n2 "__next__") gn.typeIs akd (EC akd gn.typeIs entry_listiter_next ?_ (args_listiter_next _)));refine(show b7 _ _ (rA (.ref b0) 0>>=_) _ _ s from bB (jM aU hd (x:=.ref l) Y ?_));refine(show b7 _ _ (if(dO l==eS)=a9 then _ else _) _ _ s from ?_);rw[aL (show¬((dO l==eS)=a9)from i6)];refine(show b7 _ _ (rA (.ref b0) 1>>=_) _ _ s from bB (jM aU hd (x:=.int i 0) Y ?_));refine(show b7 _ _ (AW (.ref l)>>=_) _ _ s from bB (wc ve xf ?_));simp only[u9,ah];exact V4 (kx:=λ_=>pure default) (items:=items) (nl:=nl) (ol:=ol) bT b8 bV aU hd fb
def a8P{t:jL}{Q:Iw ae->ay->Prop}(bT:A.handled=B (.ref e0))(b8:pH s.heap e0)(bV:e0≠b0)(gn:s.heap.IsStrIter b0 "str_ascii_iterator" x t i)(ah:x.cps[i]? =aa)(iO:∀h',J1 b0 s.heap h'->Q aa {s with heap:=h'}):b7 (bp prog w) A (pT (.ref b0)) Q E s:=by obtain⟨o,aU,_,hd⟩:=id gn;unfold pT;refine bB (a1K (EB (name:=n2 "__next__") gn.typeIs ajw (EC ajw gn.typeIs F.entry_str_ascii_iterator_next ?_ (F.args_str_ascii_iterator_next_1 _))));refine(show b7 _ _ (rA (.ref b0) 0>>=_) _ _ s from bB (jM aU hd (x:=.str x t) Y ?_));refine(show b7 _ _ (rA (.ref b0) 1>>=_) _ _ s from bB (jM aU hd (x:=.int i 0) Y ?_));simp only[u9,ah];refine bB (Qh (bB (uv aU hd (by simp) (bB (ED (V3 bT (b8.keeps λo z=>(nN _ _ bV.symm).trans z) λh' e k aF=>?_))))));obtain⟨cR,O,a5⟩:=aF;exact bB (a1O (T:="StopIteration") (b:=a9) ⟨cR,O,a5⟩ a1C (eJ (iO _ λb o a0 z=>k b o ((nN _ _ a0.symm).trans z))))
def a8Q{z TI g4 gO g9 iX gD:I}{cK bJ:Nat}{xs ys:Array ae}{a b:ae}{Q:Iw ae->ay->Prop}(bT:A.handled=B (.ref e0))(b8:pH s.heap e0)(r3:e0≠z/\e0≠g4/\e0≠gO/\e0≠g9)(af:a1t z TI g4 gO g9 iX gD)(aR:Ek s.heap z TI g4 .none)(iW:AN s.heap TI (.ref gO) (.ref g9))(jz:AN s.heap g4 a b)(O:s.heap.IsListIter gO iX cK)(a5:s.heap.IsListIter g9 gD bJ)(gu:s.heap.IsList iX xs)(hp:s.heap.IsList gD ys)(BO:xs[cK]? =aa∨ys[bJ]? =aa)(iO:∀h',(∀c o,c≠z->c≠g4->c≠gO->c≠g9->s.heap.get? c=B o->h'.get? c=B o)->Q aa {s with heap:=h'}):b7 (bp prog w) A (pT (.ref z)) Q E s:=by
 have dq:s.TypeIs (.ref z) "zip" :=⟨_,aR,Y⟩;have fin:∀h' e,(∀c o,c≠z->c≠g4->c≠gO->c≠g9->s.heap.get? c=B o->h'.get? c=B o)->(∃o,h'.get? e=B o/\o.cls=.type "StopIteration")->b7 (bp prog w) A (a1B (.ref e) (.type "StopIteration")>>=λb=>if b=a9 then pure aa else throw (.ref e)) Q E {s with heap:=h'}:=λh' e k aF=>by obtain⟨cR,O,a5⟩:=aF;exact bB (a1O (T:="StopIteration") (b:=a9) ⟨cR,O,a5⟩ a1C (eJ (iO _ k)))
 unfold pT;refine bB (a1K (EB (name:=n2 "__next__") dq ajx (EC ajx dq F.entry_zip_next ?_ (F.args_zip_next_1 _))));refine(show b7 _ _ (rA (.ref z) 2>>=_) _ _ _ from bB (jM aR Y (x:=.bool aK) Y ?_));refine(show b7 _ _ (rA (.ref z) 3>>=_) _ _ _ from bB (jM aR Y (x:=.ref TI) Y (bB (wc iW Y ?_))));refine(show b7 _ _ (ajk (.ref z)>>=_) _ _ _ from bB ?_);unfold ajk;refine bB (jM aR Y (x:=.none) Y (eJ ?_));simp only[jO];refine bB (Qh (bB (jM aR Y (x:=.ref g4) Y (bB (a1T aR (by simp) λjx GX l0=>?_)))));replace GX:Ek jx z TI g4 .ellipsis:=GX;have V7:=b8.keeps λo q=>l0.extBut _ o r3.1 q;refine bB ?_;simp only[List.zipIdx_cons,List.zipIdx_nil,aiL,a0G];refine bB (bB (akq ?_));refine(show b7 _ _ (yb (.ref gO)>>=_) _ _ _ from ?_);cases ah:xs[cK]? with
 |none=>
  refine bB (V6 bT V7 r3.2.2.1 (O.extBut l0.extBut af.i1z) (gu.extBut l0.extBut af.l1z) ah λtb e tE ⟨cR,tB,tc⟩=>?_);have V8:Ek tb z TI g4 .ellipsis:=tE _ _ af.i1z.symm GX;have MG:e≠z:=λq=>by subst q;rw[V8]at tB;cases tB;simp at tc
  exact a1T V8 (by simp) λBz _ vl=>fin Bz e (λc o eO _ tf _ q=>vl.extBut _ _ eO (tE _ _ tf (l0.extBut _ _ eO q))) ⟨cR,vl.extBut _ _ MG tB,tc⟩
 |some x=>
  have bl:ys[bJ]? =aa:=by obtain q|q:=BO;rw[ah]at q;cases q;exact q
  refine bB (wpAny_nextOf_list_item (O.extBut l0.extBut af.i1z) (gu.extBut l0.extBut af.l1z) ah λtb _ tE=>eJ ?_);have V9:AN tb g4 a b:=tE.extBut _ _ af.TOi1 (l0.extBut _ _ af.TOz jz);refine bB (wc V9 Y (bB (wpAny_updateSeq_pair V9 λBz _ vl=>bB (ED (eJ ?_)))));refine bB (bB (akq (show b7 _ _ (yb (.ref g9)>>=_) _ _ _ from ?_)));have a8R:=(V7.keeps λo q=>tE.extBut _ o r3.2.2.1 q).keeps λo q=>vl.extBut _ o r3.2.1 q;refine bB (V6 bT a8R r3.2.2.2 (((a5.extBut l0.extBut af.i2z).extBut tE.extBut af.i12.symm).extBut vl.extBut af.TOi2.symm) (((hp.extBut l0.extBut af.l2z).extBut tE.extBut af.l2i1).extBut vl.extBut af.l2TO) bl λKU e Va ⟨cR,tB,tc⟩=>?_);have Vb:Ek KU z TI g4 .ellipsis:=Va _ _ af.i2z.symm (vl.extBut _ _ af.TOz.symm (tE.extBut _ _ af.i1z.symm GX));have MG:e≠z:=λq=>by subst q;rw[Vb]at tB;cases tB;simp at tc
  exact a1T Vb (by simp) λKV _ Vc=>fin KV e (λc o eO gm tf u_ q=>Vc.extBut _ _ eO (Va _ _ u_ (vl.extBut _ _ gm (tE.extBut _ _ tf (l0.extBut _ _ eO q))))) ⟨cR,Vc.extBut _ _ MG tB,tc⟩
def a8S{D Cm:I}(bT:A.handled=B (.ref e0))(bV:Cm≠D)(r3:e0≠D)(items:Array ae):Walks prog w A D [D,Cm,e0] [D] items.size (λi v=>items[i]? =B v) (λi h=>h.IsTupleIter D Cm i/\h.IsTuple Cm items/\pH h e0) where
 sub:=λb a0=>by simp at a0;simp[a0]
 frame:=λ_ _ _ st aA=>⟨st.1.at λo e=>aA D (by simp) o e,st.2.1.at λo e=>aA Cm (by simp) o e,st.2.2.keeps λo e=>aA e0 (by simp) o e⟩
 item:=λi s Q E hi st iO=>akw st.1 st.2.1 (x:=items[i]) (by simp[hi]) λh' BL zy=>iO _ h' s.toks (by simp[hi]) ⟨BL,st.2.1.extBut zy.extBut bV,st.2.2.keeps λo e=>zy.extBut _ o r3 e⟩ λb o a0 e=>zy.extBut b o (λh=>a0 (by simp[h])) e
 done:=λs Q E st iO=>V5 bT st.2.2 r3 st.1 st.2.1 (by simp) λh' wI=>iO h' s.toks λb o a0 e=>wI b o (λh=>a0 (by simp[h])) e
 self:=λ_ _ _ _ st iO=>aku st.1 iO
def a8T{a b:Int}{t u:jL}{Q:ae->ay->Prop}(bT:A.handled=B (.ref e0))(b8:pH s.heap e0)(h:∀h' tk,(∀c o,s.heap.get? c=B o->h'.get? c=B o)->Q (if b>a then .int b u else .int a t) {s with heap:=h',toks:=tk}):b7 (bp prog w) A (n4 (.builtin "max") [.int a t,.int b u]) Q E s:=by
 have dq:(s.heap.push {cls:=.type "tuple",data:=.seq #[.int a t,.int b u]}).IsTuple s⁻¹ (yn #[(a,t),(b,u)]):=⟨_,hW _ Y,Y,0,by simp[yn]⟩;have c6:∀{c:I}{o:bH},s.heap.get? c=B o->c<(s.heap.push {cls:=.type "tuple",data:=.seq #[.int a t,.int b u]}).objs.size:=λe=>dI (ef _ e);have Vd:s⁻¹<(s.heap.push {cls:=.type "tuple",data:=.seq #[.int a t,.int b u]}).objs.size:=by obtain⟨o,e,_⟩:=dq;exact dI e
 have MH:∀o:bH,(s.heap.push {cls:=.type "tuple",data:=.seq #[.int a t,.int b u]}).objs.size<((s.heap.push {cls:=.type "tuple",data:=.seq #[.int a t,.int b u]}).push o).objs.size:=λo=>by rw[n1 (s.heap.push _)];exact AK _
 obtain⟨_,_,GY,_,_⟩:=id b8;refine call_max_two (Jk dq ⟨_,[_,s⁻¹,e0],[_],_,_,_,_,Y,a8S (A:=A.in1) bT (h3 Vd) (h3 (c6 GY)) (yn #[(a,t),(b,u)]),⟨⟨_,hW _ Y,Y,Y⟩,dq.push _,b8.keeps λo e=>ef _ (ef _ e)⟩,λc a7=>?_,by simp[yn],CmpOf.ints_gt (numAt #[(a,t),(b,u)]) (λ_ _=>intItems_at),λv h' tk bI aA=>?_⟩)
 .obtain q|a7:=dz.mp a7
  .rw[q];exact MH _
  obtain q|a7:=dz.mp a7
  .rw[q];exact IX Vd (MH _)
  rw[jY.mp a7];exact IX (c6 GY) (MH _)
 have hold:∀c o,s.heap.get? c=B o->h'.get? c=B o:=λc o e=>aA c o (λhm=>h3 (c6 e) (by simpa using hm)) (ef _ (ef _ e));have bk:v=if b>a then w6 b u else w6 a t:=by
  have vj:(yn #[(a,t),(b,u)])[mx (λi j=>decide (numAt #[(a,t),(b,u)] i>numAt #[(a,t),(b,u)] j)) 1]? =B v:=by rw[<-show(yn #[(a,t),(b,u)]).size-1=1 by simp[yn]];exact bI
  by_cases Ve:b>a<;>·simp[mx,numAt,Ve]at vj;simpa[yn,Ve]using vj.symm
 rw[bk];exact h h' tk hold
def a8U{eM}{t:I}{items:Array ae}(bT:A.handled=B (.ref e0))(b8:pH s.heap e0)(b9:Eh s.heap t items)(aH:(sL kY env).length=items.size)(a8V:(sL kY env).findIdx? (·.1)=aa)(h:∀h',(∀b o,s.heap.get? b=B o->h'.get? b=B o)->b7 (bp prog w) A (ajY ((sL kY env).map (·.2)) items.toList) Q E {s with heap:=h'}):b7 (bp prog w) A (yg (.Tuple kY eM pos) env (.ref t)) Q E s:=by
 have c6:t≠s⁻¹:=by obtain⟨o,aU,_⟩:=b9;exact h3 (dI aU)
 obtain⟨_,_,GY,_,_⟩:=id b8;have r3:e0≠s⁻¹:=h3 (dI GY);rw[assign_Tuple];refine bB (rE ?_);unfold unpack;rw[aH,a8V];refine bB (rC ?_);unfold unpackItems notIterableAtAll;refine bB (bB (wpAny_specialOf b9.typeIs slot_tuple_iter.lookup (eJ ?_)));simp only[qu,jN];refine bB (rC (iter_tuple b9 (bB (rC (draw_tuple c6 items.size 0 _ _ ⟨_,hW _ Y,Y,Y⟩ (b9.push _) (by lia) λjx a8W l0=>?_)))));rw[show aiU items.size (aiF 0 items.toList)=items.toList by rw[E8];exact lQ (by simp),aL (by simp)];have keep:∀b o,b≠s⁻¹->s.heap.get? b=B o->jx.get? b=B o:=λb o a0 e=>l0.extBut b o a0 (ef _ e);refine bB (rC (V5 bT (b8.keeps λo e=>keep _ o r3 e) r3 a8W ((b9.push _).extBut l0.extBut c6) (by simp) λtb Gy=>?_));simp only[Option.isSome_none,qu,jN];exact eJ (h tb λb o e=>Gy b o (h3 (dI e)) (keep b o (h3 (dI e)) e))
inductive HeldAt (e0:I) (H:ag):Prop
 |mk C od m:m<=1->H e0=B (dW e0 C od m)->HeldAt e0 H
def HeldAt.GZ(h:HeldAt e0 H)(D:Inv X a4 G H s):pH s.heap e0:=by obtain⟨C,_,m,hm,q⟩:=h;obtain⟨cR,vs,dr,_,_,fl,_,_,iH⟩:=x6 D.bQ q;exact⟨cR,vs,dr,fl,iH hm⟩
def HeldAt.ne{b:I}(h:HeldAt e0 H)(a0:H b=aa):e0≠b:=λz=>by obtain⟨C,_,m,_,q⟩:=h;rw[z,a0]at q;cases q
def HeldAt.mono{H':ag}(h:HeldAt e0 H)(s:∀c u,H c=B u->H' c=B u):HeldAt e0 H':=let⟨C,od,m,hm,q⟩:=h;⟨C,od,m,hm,s _ _ q⟩
def tF(e0:I)(d5:iz):iz:=⟨d5.go,d5.j',λi H=>d5.stop i H/\HeldAt e0 H⟩
def Vf(e0:I)(gL:TI):TI:=λG H R=>gL G H λd5 ai=>R (tF e0 d5) ai
structure MI (e0:I) (P:bP) (w:bG) (K:bb) (tg:bO) (d5:iz) (bM:sl I) (b0:I) (tn:Nat->bq->Prop):Prop where
 mem:b0∈bM
 obj:∀i h,tn i h->∀b∈bM,∃o,h.get? b=B o/\∀v,o.data≠ .cell v
 keep:∀i h h',tn i h->(∀b∈bM,∀o,h.get? b=B o->h'.get? b=B o)->tn i h'
 item:∀(X:bA),X.prog=P->X.w=w->X.K=K->X.A.handled=B (.ref e0)->∀(i:Nat)(a4:sl (I×bH))(s:ay)(G:L2.St)(H:ag)(E:ae->ay->Prop),Inv X a4 G H s->(∀b∈bM,kT X a4 H b)->tn i s.heap->d5.go i H->
  b7 (bp P w) X.A (pT (.ref b0)) (λr s1=>∃u,r=B u/\
   b7 (bp P w) X.A (Jd tg (.ref b0) u) (λ_ s2=>∃x H',Inv X a4 G H' s2/\RelV x u/\d5.j' i H x H'/\tn (i+1) s2.heap/\∀b∈bM,H' b=aa) E s1) E s
 done:∀(X:bA),X.prog=P->X.w=w->X.K=K->X.A.handled=B (.ref e0)->∀(i:Nat)(a4:sl (I×bH))(s:ay)(G:L2.St)(H:ag)(E:ae->ay->Prop),Inv X a4 G H s->(∀b∈bM,kT X a4 H b)->tn i s.heap->d5.stop i H->
  b7 (bp P w) X.A (pT (.ref b0)) (λr s1=>r=aa/\Inv X a4 G H s1) E s
 self:∀(A:da)(i:Nat)(s:ay)(Q:ae->ay->Prop)(E:ae->ay->Prop),tn i s.heap->Q (.ref b0) s->b7 (bp P w) A (Ey (.ref b0)) Q E s
def a8X(e0:I)(X:bA)(a4:sl (I×bH))(G:L2.St)(tg:bO)(R:iz->ag->Prop)(wu:ae)(s2:ay):Prop:=
 ∃(b0:I)(bM:sl I)(tn:Nat->bq->Prop)(d5:iz)(H':ag),wu=.ref b0/\Inv X a4 G H' s2/\MI e0 X.prog X.w X.K tg d5 bM b0 tn/\tn 0 s2.heap/\(∀b∈bM,kT X a4 H' b)/\R d5 H'
def Cn(e0:I)(X:bA)(tg fq:bO)(gL:TI):Prop:=
 ∀(a4:sl (I×bH))(s:ay)(G:L2.St)(H:ag)(R:iz->ag->Prop),Inv X a4 G H s->gL G H R->b7 (bp X.prog X.w) X.A (eval fq X.env) (λv s1=>b7 (bp X.prog X.w) X.A (Ey v) (a8X e0 X a4 G tg R) X.bL s1) X.bL s
variable{tg:bO}
def a8Y{fq:bO}{gL:TI}{g:h7}(aq:a1k (bp X.prog X.w) X.A X.env X.bL)(a7:X.A.handled=B (.ref e0))(hi:Cn e0 X tg fq gL)(aI:p4 X tg g)(a0:ix X body cf)(ax:∀x,AU fq X.env x=pure x:=by intro _;rfl):jr X (.For tg fq body [] pos) (R0 gL g cf):=by
 intro a4 s G H _ D h;refine wpAny_For (bW (hi a4 s G H _ D h) λv _ O=>bW O λ_ _ a5=>?_) ax;obtain⟨_,bM,tn,_,au,e,cM,T,n',f2,W,⟨ia,iy⟩,turn⟩:=a5;subst e;have ni:∀{H':ag},(∀b∈bM,H' b=aa)->∀b∈bM,kT X a4 H' b:=λaH b a0=>⟨aH b a0,(f2 b a0).2⟩;refine ak3 (λn a_=>∃i aN H',Inv X a4 aN H' a_/\tn i a_.heap/\(∀b∈bM,H' b=aa)/\W i n aN H') ?_ ia ⟨0,G,au,cM,n',λb a0=>(f2 b a0).1,iy⟩;rintro n bE ⟨i,lW,bc,dJ,sW,Bd,nh⟩;obtain⟨stop,JT⟩|⟨go,N,dF,step⟩:=turn i n lW bc nh
 .refine rD aq (bW (T.done X Y Y Y a7 i a4 bE lW bc X.bL dJ (ni Bd) sW stop) λr s4 ⟨ak,f'⟩=>?_);subst ak;exact wb ⟨lW,bc,f',JT⟩
 refine rD aq (bW (T.item X Y Y Y a7 i a4 bE lW bc X.bL dJ (ni Bd) sW go) λr s4 ⟨u,ak,cJ⟩=>?_);subst ak;refine rD aq (bW cJ λ_ g0 ⟨x,c',jt,Be,JU,p8,wy⟩=>?_);have JV:=jt.pinned (ni wy) (T.obj _ _ p8);refine rD aq (bW (aI _ g0 lW c' x u _ JV Be (step x c' JU)) λ_ eX ⟨JW,fQ,ju,JX⟩=>?_);refine rD aq (bW (a0 _ eX JW fQ _ ju JX) λf k1 lY=>?_);have Es:∀{jv:L2.St}{fv:ag},Inv X (a4++wx bM g0.heap) jv fv k1->N jv fv->∃m,m<n/\∃i aN H',Inv X a4 aN H' k1/\tn i k1.heap/\(∀b∈bM,H' b=aa)/\W i m aN H':=fun{jv fv} fR nj=>by obtain⟨m',hm,F2⟩:=dF jv fv nj;refine⟨m',hm,i+1,jv,fv,fR.uJ,T.keep _ _ _ p8 λb a0 o e=>(fR.pin (b,o) (oO _ (oO _ (yN a0 e)))).1,λb a0=>?_,F2⟩;obtain⟨o,e,d⟩:=T.obj _ _ p8 b a0;exact(fR.pin (b,o) (oO _ (oO _ (yN a0 e)))).2.1
 cases f with|next=>obtain⟨jv,fv,fR,nj⟩:=lY;exact Es fR nj|cont=>obtain⟨jv,fv,fR,nj⟩:=lY;exact Es fR nj|brk=>obtain⟨jv,fv,fR,lY⟩:=lY;exact⟨jv,fv,fR.uJ,lY⟩|ret v=>obtain⟨wz,jv,fv,fR,wA,lY⟩:=lY;exact⟨wz,jv,fv,fR.uJ,wA,lY⟩
def a8Z{Q:c2}{ic fq:bO}{ib:sl bO}{scope:i8}{own:sl (a8×Nat)}{ja:Pos}{gL:TI}{g:h7}{tt:TT}{use:Iw (ae->hX Unit)}{Qf:ae->ay->Prop}(a7:X.A.handled=B (.ref e0))(dF:X.N.Nodup)(D:Inv X a4 G H s)(hi:Cn e0 X tg fq gL)(ok:wJ X.N X.env.scope scope own)(aI:∀(s:ay)(H:ag)(C:I)(cl:sl (a8×I))(bM:sl I),p4 (X.gY s H scope (kO scope cl C X.env) bM) tg g)(b9:∀(s:ay)(H:ag)(C:I)(cl:sl (a8×I))(bM:sl I),wK (X.gY s H scope (kO scope cl C X.env) bM) ib tt)(aF:∀(s:ay)(H:ag)(C:I)(cl:sl (a8×I))(bM:sl I),bS (X.gY s H scope (kO scope cl C X.env) bM) ic b_)(ax:∀x,AU fq X.env x=pure x)(h:wL gL g tt b_ (own.map (·.2)) G H Q)(KW:∀af C a_ m H',Inv X a4 G H' a_->Q (.ref af) H'->a_.heap.Ns C m->kT X a4 H' C->Ew (bp X.prog X.w) X.A X.bL use Qf (.ref af) C (.ok .next) a_):
  b7 (bp X.prog X.w) X.A (a1z (.ListComp ic [⟨tg,fq,ib,0⟩] scope pos) scope X.env ja (newList []) aK (eval fq X.env) use) Qf X.bL s:=by
 have uE:∀y∈scope.names,y.2=.free->∃c,X.env.cells.lookup y.1=B c:=λy bl e=>by
  obtain k|k:=ok.free y bl e
  .exact D.ok.has _ (.inl k)
  exact D.ok.has _ (.inr k)
 refine aki (use:=use) Y ax (RR uE) ok.kind (λy bl e=>by rw[ok.uniq y bl,e])
  (bW (hi a4 s G H _ D h) λ_ _ ah=>bW ah λ_ s2 a5=>?_)
 obtain⟨b0,bM,tn,_,au,e,cM,T,n',f2,q⟩:=a5;subst e;refine yq (RS ?_) (by show 0<=cN;decide);generalize d3:s2⁻¹=af;have KX:au af=aa:=cM.bQ.fresh (AJ d3);obtain⟨W,⟨ia,iy⟩,turn⟩:=q af KX;generalize nv:({s2 with heap:=s2.heap.push {cls:=.type "list",data:=.seq ([]:sl ae).toArray}}:ay)=bE;have dJ:Inv X a4 G (av au af (.lst [])) bE:=by rw[<-nv];refine cM.laid (t':=s2.toks) (λb o e=>ef _ e) (AJ d3) ⟨es _,[],0,.nil,?_⟩;rw[<-d3];exact hW _ Y
 have aG:bE.heap=s2.heap.push {cls:=.type "list",data:=.seq ([]:sl ae).toArray}:=by rw[<-nv]
 have lp:∀b∈bM,b<s2⁻¹:=λb a0=>by obtain⟨o,e,_⟩:=T.obj _ _ n' b a0;exact dI e
 have dx:∀b∈bM,kT X a4 (av au af (.lst [])) b/\b<bE⁻¹:=λb a0=>by have c6:=lp b a0;refine⟨⟨?_,(f2 b a0).2⟩,by rw[aG,n1];exact PN c6⟩;rw[aM (by rw[<-d3];exact h3 c6)];exact(f2 b a0).1
 have sW:tn 0 bE.heap:=T.keep _ _ _ n' λb _ o e=>by rw[aG];exact ef _ e
 have f':=RU dJ ok dF dx;have qJ:=aI bE (av au af (.lst [])) bE⁻¹ (iv (bE⁻¹+1) scope.names (iC X.env.cells scope.names [])) bM;have pt:=b9 bE (av au af (.lst [])) bE⁻¹ (iv (bE⁻¹+1) scope.names (iC X.env.cells scope.names [])) bM;have wM:=aF bE (av au af (.lst [])) bE⁻¹ (iv (bE⁻¹+1) scope.names (iC X.env.cells scope.names [])) bM;show my _ _ (.compStart (.ListComp ic [⟨tg,fq,ib,0⟩] scope pos) 0 (.ref b0) (.ref af) (kO scope (iv (bE⁻¹+1) scope.names (iC X.env.cells scope.names [])) bE⁻¹ X.env)) (Ew (bp X.prog X.w) X.A X.bL use Qf (.ref af) bE⁻¹) {bE with heap:=uq (bE.heap.push {cls:=.type "dict",data:=.dict #[]}) scope.names};have BA:∀b∈bM,(av au af (.lst [])) b=aa:=λb a0=>(dx b a0).1.1;generalize tc:kO scope (iv (bE⁻¹+1) scope.names (iC X.env.cells scope.names [])) bE⁻¹ X.env=iT at f' qJ pt wM ⊢;have BB:iT.locals=bE⁻¹:=by subst tc;rfl
 generalize a40:av au af (.lst [])=bc at dJ f' qJ pt wM iy BA dx;generalize y':({bE with heap:=uq (bE.heap.push {cls:=.type "dict",data:=.dict #[]}) scope.names}:ay)=s4 at f' ⊢;have BC:tn 0 s4.heap:=T.keep _ _ _ sW λb _ o e=>by rw[<-y'];exact Jf _ _ _ _ (ef _ e)
 have ni:∀{aN:L2.St}{H':ag}{a_:ay},Inv (X.gY bE bc scope iT bM) [] aN H' a_->(∀b∈bM,H' b=aa)->∀b∈bM,kT (X.gY bE bc scope iT bM) [] H' b:=fun{aN H' a_} et aH b a0=>⟨aH b a0,(et.ok.rK b a0).1,et.ok.rL b a0,.inl a0,λx c e=>(et.ok.rK b a0).2 x c e,λp aq=>absurd (show p∈([]:sl (I×bH))++[]from aq) (by simp)⟩;have BD:my (bp X.prog X.w) X.A (.compLoop (.ListComp ic [⟨tg,fq,ib,0⟩] scope pos) 0 (.ref b0) (.ref af) iT) (Ew (bp X.prog X.w) X.A X.bL use Qf (.ref af) bE⁻¹) s4:=by
  refine RZ (λn a_=>∃i H',Inv (X.gY bE bc scope iT bM) [] (eZ G (own.map (·.2))) H' a_/\tn i a_.heap/\(∀b∈bM,H' b=aa)/\W i n H') ?_ ia ⟨0,bc,f',BC,BA,iy⟩;rintro n g0 ⟨i,c',jt,p8,kz,wN⟩;obtain⟨stop,iU⟩|⟨go,ie,KY,step⟩:=turn i n c' wN
  .have a':=T.done (X.gY bE bc scope iT bM) Y Y Y a7 i [] g0 _ c' (λ_ _=>False) jt (ni jt kz) p8 stop;refine q2 a' λr eX ⟨ak,ju⟩=>?_;subst ak;have fR:Inv X a4 G c' eX:=dJ.EW (ch:=bM) ju.os ju.base ju.bQ ju.bare λb a0=>⟨(dx b a0).1.2.2.2.1,(dx b a0).1.2.1,(dx b a0).1.2.2.2.2.1,(dx b a0).1.2.2.2.2.2⟩;have KZ:c' bE⁻¹=aa:=by have z:c' iT.locals=aa:=ju.free;rw[BB]at z;exact z
   obtain⟨m,aH,_⟩:=ju.loc;have aH:eX.heap.Ns iT.locals m:=aH;rw[BB]at aH;exact KW af bE⁻¹ eX m c' fR iU aH (dJ.qG (cP _) KZ)
  have p5:=T.item (X.gY bE bc scope iT bM) Y Y Y a7 i [] g0 _ c' (λ_ _=>False) jt (ni jt kz) p8 go;refine q2 p5 λr eX ⟨u,ak,iV⟩=>?_;subst ak;refine q2 iV λ_ k1 ⟨x,fv,fR,wA,Fw,wO,nj⟩=>?_;have K_:=fR.pinned (ni fR nj) (T.obj _ _ wO);refine q2 (qJ _ k1 _ fv x u _ K_ wA (step x fv Fw)) λ_ q3 ⟨td,q4,uQ,BE,K'⟩=>?_;refine q2 (pt _ q3 td q4 _ uQ K') λb m3 ⟨oc,qO,nx⟩=>?_;have fin:∀{a_:ay}{H':ag},Inv (X.gY bE bc scope iT bM) ([]++wx bM k1.heap) td H' a_->ie H'->∃m,m<n/\∃i H',Inv (X.gY bE bc scope iT bM) [] (eZ G (own.map (·.2))) H' a_/\tn i a_.heap/\(∀b∈bM,H' b=aa)/\W i m H':=fun{a_ H'} et c8=>by
   obtain⟨m',hm,jo⟩:=KY H' c8;have BF:∀b∈bM,∀o,k1.heap.get? b=B o->a_.heap.get? b=B o/\H' b=aa:=λb a0 o e=>
    let z:=et.pin (b,o) (oO _ (oO _ (yN a0 e)))
    ⟨z.1,z.2.1⟩
   have ar:(eZ G (own.map (·.2))).length=td.length:=by rw[<-BE,Ft]
   refine⟨m',hm,i+1,H',(et.uJ (a4:=[])).weak ar (λj v e=>?_),T.keep _ _ _ wO λb a0 o e=>(BF b a0 o e).1,λb a0=>?_,jo⟩
   .rw[<-BE]at e;exact(Fu e).1
   obtain⟨o,e,_⟩:=T.obj _ _ wO b a0;exact(BF b a0 o e).2
  cases b with|false=>simp only[qu,jN]at nx ⊢;exact fin qO nx|true=>simp only[jO]at nx ⊢;refine q2 (wM _ m3 td oc _ qO nx) λz _ ⟨_,_,qP,L0,_,L1,L3,c8⟩=>?_;exact RX (X:=X.gY bE bc scope iT bM) qP L1 L3 L0 λ_ L4=>fin L4 c8
 exact ak2 BD (T.self X.A 0 _ _ _ BC BD)
def a90{ic fq:bO}{ib:sl bO}{scope:i8}{own:sl (a8×Nat)}{gL:TI}{g:h7}{tt:TT}(a7:X.A.handled=B (.ref e0))(dF:X.N.Nodup)(hi:Cn e0 X tg fq gL)(ok:wJ X.N X.env.scope scope own)(aI:∀(s:ay)(H:ag)(C:I)(cl:sl (a8×I))(bM:sl I),p4 (X.gY s H scope (kO scope cl C X.env) bM) tg g)(b9:∀(s:ay)(H:ag)(C:I)(cl:sl (a8×I))(bM:sl I),wK (X.gY s H scope (kO scope cl C X.env) bM) ib tt)(aF:∀(s:ay)(H:ag)(C:I)(cl:sl (a8×I))(bM:sl I),bS (X.gY s H scope (kO scope cl C X.env) bM) ic b_)(ax:∀x,AU fq X.env x=pure x:=by intro _;rfl):
  bS X (.ListComp ic [⟨tg,fq,ib,0⟩] scope pos) (wL gL g tt b_ (own.map (·.2))):=by
 intro _ s G H Q D h;rw[ak6];refine a8Z a7 dF D hi ok aI b9 aF ax h λaf C a_ m H' et q aH f=>⟨m,aH,λ_ cI=>?_⟩;obtain⟨f_,dU,_,dx,fh,fi⟩:=f;exact⟨.ref af,H',et.turned (t':=a_.toks) (λb o a0 e=>(cI.2 b a0).trans e) f_ dU dx fh fi,Y,q⟩
def a91(e0:I)(K:bb)(n:Nat)(t:uG):h7:=λv G H Q=>HeldAt e0 H/\JR K n t v G H Q
def a92{t:uG}(a7:X.A.handled=B (.ref e0))(h:Bb X b5 t)(aH:(sL b5 X.env).length=n:=by rfl)(fA:(sL b5 X.env).findIdx? (·.1)=aa:=by rfl):p4 X (.Tuple b5 k pos) (a91 e0 X.K n t):=by intro a4 s G H v u Q D r hw;obtain⟨hd,a,xs,aO,aQ,ar,hw⟩:=hw;subst aO;cases r;obtain⟨_,cB,b9,_⟩:=D.tuple aQ;refine a8U a7 (hd.GZ D) b9 (by simp[aH,<-ar,cB.length]) fA λ_ ah=>?_;exact h a4 _ G H xs _ Q (D.kept (t':=s.toks) ah) (by simpa using cB) hw
def Vg(e0:I):sl V->ag->c2->Prop:=λxs H Q=>HeldAt e0 H/\∃i j,xs=[.int i,.int j]/\Q (.int (if j>i then j else i)) H
def a93(a7:X.A.handled=B (.ref e0)):q0 X (.builtin "max") (Vg e0):=by
 intro _ s G H _ _ Q D r h;obtain⟨hd,i,j,rfl,q⟩:=h;obtain⟨u,_,rfl,⟨t,rfl⟩,⟨_,rfl⟩⟩:=vals2 r;refine a8T a7 (hd.GZ D) λ_ _ k=>⟨_,H,D.kept k,?_,q⟩;by_cases bY:j>i
 .rw[aZ bY,aZ bY];exact⟨_,Y⟩
 rw[aL bY,aL bY];exact⟨_,Y⟩
def a94{c9:Nat}{a b z TI g4 gO g9:I}(af:a1t z TI g4 gO g9 a b):MI e0 P w K (.Tuple kY c9 lu) (tF e0 (ti K a b)) [z,TI,g4,gO,g9] z (λi h=>Ek h z TI g4 .none/\AN h TI (.ref gO) (.ref g9)/\(∃x y,AN h g4 x y)/\h.IsListIter gO a i/\h.IsListIter g9 b i) where
 mem:=by simp
 obj:=λi h st c a7=>by
  obtain⟨aR,iW,⟨x,y,jz⟩,⟨o1,aO,_,p2⟩,⟨o2,aT,_,hb⟩⟩:=st;have d8:c=z∨c=TI∨c=g4∨c=gO∨c=g9:=by simpa using a7
  obtain q|q|q|q|q:=d8
  .rw[q];exact⟨_,aR,λv q=>nomatch q⟩
  .rw[q];exact⟨_,iW,λv q=>nomatch q⟩
  .rw[q];exact⟨_,jz,λv q=>nomatch q⟩
  .rw[q];exact⟨o1,aO,λv q=>by rw[p2]at q;cases q⟩
  rw[q];exact⟨o2,aT,λv q=>by rw[hb]at q;cases q⟩
 keep:=λi h h' st k=>by obtain⟨aR,iW,⟨x,y,jz⟩,O,a5⟩:=st;exact⟨k z (by simp) _ aR,k TI (by simp) _ iW,⟨x,y,k g4 (by simp) _ jz⟩,O.at λo q=>k gO (by simp) o q,a5.at λo q=>k g9 (by simp) o q⟩
 item:=by
  intro X bI hw fB a7 i a4 s G H E D hf st aI;subst bI hw fB;obtain⟨aR,iW,⟨Lf,Lg,jz⟩,O,a5⟩:=st;obtain⟨xs,ys,x,y,pn,pq,ah,bl⟩:=aI;obtain⟨b6,cB,p,_⟩:=D.list pn;obtain⟨nu,tj,eb,_⟩:=D.list pq;obtain⟨u,bx,hk⟩:=cB.get ah;obtain⟨gR,Lh,Li⟩:=tj.get bl;have BM:z<s⁻¹:=dI aR;refine akx af aR iW jz O a5 p.isList eb.isList (x:=u) (y:=gR) (by simpa using bx) (by simpa using Lh) λh' mI Lj uU BN dq _ aA=>?_;refine⟨_,Y,akm (s:={s with heap:=h'}) mI λjy Lk cI=>?_⟩;have wR:jy.get? s⁻¹=B {cls:=.type "tuple",data:=.seq #[u,gR]}:=(cI.2 _ (y8 BM)).trans dq;have new:hj X.prog X.w (av H s⁻¹ (.tup [x,y])) jy s⁻¹ (.tup [x,y]):=
   ⟨by show 2<=cN;decide,[u,gR],.cons hk (.cons Li .nil),⟨_,wR,Y,_,Y⟩⟩
  have aP:Inv X a4 G (av H s⁻¹ (.tup [x,y])) {s with heap:=jy}:=
   D.FD (t':=s.toks) (ch:=[z,TI,g4,gO,g9]) (λc o a0 q=>(cI.2 c (λeW=>a0 (by simp[eW]))).trans (aA c o (λeW=>a0 (by simp[eW])) (λeW=>a0 (by simp[eW])) (λeW=>a0 (by simp[eW])) (λeW=>a0 (by simp[eW])) q)) hf (cP _) new
  refine⟨.ref s⁻¹,_,aP,Y,⟨_,x,y,Y,D.bQ.fresh (cP _),Y,λl ar=>by rw[D.yI ar pn];exact ah,λl ar=>by rw[D.yI ar pq];exact bl⟩,⟨Lk,?_,⟨u,gR,?_⟩,?_,?_⟩,λc tl=>?_⟩
  .exact(cI.2 _ af.TIz).trans (aA _ _ af.TIz af.TITO af.TIi1 af.TIi2 iW)
  .exact(cI.2 _ af.TOz).trans Lj
  .exact uU.at λo q=>(cI.2 _ af.i1z).trans q
  .exact BN.at λo q=>(cI.2 _ af.i2z).trans q
  have c6:c<s⁻¹:=by
   have d8:c=z∨c=TI∨c=g4∨c=gO∨c=g9:=by simpa using tl
   obtain q|q|q|q|q:=d8
   .rw[q];exact BM
   .rw[q];exact dI iW
   .rw[q];exact dI jz
   .rw[q];obtain⟨_,aO,_⟩:=O;exact dI aO
   rw[q];obtain⟨_,aT,_⟩:=a5;exact dI aT
  rw[aM (h3 c6)];exact(hf c tl).1
 done:=by
  intro X bI hw fB a7 i a4 s G H E D hf st aI;subst bI hw fB;obtain⟨aR,iW,⟨Lf,Lg,jz⟩,O,a5⟩:=st;obtain⟨⟨xs,ys,pn,pq,BO⟩,hd⟩:=aI;have ne:∀b∈[z,TI,g4,gO,g9],e0≠b:=λb a0=>hd.ne (hf b a0).1;obtain⟨b6,cB,p,_⟩:=D.list pn;obtain⟨nu,tj,eb,_⟩:=D.list pq;have iX:=cB.length;have gD:=tj.length;have aF:b6.toArray[i]? =aa∨nu.toArray[i]? =aa:=by
   obtain q|q:=BO
   .exact .inl (by simp;lia)
   exact .inr (by simp;lia)
  exact a8Q a7 (hd.GZ D) ⟨ne z (by simp),ne g4 (by simp),ne gO (by simp),ne g9 (by simp)⟩ af aR iW jz O a5 p.isList eb.isList aF λh' aA=>⟨Y,D.Sa (t':=s.toks) (ch:=[z,TI,g4,gO,g9]) (λc o a0 q=>aA c o (λeW=>a0 (by simp[eW])) (λeW=>a0 (by simp[eW])) (λeW=>a0 (by simp[eW])) (λeW=>a0 (by simp[eW])) q) hf⟩
 self:=λA i s Q E st h=>Qg st.1 h
def a95{e aT:bO}{c1:gA}{c9:Nat}(aI:hJ X "zip")(hm:X.a6 "zip" =aa)(bf:hI X [e,aT] c1)(ax:fI [e,aT] X.env=(aK,eval e X.env)::fI [aT] X.env:=by rfl)(eN:(lS pos (fI [aT] X.env)).any (·.1)=aK:=by rfl):
  Cn e0 X (.Tuple kY c9 lu) (.Call (.Name "zip" p) [e,aT] [] pos) (Vf e0 (Se X.K c1)):=by
 intro a4 s G H R D h;refine I_ (wm D aI hm Sd (Ei (bW (bf pos a4 s G H _ D h) λ_ s1 ⟨_,ai,aP,cx,bw⟩=>?_) ax eN));obtain⟨a,b,_,_,ex,pn,pq,q⟩:=bw;subst ex;cases cx with
 |cons r iQ=>
  cases iQ with
  |cons g7 iQ=>
   cases iQ;cases r;cases g7;obtain⟨_,_,i0,_⟩:=aP.list pn;obtain⟨_,_,eb,_⟩:=aP.list pq;have Ll:a<s1⁻¹:=i0.lt;have Lm:b<s1⁻¹:=eb.lt;refine call_zip_2 i0.isList eb.isList λh' aR iW jz O a5 _ aA=>Qg aR ?_;have cM:Inv X a4 G ai {s1 with heap:=h'}:=aP.kept (t':=s1.toks) aA;refine⟨s1⁻¹+4,[s1⁻¹+4,s1⁻¹+2,s1⁻¹+3,s1⁻¹,s1⁻¹+1],_,_,ai,Y,cM,a94 (ajS s1⁻¹ a b Ll Lm),⟨aR,iW,⟨_,_,jz⟩,O,a5⟩,λc tl=>?_,q⟩;have d8:c=s1⁻¹+4∨c=s1⁻¹+2∨c=s1⁻¹+3∨c=s1⁻¹∨c=s1⁻¹+1:=by simpa using tl
   have hq:s1⁻¹<=c:=by
    obtain z|z|z|z|z:=d8
    .rw[z];exact rx _ _
    .rw[z];exact rx _ _
    .rw[z];exact rx _ _
    .rw[z];exact cP _
    rw[z];exact rx _ _
   exact aP.qG hq (aP.bQ.fresh hq)
def a96(b0:I)(x:a8)(t:jL):MI e0 P w K tg (tF e0 (pj x)) [b0] b0 (λi h=>h.IsStrIter b0 "str_ascii_iterator" x t i) where
 mem:=(z1 (P:=P) (w:=w) (K:=K) (tg:=tg) b0 x t _ (.inl Y)).mem
 obj:=(z1 (P:=P) (w:=w) (K:=K) (tg:=tg) b0 x t _ (.inl Y)).obj
 keep:=(z1 (P:=P) (w:=w) (K:=K) (tg:=tg) b0 x t _ (.inl Y)).keep
 item:=by intro X bI hw fB a7 i a4 s G H E D hf st aI;subst bI hw fB;obtain⟨f_,dU,f2,dx,fh,fi⟩:=hf b0 (by simp);have aI:i<x.cps.size:=aI;refine wpAny_pyNext_ascii_item st (aip aI) λh' lX cI=>?_;have aP:Inv X a4 G H {s with heap:=h',toks:=s.toks+1}:=D.turned (λb o a0 e=>(cI.2 b (by simpa using a0)).trans e) f_ dU dx fh fi;obtain⟨_,e,Ld,dd⟩:=id lX;exact⟨_,Y,yM (s:={s with heap:=h',toks:=s.toks+1}) e Ld dd dQ ⟨.str ⟨#[x.cps[i]]⟩,H,aP,⟨_,Y⟩,⟨Y,_,aip aI,Y⟩,lX,λb a0=>(hf b a0).1⟩⟩
 done:=by intro X bI hw fB a7 i a4 s G H E D hf st aI;subst bI hw fB;obtain⟨f_,dU,f2,dx,fh,fi⟩:=hf b0 (by simp);obtain⟨aI,hd⟩:=aI;exact a8P a7 (hd.GZ D) (hd.ne f_) st (aiq aI) λh' hl=>⟨Y,D.turned (t':=s.toks) (λb o a0 e=>hl b o a0 e) f_ dU dx fh fi⟩
 self:=(z1 (P:=P) (w:=w) (K:=K) (tg:=tg) b0 x t _ (.inl Y)).self
inductive Vh (R:iz->ag->Prop) (v:V) (ai:ag):Prop
 |mk x:v=.str x->x.cps.all (·<128)=a9->R (pj x) ai->Vh R v ai
def a97(b_:bZ):TI:=λG H R=>b_ G H (Vh R)
def a98{e:bO}(aF:bS X e b_):Cn e0 X tg e (Vf e0 (a97 b_)):=by
 intro a4 s G H R D h;refine bW (aF a4 s G H _ D h) λv s1 ⟨y,ai,aP,cx,x,ex,bf,q⟩=>?_;subst ex;obtain⟨t,rfl⟩:=cx;refine akr bf ⟨s1⁻¹,[s1⁻¹],_,_,ai,Y,aP.kept (t':=s1.toks) λb o e=>ef _ e,a96 _ x t,⟨_,hW _ Y,Y,Y⟩,λb a0=>?_,q⟩;have e:b=s1⁻¹:=by simpa using a0
 subst e;exact aP.qG (cP _) (aP.bQ.fresh (cP _))
def kf.deeper(r:kf (k+1) A)(env:eC):kf k (A.deeper env):=⟨by have:=r.eF;show A.depth+1+3*k+5<_;lia,by have:=r.un;show A.units+3+16*k+200<_;lia⟩
structure zE (P:bP) (w:bG) (K:bb) (a6:a8->Iw ae) (base:bq) (k:Nat) (f:I) (fd:kp) (aJ:sl a8) (sp:bN):Prop where
 len:∀vs H Q E,sp vs H Q E->vs.length=aJ.length
 run:∀(A:da)(e0:I)(outer:sl eC)(s:ay)(H:ag)(args:Args)(us:sl ae)(vs:sl V)(Q:c2)(E:cW),kf k A->A.handled=B (.ref e0)->qK P w K a6 base A outer s H->ya s fd args (aJ.zip us)->cC vs us->HeldAt e0 H->sp vs H Q E->my (bp P w) A (.call (.ref f) args) (Kh cp outer P w H s Q E) s
def Vi{bX:a8}{st:bD}(F:oi K x bX st f fd)(S:b' N aJ (bh st))(len:∀vs H Q E,sp vs H Q E->vs.length=aJ.length)(s_:∀(bU:ae)(A:da)(e0:I)(outer:sl eC)(s:ay)(H:ag)(vs:sl V)(Q:c2)(E:cW),kf k (A.deeper (fH bX (bh st) s⁻¹ f bU))->(xk P w K a6 base N bX (bh st) f bU A outer s H E).A.handled=B (.ref e0)->HeldAt e0 H->sp vs H Q E->∃t,ix (xk P w K a6 base N bX (bh st) f bU A outer s H E) (jR st) t/\t {c8:=λ_ H'=>Q .bR H',iw:=Q} (start N vs) H):zE P w K a6 base (k+1) f fd aJ sp:=
 ⟨len,λA e0 outer s H _ us vs Q E ak bT iZ a0 r hd ly=>by obtain⟨_,_,_,_,_,_,bU,_,_,rfl,lk,lq⟩:=F.ex;have ar:=len _ _ _ _ ly;have ba:K.In s.heap:=iZ.mod.hY.keeps λb o e=>(iZ.bs b o e).1;have aA:∀y∈aJ.zip us,(bh st).names.lookup y.1=B .local∨((bh st).names.lookup y.1=B .cell/\((iv (s⁻¹+1) (bh st).names []).lookup y.1).isSome=a9):=λ⟨n,v⟩ bl=>(S.par n (IU bl).1).elim .inl λz=>.inr ⟨z,Q4 _ _ _ (.inl z)⟩;refine a1w (by have:=ak.eF;lia) (ba _ _ lk) Y S.co S.gen Y (a1n ba lq) (a0 _ _ _ _ ?_);refine a1Q S.kind aA λ_ aF s1 x=>?_;subst aF;refine⟨(iZ.mod.nolimit.keeps λb o e=>(iZ.bs b o e).1).keeps x.toInCall.keep,a1x ?_⟩;obtain⟨t,b9,aQ⟩:=s_ bU A e0 outer s H vs Q E (ak.deeper _) bT hd ly;have D:=Ck (Kk (CX:=cp) (E:=E) (A:={A with handled:=aa}) S Y (⟨iZ.frames,iZ.mod,iZ.bs,iZ.mG,iZ.lj,iZ.oX,iZ.bQ,iZ.bare⟩:qK P w K a6 base {A with handled:=aa} outer s H) ar r x);refine mB (b9 [] s1 (start N vs) H _ D aQ) (λdG a_ ax=>?_) λe a_ ax=>ax.elim;cases dG with|ret u=>obtain⟨v,aN,H',d5,cB,q⟩:=ax;exact⟨v,H',d5.os,d5.bare,d5.base,d5.bQ,cB,q⟩|next=>obtain⟨aN,H',d5,q⟩:=ax;exact⟨.bR,H',d5.os,d5.bare,d5.base,d5.bQ,Y,q⟩|brk=>obtain⟨_,_,_,q⟩:=ax;exact hu q|cont=>obtain⟨_,_,_,q⟩:=ax;exact hu q⟩
def zF(e0:I)(sp:bN):bN:=λvs H Q E=>HeldAt e0 H/\sp vs H Q E
section
variable{E:cW}{m:a8}{fw:Pos}{e o:bO}{c1:bZ}{t:gA}
def Vj{Q:c2}{vs:sl V}(F:zE X.prog X.w X.K X.a6 X.base k f fd aJ sp)(ak:kf k X.A)(bT:X.A.handled=B (.ref e0))(a0:Binds X.K fd aJ [])(D:Inv X a4 G H s)(r:cC vs us)(h:zF e0 sp (vs++[]) H Q E):b7 (bp X.prog X.w) X.A (n4 (.ref f) us) (h_ X a4 G Q) X.bL s:=by
 have dT:cC (vs++[]) (us++[]):=r.append .nil;have ar:(us++[]).length=aJ.length:=by rw[<-dT.length];exact F.len _ _ _ _ h.2
 refine A_ (w8 (F.run X.A e0 X.stack s H ⟨us,[]⟩ (us++[]) (vs++[]) Q E ak bT D.yT (a0 s us D.gX ar) dT h.1 h.2) λr _ aQ=>?_);cases r with
 |error e=>exact aQ.elim
 |ok dG=>cases dG with|ret u=>exact D.after aQ|next=>exact hu aQ|brk=>exact hu aQ|cont=>exact hu aQ
def a99(F:zE X.prog X.w X.K X.a6 X.base k f fd aJ sp)(ak:kf k X.A)(bT:X.A.handled=B (.ref e0))(aI:hJ X x)(hm:X.a6 x=B (.ref f))(aA:nQ X.K (.ref f)=a9)(a0:Binds X.K fd aJ [])(bf:hI X (e::b5) t)(gj:kV x:=by decide)(aF:o9 X e b5:=by rfl)(eN:lx X pos b5:=by rfl):
  bS X (.Call (.Name x p) (e::b5) [] pos) (iR (zF e0 sp) [] E t):=λa4 s G H Q D h=>wa (o' D aI hm (ye (h₀:=X.base) D.ok.mod.hY aA (bW (bf pos a4 s G H _ D h) λ_ _ ⟨_,_,aP,r,q⟩=>⟨aP.gX,Vj F ak bT a0 aP r q⟩) aF eN) gj)
def a9a{pl:hX Bool}(aF:bS X o c1)(c:iA X.K C)(hm:uK X.K C m f)(F:zE X.prog X.w X.K X.a6 X.base k f fd aJ sp)(ak:kf k X.A)(bT:X.A.handled=B (.ref e0))(a0:Binds X.K fd aJ [])(bf:hI X (e::b5) t)(fA:fI (e::b5) X.env=(aK,eval e X.env)::fI b5 X.env:=by rfl)(eN:lx X pos b5:=by rfl)(b9:eval (.Call (.Attribute o m fw) (e::b5) [] pos) X.env=(do
   let fP <-eval o X.env
   ur fw.atName
   let(f,first) <-rB [fP] (w9 fP m pl)
   ym pos f first (lS pos (fI (e::b5) X.env)) (uj pos (um [] X.env))):=by rfl):
  bS X (.Call (.Attribute o m fw) (e::b5) [] pos) (jb C m (zF e0 sp) [] E c1 t):=by
 intro a4 s G H Q D h;refine Q7 (pl:=pl) (bW (aF a4 s G H _ D h) λu s1 ⟨x,ai,aP,ct,a,_,_,ex,jw,l,q⟩=>?_) b9;subst ex;obtain rfl:u=dO a:=ct;refine Fc aP jw c hm l ?_;refine ye (first:=[.ref a]) (h₀:=X.base) D.ok.mod.hY hm.dK (bW (bf pos a4 s1 G ai _ aP q) λus _ ⟨vs,_,cM,r,cy⟩=>⟨cM.gX,?_⟩) fA eN;exact Vj (us:=.ref a::us) (vs:=.ref a::vs) F ak bT a0 cM (.cons Y r) cy
end
end LX
namespace Hg
open Tf hiding At Cell Ends Inv Means Right Row bd found heldBy judge_ok laid more pc right_of room same_iff signed sorted_ints tell way zs
open PySem PySem.Spec PyProof.Rows L2 LX
inductive sf {pI pJ:Type} (p:pI->pJ->Prop):Prop
 |mk eM eG:p eM eG->sf p
inductive qf {pI pJ r4:Type} (p:pI->pJ->r4->Prop):Prop
 |mk eM eG ik:p eM eG ik->qf p
inductive kg {pI pJ r4 tG:Type} (p:pI->pJ->r4->tG->Prop):Prop
 |mk eM eG ik iF:p eM eG ik iF->kg p
inductive kJ {pI pJ r4 tG xl:Type} (p:pI->pJ->r4->tG->xl->Prop):Prop
 |mk eM eG ik iF xm:p eM eG ik iF xm->kJ p
inductive jD {pI pJ r4 tG xl Co:Type} (p:pI->pJ->r4->tG->xl->Co->Prop):Prop
 |mk eM eG ik iF xm vd:p eM eG ik iF xm vd->jD p
inductive zG {pI pJ r4 tG xl Co MJ:Type} (p:pI->pJ->r4->tG->xl->Co->MJ->Prop):Prop
 |mk eM eG ik iF xm vd wz:p eM eG ik iF xm vd wz->zG p
inductive G_ {pI pJ r4 tG xl Co MJ a9b:Type} (p:pI->pJ->r4->tG->xl->Co->MJ->a9b->Prop):Prop
 |mk eM eG ik iF xm vd wz a9c:p eM eG ik iF xm vd wz a9c->G_ p
inductive il (dr dy eB:Prop):Prop
 |mk:dr->dy->eB->il dr dy eB
inductive jE (dr dy eB fl:Prop):Prop
 |mk:dr->dy->eB->fl->jE dr dy eB fl
inductive mQ (dr dy eB fl hr:Prop):Prop
 |mk:dr->dy->eB->fl->hr->mQ dr dy eB fl hr
inductive qg (dr dy eB fl hr ij:Prop):Prop
 |mk:dr->dy->eB->fl->hr->ij->qg dr dy eB fl hr ij
inductive r5 (dr dy eB fl hr ij iH:Prop):Prop
 |mk:dr->dy->eB->fl->hr->ij->iH->r5 dr dy eB fl hr ij iH
inductive tH (dr dy eB fl hr ij iH Cp:Prop):Prop
 |mk:dr->dy->eB->fl->hr->ij->iH->Cp->tH dr dy eB fl hr ij iH Cp
inductive MK (dr dy eB fl hr ij iH Cp Vk:Prop):Prop
 |mk:dr->dy->eB->fl->hr->ij->iH->Cp->Vk->MK dr dy eB fl hr ij iH Cp Vk
inductive e_ (a6:a8->Iw ae) (x:a8) (i:Int):Prop
 |mk t:a6 x=B (.int i t)->e_ a6 x i
inductive mR (a6:a8->Iw ae) (x:a8) (z:a8):Prop
 |mk t:a6 x=B (.str z t)->mR a6 x z
variable{X:bA}{pos:Pos}
def cL{x:a8}{i:Int}(h:e_ X.a6 x i)(aI:hJ X x)(hd:(x==("__debug__" :a8))=aK:=by decide):bS X (.Name x pos) (iP (.int i)):=by obtain⟨t,h⟩:=h;intro _ s G H Q D q;exact o' D aI h ⟨.int i,H,D,⟨t,Y⟩,q⟩ hd
variable{z:a8}
def e'{x:a8}(h:mR X.a6 x z)(aI:hJ X x)(hd:(x==("__debug__" :a8))=aK:=by decide):bS X (.Name x pos) (iP (.str z)):=by obtain⟨t,h⟩:=h;intro _ s G H Q D q;exact o' D aI h ⟨.str z,H,D,⟨t,Y⟩,q⟩ hd
variable{g:I}
def mf{x:a8}(h:X.a6 x=B (.ref g))(aI:hJ X x)(hd:(x==("__debug__" :a8))=aK:=by decide):bS X (.Name x pos) (iP (.ref g)):=by intro _ s G H Q D q;exact o' D aI h ⟨.ref g,H,D,Y,q⟩ hd
section
variable(P:bP)(w:bG)(K:bb)(a6:a8->Iw ae)(base:bq)
inductive dH (CX:ku) (k:Nat) (x:a8) (aJ:sl a8) (sp:bN):Prop
 |mk f fd:a6 x=B (.ref f)->jP P w K a6 base CX k f fd aJ sp->Binds K fd aJ []->nQ K (.ref f)=a9->dH CX k x aJ sp
inductive fT (CX:ku) (k:Nat) (C:I) (m:a8) (aJ:sl a8) (sp:bN):Prop
 |mk f fd:uK K C m f->jP P w K a6 base CX k f fd aJ sp->Binds K fd aJ []->fT CX k C m aJ sp
inductive ox (CX:ku) (k:Nat) (C:I) (aJ:sl a8) (sp:bN):Prop
 |mk f fd:Bo K C f->jP P w K a6 base CX k f fd aJ sp->Binds K fd aJ []->ox CX k C aJ sp
inductive Cq (CX:ku) (k:Nat) (C:I) (cT aJ:sl a8) (sp:bN):Prop
 |mk f fd:kc K C f cT->jP P w K a6 base CX k f fd aJ sp->Binds K fd aJ []->Cq CX k C cT aJ sp
end
variable{P:bP}{w:bG}{K:bb}{a6:a8->Iw ae}{base:bq}{k:Nat}{C:I}{cT aJ:sl a8}{sp:bN}{E:cW}{e:bO}{b5:sl bO}
section
variable{CX:ku}{x m:a8}{p fw:Pos}{o:bO}{t:gA}{c1:bZ}
def cw(af:dH X.prog X.w X.K X.a6 X.base CX k x aJ sp)(ak:dp k X.A)(aI:hJ X x)(ah:l_ CX X E)(bf:hI X (e::b5) t)(gj:kV x:=by decide)(aF:o9 X e b5:=by rfl)(eN:lx X pos b5:=by rfl):bS X (.Call (.Name x p) (e::b5) [] pos) (iR sp [] E t):=by obtain⟨f,_,hm,F,a0,aA⟩:=af;exact a37 F ak aI hm aA a0 .nil ah bf gj aF eN
def dR{pl:hX Bool}(af:fT X.prog X.w X.K X.a6 X.base CX k C m aJ sp)(aF:bS X o c1)(c:iA X.K C)(ak:dp k X.A)(ah:l_ CX X E)(bf:hI X (e::b5) t)(fA:fI (e::b5) X.env=(aK,eval e X.env)::fI b5 X.env:=by rfl)(eN:lx X pos b5:=by rfl)(b9:eval (.Call (.Attribute o m fw) (e::b5) [] pos) X.env=(do
   let fP <-eval o X.env
   ur fw.atName
   let(f,first) <-rB [fP] (w9 fP m pl)
   ym pos f first (lS pos (fI (e::b5) X.env)) (uj pos (um [] X.env))):=by rfl):bS X (.Call (.Attribute o m fw) (e::b5) [] pos) (jb C m sp [] E c1 t):=by
 obtain⟨f,_,hm,F,a0⟩:=af;exact a38 aF c hm F ak a0 .nil ah bf fA eN b9
def gb{pl:hX Bool}(af:fT X.prog X.w X.K X.a6 X.base CX k C m aJ sp)(aF:bS X o c1)(c:iA X.K C)(ak:dp k X.A)(ah:l_ CX X E)(b9:eval (.Call (.Attribute o m fw) [] [] pos) X.env=(do
   let fP <-eval o X.env
   ur fw.atName
   let(f,first) <-rB [fP] (w9 fP m pl)
   ym pos f first (lS pos (fI [] X.env)) (uj pos (um [] X.env))):=by rfl):bS X (.Call (.Attribute o m fw) [] [] pos) (jb C m sp [] E c1 gi):=by
 obtain⟨f,_,hm,F,a0⟩:=af;exact a39 aF c hm F ak a0 .nil ah b9
def pK(af:ox X.prog X.w X.K X.a6 X.base CX k C aJ sp)(ak:dp (k+1) X.A)(aI:hJ X x)(hm:X.a6 x=B (.ref C))(ah:l_ CX X E)(bf:hI X (e::b5) t)(gj:kV x:=by decide)(aF:o9 X e b5:=by rfl)(eN:lx X pos b5:=by rfl):bS X (.Call (.Name x p) (e::b5) [] pos) (Ff C sp [] E t):=by obtain⟨f,_,M,F,a0⟩:=af;exact a3a M F ak aI hm a0 .nil ah bf gj aF eN
def a9d(af:ox X.prog X.w X.K X.a6 X.base CX k C aJ sp)(ak:dp (k+1) X.A)(aI:hJ X x)(hm:X.a6 x=B (.ref C))(ah:l_ CX X E)(gj:kV x:=by decide):bS X (.Call (.Name x p) [] [] pos) (Ff C sp [] E gi):=by obtain⟨f,_,M,F,a0⟩:=af;exact a3b M F ak aI hm a0 .nil ah gj
def zH(af:Cq X.prog X.w X.K X.a6 X.base CX k C cT aJ sp)(ak:dp (k+1) X.A)(aI:hJ X x)(hm:X.a6 x=B (.ref C))(ah:l_ CX X E)(bf:hI X (e::b5) t)(gj:kV x:=by decide)(aF:o9 X e b5:=by rfl)(eN:lx X pos b5:=by rfl):bS X (.Call (.Name x p) (e::b5) [] pos) (x7 C sp E t):=by obtain⟨f,_,ee,F,a0⟩:=af;exact a7V ee F ak aI hm a0 ah bf gj aF eN
end
inductive Laid (K:bb) (a6:a8->Iw ae) (x:a8) (st:bD):Prop
 |mk f fd:a6 x=B (.ref f)->oi K x x st f fd->Laid K a6 x st
inductive fx (K:bb) (C:I) (m bX:a8) (st:bD):Prop
 |mk f fd:uK K C m f->oi K m bX st f fd->fx K C m bX st
inductive oy (K:bb) (C:I) (bX:a8) (st:bD):Prop
 |mk f fd:Bo K C f->oi K "__init__" bX st f fd->oy K C bX st
inductive tI (K:bb) (C:I) (bX:a8) (cT:sl a8) (st:bD):Prop
 |mk f fd:kc K C f cT->oi K "__init__" bX st f fd->tI K C bX cT st
abbrev G'(P:bP)(w:bG)(K:bb)(a6:a8->Iw ae)(base:bq)(N:sl a8)(bX:a8)(st:bD)(k:Nat)(sp:bN):Prop:=
 ∀(f:I)(bU:ae)(A:da)(outer:sl eC)(s:ay)(H:ag)(vs:sl V)(Q:c2)(E:cW),let X:=(pd cp P w K a6 base N bX (bh st) f bU A outer s H E).B8;dp k (A.deeper (fH bX (bh st) s⁻¹ f bU))->sp vs H Q E->
  ∃t,ix X (jR st) t/\t {c8:=λ_ H'=>Q .bR H',iw:=Q} (start N vs) H
abbrev Vl(u:Nat)(P:bP)(w:bG)(K:bb)(a6:a8->Iw ae)(base:bq)(N:sl a8)(bX:a8)(st:bD)(k:Nat)(sp:bN):Prop:=
 ∀(f:I)(bU:ae)(A:da)(outer:sl eC)(s:ay)(H:ag)(vs:sl V)(Q:c2)(E:cW),let X:=(pd (mb u P w) P w K a6 base N bX (bh st) f bU A outer s H E);dp k (A.deeper (fH bX (bh st) s⁻¹ f bU))->sp vs H Q E->
  ∃t,ix X (jR st) t/\t {c8:=λ_ H'=>Q .bR H',iw:=Q} (start N vs) H
abbrev zI(x bX:a8)(st:bD)(aJ:sl a8):Prop:=∀(ey gB gC:ae)(gP:Iw I)(bU dX:ae)(us:sl ae),us.length=aJ.length->yj (nP x bX (oh st) (jR st) (bh st) .none ey gB gC gP bU dX) ⟨us,[]⟩=pure (aJ.zip us)
variable{bX:a8}{st:bD}
def a9e{x i0:a8}(h:∀ey gB gC gP bU dX jg,yj (nP x bX (oh st) (jR st) (bh st) .none ey gB gC gP bU dX) ⟨[jg],[]⟩=pure [(i0,jg)]):zI x bX st [i0]:=λ_ _ _ _ _ _ us ar=>by rcases us with _|⟨jg,_|_⟩<;>first|exact h _ _ _ _ _ _ _|cases ar
def a9f{x i0 eb:a8}(h:∀ey gB gC gP bU dX jg gR,yj (nP x bX (oh st) (jR st) (bh st) .none ey gB gC gP bU dX) ⟨[jg,gR],[]⟩=pure [(i0,jg),(eb,gR)]):zI x bX st [i0,eb]:=λ_ _ _ _ _ _ us ar=>by rcases us with _|⟨jg,_|⟨gR,_|_⟩⟩<;>first|exact h _ _ _ _ _ _ _ _|cases ar
def a9g{x i0 eb oz:a8}(h:∀ey gB gC gP bU dX jg gR om,yj (nP x bX (oh st) (jR st) (bh st) .none ey gB gC gP bU dX) ⟨[jg,gR,om],[]⟩=pure [(i0,jg),(eb,gR),(oz,om)]):zI x bX st [i0,eb,oz]:=λ_ _ _ _ _ _ us ar=>by rcases us with _|⟨jg,_|⟨gR,_|⟨om,_|_⟩⟩⟩<;>first|exact h _ _ _ _ _ _ _ _ _|cases ar
def a9h{x i0 eb oz vm:a8}(h:∀ey gB gC gP bU dX jg gR om xn,yj (nP x bX (oh st) (jR st) (bh st) .none ey gB gC gP bU dX) ⟨[jg,gR,om,xn],[]⟩=pure [(i0,jg),(eb,gR),(oz,om),(vm,xn)]):zI x bX st [i0,eb,oz,vm]:=λ_ _ _ _ _ _ us ar=>by rcases us with _|⟨jg,_|⟨gR,_|⟨om,_|⟨xn,_|_⟩⟩⟩⟩<;>first|exact h _ _ _ _ _ _ _ _ _ _|cases ar
def a9i{x i0 eb oz vm zJ:a8}(h:∀ey gB gC gP bU dX jg gR om xn ML,yj (nP x bX (oh st) (jR st) (bh st) .none ey gB gC gP bU dX) ⟨[jg,gR,om,xn,ML],[]⟩=pure [(i0,jg),(eb,gR),(oz,om),(vm,xn),(zJ,ML)]):zI x bX st [i0,eb,oz,vm,zJ]:=λ_ _ _ _ _ _ us ar=>by rcases us with _|⟨jg,_|⟨gR,_|⟨om,_|⟨xn,_|⟨ML,_|_⟩⟩⟩⟩⟩<;>first|exact h _ _ _ _ _ _ _ _ _ _ _|cases ar
abbrev a9j(sp:bN)(n:Nat):Prop:=∀vs H Q E,sp vs H Q E->vs.length=n
structure tJ (sp:bN) (x bX:a8) (st:bD) (aJ:sl a8):Prop where
 len:a9j sp aJ.length:=by intro _ _ _ _ h;cases h;first|(subst_vars;rfl)|(rename_i h;cases h;subst_vars;rfl)
 bd:zI x bX st aJ:=by first|exact a9e λ_ _ _ _ _ _ _=>rfl|exact a9f λ_ _ _ _ _ _ _ _=>rfl|exact a9g λ_ _ _ _ _ _ _ _ _=>rfl|exact a9h λ_ _ _ _ _ _ _ _ _ _=>rfl|exact a9i λ_ _ _ _ _ _ _ _ _ _ _=>rfl
variable{N:sl a8}
section
variable{x m:a8}
def Laid.ok(L:Laid K a6 x st)(S:b' N aJ (bh st))(a0:G' P w K a6 base N x st k sp)(d:tJ sp x x st aJ:=by exact{}):dH P w K a6 base cp (k+1) x aJ sp:=
 let⟨f,fd,hm,F⟩:=L;⟨f,fd,hm,F.ok S d.len λbU A outer s H vs Q E ak h=>a0 f bU A outer s H vs Q E ak h,F.binds d.bd,F.dK⟩
def Laid.kI{u:Nat}(L:Laid K a6 x st)(S:b' N aJ (bh st))(a0:Vl u P w K a6 base N x st k sp)(d:tJ sp x x st aJ:=by exact{}):dH P w K a6 base (mb u P w) (k+1) x aJ sp:=
 let⟨f,fd,hm,F⟩:=L;⟨f,fd,hm,F.kI S d.len λbU A outer s H vs Q E ak h=>a0 f bU A outer s H vs Q E ak h,F.binds d.bd,F.dK⟩
def fx.ok(L:fx K C m bX st)(S:b' N aJ (bh st))(a0:G' P w K a6 base N bX st k sp)(d:tJ sp m bX st aJ:=by exact{}):fT P w K a6 base cp (k+1) C m aJ sp:=
 let⟨f,fd,hm,F⟩:=L;⟨f,fd,hm,F.ok S d.len λbU A outer s H vs Q E ak h=>a0 f bU A outer s H vs Q E ak h,F.binds d.bd⟩
def fx.kI{u:Nat}(L:fx K C m bX st)(S:b' N aJ (bh st))(a0:Vl u P w K a6 base N bX st k sp)(d:tJ sp m bX st aJ:=by exact{}):fT P w K a6 base (mb u P w) (k+1) C m aJ sp:=
 let⟨f,fd,hm,F⟩:=L;⟨f,fd,hm,F.kI S d.len λbU A outer s H vs Q E ak h=>a0 f bU A outer s H vs Q E ak h,F.binds d.bd⟩
def oy.ok(L:oy K C bX st)(S:b' N aJ (bh st))(a0:G' P w K a6 base N bX st k sp)(d:tJ sp "__init__" bX st aJ:=by exact{}):ox P w K a6 base cp (k+1) C aJ sp:=
 let⟨f,fd,hm,F⟩:=L;⟨f,fd,hm,F.ok S d.len λbU A outer s H vs Q E ak h=>a0 f bU A outer s H vs Q E ak h,F.binds d.bd⟩
def tI.ok(L:tI K C bX cT st)(S:b' N aJ (bh st))(a0:G' P w K a6 base N bX st k sp)(d:tJ sp "__init__" bX st aJ:=by exact{}):Cq P w K a6 base cp (k+1) C cT aJ sp:=
 let⟨f,fd,hm,F⟩:=L;⟨f,fd,hm,F.ok S d.len λbU A outer s H vs Q E ak h=>a0 f bU A outer s H vs Q E ak h,F.binds d.bd⟩
end
variable{H H':ag}{o:dA}
def aw.upd{b:I}(s:aw H H')(h:H' b=aa):aw H (av H' b o):=λc u q=>by rw[aM (cV (s c u q) h)];exact s c u q
def aw.new{b:I}(h:H b=aa):aw H (av H b o):=aw.upd (aw.refl H) h
variable{xs:sl V}
def aw.MM{a:I}(e:aw H H')(h:dt K H a xs):dt K H' a xs:=by
 obtain(h|⟨o,h⟩)|h:=h
 .exact .inl (.inl (e _ _ h))
 .exact .inl (.inr ⟨o,e _ _ h⟩)
 exact .inr h
noncomputable def cq(i:Nat):bD:=am7.main.body.getD i (.Pass ⟨0,0,0,0⟩)
abbrev Vm:bD:=cq 18
abbrev Vn:bD:=cq 19
abbrev Vo:bD:=cq 29
abbrev Vp:bD:=cq 30
abbrev Vq:bD:=cq 31
abbrev Vr:bD:=cq 32
abbrev Vs:bD:=cq 33
abbrev Vt:bD:=cq 34
abbrev Vu:bD:=cq 35
abbrev Vv:bD:=cq 36
abbrev Vw:bD:=cq 37
abbrev Vx:bD:=cq 38
abbrev Vy:bD:=cq 39
abbrev Vz:bD:=cq 40
abbrev VA:bD:=cq 41
abbrev VB:bD:=cq 42
abbrev VC:bD:=cq 43
abbrev VD:bD:=cq 44
abbrev VE:bD:=cq 45
abbrev VF:bD:=cq 46
abbrev VG:bD:=cq 47
abbrev VH:bD:=cq 52
abbrev VI:bD:=cq 53
abbrev VJ:bD:=cq 54
abbrev VK:bD:=cq 55
abbrev VL:bD:=cq 56
abbrev VM:bD:=cq 58
abbrev VN:bD:=cq 64
abbrev VO:bD:=cq 65
abbrev VP:bD:=cq 66
abbrev VQ:bD:=cq 67
abbrev VR:bD:=cq 68
abbrev VS:bD:=cq 69
abbrev VT:bD:=cq 70
abbrev VU:bD:=cq 71
abbrev VV:bD:=cq 72
abbrev H2:bD:=cq 73
abbrev VW:bD:=cq 74
abbrev VX:bD:=cq 86
abbrev VY:bD:=cq 87
abbrev VZ:bD:=cq 93
abbrev MN:bD:=cq 94
abbrev zK:bD:=cq 95
abbrev MO:bD:=cq 96
abbrev zL:bD:=cq 97
abbrev MP:bD:=cq 98
abbrev MQ:bD:=cq 116
abbrev zM:bD:=cq 117
abbrev V_:bD:=cq 118
abbrev V':bD:=cq 119
abbrev MR:bD:=cq 120
abbrev MS:bD:=cq 121
abbrev W0:bD:=cq 122
abbrev W2:bD:=cq 123
abbrev W3:bD:=cq 124
abbrev W4:bD:=cq 125
abbrev W5:bD:=cq 126
abbrev W6:bD:=cq 146
abbrev Cr:bD:=cq 148
abbrev W7:bD:=eP (cq 17) 0
abbrev W8:bD:=eP (cq 27) 0
abbrev W9:bD:=eP (cq 28) 0
abbrev Wa:bD:=eP (cq 51) 0
abbrev Wb:bD:=eP (cq 57) 0
abbrev Wc:bD:=eP (cq 57) 1
abbrev Wd:bD:=eP (cq 57) 2
abbrev We:bD:=eP (cq 57) 3
abbrev Wf:bD:=eP (cq 57) 4
abbrev Wg:bD:=eP (cq 57) 5
abbrev Wh:bD:=eP (cq 57) 6
abbrev MT:bD:=eP (cq 57) 7
abbrev MU:bD:=eP (cq 57) 8
abbrev Wi:bD:=eP (cq 57) 9
abbrev Wj:bD:=eP (cq 63) 0
abbrev Wk:bD:=eP (cq 85) 0
abbrev Wl:bD:=eP (cq 88) 0
abbrev Wm:bD:=eP (cq 88) 1
abbrev Wn:bD:=eP (cq 88) 2
abbrev Wo:bD:=eP (cq 88) 3
abbrev Wq:bD:=eP (cq 88) 4
abbrev Wr:bD:=eP (cq 88) 5
abbrev Ws:bD:=eP (cq 88) 6
abbrev Wt:bD:=eP (cq 88) 7
abbrev Wu:bD:=eP (cq 88) 8
abbrev Wv:bD:=eP (cq 88) 9
abbrev Ww:bD:=eP (cq 88) 10
abbrev Wx:bD:=eP (cq 113) 0
abbrev Wy:bD:=eP (cq 114) 0
abbrev Wz:bD:=eP (cq 115) 0
abbrev WA:bD:=eP (cq 145) 0
abbrev WB:bD:=eP (cq 145) 1
abbrev WC:bD:=eP (cq 145) 2
abbrev WD:bD:=eP (cq 145) 3
abbrev WE:bD:=eP (cq 147) 0
abbrev zN:bD:=eP (cq 147) 1
abbrev WG:bD:=eP (cq 147) 2
abbrev WH:bD:=eP (cq 147) 3
abbrev WI:bD:=eP (cq 147) 4
abbrev WJ:bD:=eP (cq 147) 5
abbrev WK:bD:=eP (cq 147) 6
abbrev WL:bD:=eP (cq 147) 7
abbrev WM:bD:=eP (cq 147) 8
abbrev WN:bD:=eP (cq 147) 9
abbrev MV:bD:=eP (cq 147) 10
abbrev WO:bD:=eP (cq 147) 11
abbrev WQ:bD:=eP (cq 147) 12
abbrev WR:bD:=eP (cq 147) 13
def MW:b' ["rules","cell","direction","x","y"] ["rules","cell","direction"] (bh Vm):={}
def zO:b' ["rules","cell","x","y"] ["rules","cell"] (bh Vn):={}
def a9k:b' ["piece","side"] ["piece","side"] (bh Vo):={}
def MX:b' ["position","cell"] ["position"] (bh Vp):={}
def a9l:b' ["rules","board","cell"] ["rules","board","cell"] (bh Vq):={}
def a9m:b' ["rules","piece","cell"] ["rules","piece","cell"] (bh Vr):={}
def a9n:b' ["rules","piece","cell"] ["rules","piece","cell"] (bh Vs):={}
def Cs:b' ["rules","board","cell","direction","piece","found","there"] ["rules","board","cell","direction"] (bh Vt):={}
def MY:b' ["rules","position","cell","found","direction"] ["rules","position","cell"] (bh Vu):={}
def Ct:b' ["rules","position","cells","found","x","y"] ["rules","position","cells"] (bh Vv):={}
def a9o:b' ["rules","position"] ["rules","position"] (bh Vw):={}
def WS:b' ["rules","position","cell"] ["rules","position"] (bh Vx):={}
def Cu:b' ["rules","board","piece","cell","enmity","side"] ["rules","board","piece","cell"] (bh Vy):={}
def a9p:b' ["rules","piece","helper"] ["rules","piece","helper"] (bh Vz):={}
def a9q:b' ["rules","board","piece","cell"] ["rules","board","piece","cell"] (bh VA):={}
def MZ:b' ["rules","board","cell","direction"] ["rules","board","cell"] (bh VB):={}
def WT:b' ["rules","board","cell","direction","piece"] ["rules","board","cell","direction"] (bh VC):={}
def H3:b' ["rules","board","cell","turn","found","direction","beside"] ["rules","board","cell","turn"] (bh VD):={}
def H4:b' ["rules","position","x","y","cells","taken","cell"] ["rules","position","x","y"] (bh VE):={}
def a9r:b' ["rules","cell"] ["rules","cell"] (bh VF):={}
def WU:b' ["rules","position","king"] ["rules","position"] (bh VG):={}
def zP:b' ["signs","sign"] ["signs"] (bh VH):={}
def sg:b' ["source","place","row","same","byte","wanted"] ["source","place","row"] (bh VI):={}
def a9s:b' ["byte"] ["byte"] (bh VJ):={}
def a9t:b' ["byte"] ["byte"] (bh VK):={}
def Cv:b' ["value","least","most","lowest","highest"] ["value","least","most"] (bh VL):={}
def WV:b' ["source","reader"] ["source"] (bh VM):={}
def a9u:b' ["length"] ["length"] (bh VN):={}
def xo:b' ["signs","line","length","sign"] ["signs"] (bh VO):={}
def M_:b' ["rules","position","rows","y"] ["rules","position"] (bh VP):={}
def a9v:b' ["cell"] ["cell"] (bh VQ):={}
def a9w:b' ["x","y"] ["x","y"] (bh VR):={}
def vn:b' ["told","line","taken","over","cell"] ["told"] (bh VS):={}
def WW:b' ["rules","position","x","y","come"] ["rules","position","x","y"] (bh VT):={}
def WX:b' ["rules","position","x","y","source","head"] ["rules","position","x","y","source"] (bh VU):={}
def WY:b' ["source","cell","beginning"] ["source","cell"] (bh VV):={}
def H5:b' ["rules","position","source","named","cell","moves"] ["rules","position","source"] (bh H2):={}
def zQ:b' ["rules","position","source","longest","move","line","same"] ["rules","position","source"] (bh VW):={}
def a9x:b' ["stage","ended_by"] ["stage","ended_by"] (bh VX):={}
def WZ:b' ["rules","stage","ended_by","over"] ["rules","stage","ended_by"] (bh VY):={}
def M':b' ["rules","stage","ended_by","who","how"] ["rules","stage","ended_by"] (bh VZ):={}
def Cw:b' ["game","hunters_name","kings_name","names","lines","line"] ["game","hunters_name","kings_name"] (bh MN):={}
def N0:b' ["rules","source","reader","game"] ["rules","source"] (bh zK):={}
def a9y:b' ["reader","rules"] ["reader","rules"] (bh MO):={}
def N1:b' ["reader","game","line","said","fault"] ["reader","game"] (bh zL):={}
def xp:b' ["reader","game","stage","endings","number","ended_by"] ["reader","game"] (bh MP):={}
def Cx:b' ["source","draft","fault","faults","earliest"] ["source"] (bh MQ):={}
def xq:b' ["source","reader","own_name","wide","high","rules","draft"] ["source"] (bh zM):={}
def zR:b' ["reader","rules","signs","marks","row","x","place","sign"] ["reader","rules","signs"] (bh V_):={}
def N2:b' ["marks","cells","mark"] ["marks"] (bh V'):={}
def a9z:b' ["reader","rules"] ["reader","rules"] (bh MR):={}
def W_:b' ["reader","draft","rules"] ["reader","draft"] (bh MS):={}
def vo:b' ["draft","seats","kings","faults","mark"] ["draft"] (bh W0):={}
def N3:b' ["marks","sign","mark"] ["marks","sign"] (bh W2):={}
def a9A:b' ["ground_sign","piece"] ["ground_sign","piece"] (bh W3):={}
def N4:b' ["draft","rules","kings"] ["draft"] (bh W4):={}
def N5:b' ["draft","rules","needs_seat"] ["draft"] (bh W5):={}
def a9B:b' ["row"] ["row"] (bh W6):={}
def sh:b' ["calls","feed","desk","told","call","numbers","count","rows","answer"] ["calls"] (bh Cr):={}
def a9C:b' ["self","own_name","wide","high"] ["self","own_name","wide","high"] (bh W7):={}
def a9D:b' ["self","board","turn"] ["self","board","turn"] (bh W8):={}
def a9E:b' ["self","position","taken"] ["self","position","taken"] (bh W9):={}
def W':b' ["self","place"] ["self","place"] (bh Wa):={}
def a9F:b' ["self","source"] ["self","source"] (bh Wb):={}
def a9G:b' ["self"] ["self"] (bh Wc):={}
def X0:b' ["self","word"] ["self","word"] (bh Wd):={}
def zS:b' ["self","words","longest","number","word","same"] ["self","words"] (bh We):={}
def a9H:b' ["self","word"] ["self","word"] (bh Wf):={}
def X1:b' ["self","row","same"] ["self","row"] (bh Wg):={}
def N6:b' ["self","end"] ["self"] (bh Wh):={}
def H6:b' ["self","least","most","value","longer"] ["self","least","most"] (bh MT):={}
def X2:b' ["self","begun"] ["self"] (bh MU):={}
def a9I:b' ["self"] ["self"] (bh Wi):={}
def a9J:b' ["self","place"] ["self","place"] (bh Wj):={}
def a9K:b' ["self","position","seen","over"] ["self","position","seen","over"] (bh Wk):={}
def a9L:b' ["self","rules"] ["self","rules"] (bh Wl):={}
def a9M:b' ["self"] ["self"] (bh Wm):={}
def a9N:b' ["self"] ["self"] (bh Wn):={}
def a9O:b' ["self"] ["self"] (bh Wo):={}
def a9P:b' ["self"] ["self"] (bh Wq):={}
def X3:b' ["self","x","y","position"] ["self","x","y"] (bh Wr):={}
def N7:b' ["self","position","key","seen"] ["self","position"] (bh Ws):={}
def X4:b' ["self","position","seen","over"] ["self","position","seen"] (bh Wt):={}
def N8:b' ["self","x","y","come","told"] ["self","x","y"] (bh Wu):={}
def a9Q:b' ["self","ended_by"] ["self","ended_by"] (bh Wv):={}
def X5:b' ["self","stage"] ["self"] (bh Ww):={}
def a9R:b' ["self","kind","place"] ["self","kind","place"] (bh Wx):={}
def a9S:b' ["self","cell","sign","place"] ["self","cell","sign","place"] (bh Wy):={}
def a9T:b' ["self","rules","length"] ["self","rules","length"] (bh Wz):={}
def a9U:b' ["self","calls"] ["self","calls"] (bh WA):={}
def a9V:b' ["self"] ["self"] (bh WB):={}
def X6:b' ["self","value"] ["self"] (bh WC):={}
def N9:b' ["self","length","begun"] ["self"] (bh WD):={}
def a9W:b' ["self"] ["self"] (bh WE):={}
def a9X:b' ["self","call","numbers","rows"] ["self","call","numbers","rows"] (bh zN):={}
def Na:b' ["self","source","rules","fault"] ["self","source"] (bh WG):={}
def a9Y:b' ["self","x","y"] ["self","x","y"] (bh WH):={}
def Nb:b' ["self","source","said","fault"] ["self","source"] (bh WI):={}
def a9Z:b' ["self","x","y"] ["self","x","y"] (bh WJ):={}
def aa0:b' ["self","ended_by"] ["self","ended_by"] (bh WK):={}
def aa1:b' ["self"] ["self"] (bh WL):={}
def Nc:b' ["self","game","count"] ["self"] (bh WM):={}
def aa2:b' ["self","k"] ["self","k"] (bh WN):={}
def aa3:b' ["self","k"] ["self","k"] (bh MV):={}
def aa4:b' ["self","k"] ["self","k"] (bh WO):={}
def aa5:b' ["self","hunters_name","kings_name"] ["self","hunters_name","kings_name"] (bh WQ):={}
def Nd:b' ["self","source","game","fault"] ["self","source"] (bh WR):={}
set_option genInjectivity false
structure b4 where
 Rules:I
 Position:I
 Outcome:I
 mg:I
 Reader:I
 vp:I
 oA:I
 Game:I
 vq:I
 Mark:I
 g_:I
 i':I
 fc:I
 lG:I
 vr:I
 vt:I
 vu:I
 vv:I
 zT:I
 zU:I
 zV:I
 Cy:I
 Cz:I
 CA:I
 CB:I
 CC:I
 xr:I
 CD:I
 CE:I
 tK:I
 CF:I
 CG:I
 CH:I
 CI:I
 CJ:I
 CK:I
 CL:I
 CM:I
 CN:I
 CO:I
structure Txt (K:bb) (a6:a8->Iw ae) (a:b4):Prop where
 qh:e_ a6 "SPAN" (13)
 Nf:e_ a6 "CELLS" (169)
 CP:e_ a6 "NOWHERE" (-1)
 H7:e_ a6 "HUNTERS_SIDE" (0)
 X7:e_ a6 "KINGS_SIDE" (1)
 X8:e_ a6 "GOAL_EDGE" (0)
 aa6:e_ a6 "GOAL_EXITS" (1)
 aa7:e_ a6 "AGAINST_HUNTERS" (1)
 aa8:e_ a6 "AGAINST_MEN" (2)
 si:e_ a6 "NOT_OVER" (0)
 X9:e_ a6 "KING_TAKEN" (1)
 Xa:e_ a6 "GOAL_REACHED" (2)
 Ng:e_ a6 "STUCK" (3)
 aa9:e_ a6 "LONGEST_NAME" (16)
 aaa:e_ a6 "LINE_FEED" (10)
 aab:e_ a6 "FIRST_TAKEN" (3)
 Xb:e_ a6 "SEEN_THRICE" (4)
 aac:e_ a6 "LIMIT_REACHED" (5)
 Xc:e_ a6 "GIVEN_UP" (6)
 aad:e_ a6 "LEFT_DRAWN" (7)
 aae:e_ a6 "TIMES_TO_END" (3)
 Nh:e_ a6 "BY_BOTH" (2)
 DRAWN:e_ a6 "DRAWN" (2)
 aaf:e_ a6 "STILL_OPEN" (3)
 Xd:e_ a6 "LEAST_SIZE" (5)
 Xe:e_ a6 "MOST_SIZE" (13)
 aag:e_ a6 "MOST_LIMIT" (60000)
 aah:e_ a6 "BEGIN" (0)
 aai:e_ a6 "MOVE" (1)
 aaj:e_ a6 "SAY" (2)
 aak:e_ a6 "END" (3)
 aal:e_ a6 "BACK" (4)
 aam:e_ a6 "NOW" (5)
 AT:e_ a6 "AT" (6)
 aan:e_ a6 "MADE" (7)
 aao:e_ a6 "TEXT" (8)
 CQ:e_ a6 "DONE" (0)
 Xf:e_ a6 "BAD_ARGUMENT" (-1)
 H8:e_ a6 "NOT_THERE" (-2)
 aap:e_ a6 "NO_RULES" (-3)
 Ni:e_ a6 "GAME_OVER" (-4)
 Xg:e_ a6 "BAD_TEXT" (-5)
 aaq:e_ a6 "BAD_RULES" (-6)
 Nj:mR a6 "PLAIN" "."
 H9:mR a6 "SEAT" "S"
 CR:mR a6 "EXIT" "X"
 Xh:mR a6 "WALL" "#"
 zW:mR a6 "NOBODY" "."
 CS:mR a6 "HUNTER" "h"
 Xi:mR a6 "MAN" "m"
 qi:mR a6 "KING" "K"
 aar:mR a6 "LETTERS" "abcdefghijklm"
 aas:mR a6 "TURN_SIGNS" "hk"
 Nk:mR a6 "END_BEGINNING" "en"
 aat:mR a6 "GROUND_SIGNS" ".SX#"
 aau:mR a6 "START_SIGNS" ".hmK"
 lG:a6 "DIRECTIONS" =B (.ref a.lG)/\∀H,dt K H a.lG [.ref a.vr,.ref a.vt,.ref a.vu,.ref a.vv]
 vr:∀H,dt K H a.vr [.int (0),.int (1)]
 vt:∀H,dt K H a.vt [.int (1),.int (0)]
 vu:∀H,dt K H a.vu [.int (0),.int (-1)]
 vv:∀H,dt K H a.vv [.int (-1),.int (0)]
 zT:a6 "THRICE_WINNERS" =B (.ref a.zT)/\∀H,dt K H a.zT [.int (2),.int (1),.int (0)]
 zU:a6 "WHO_WORDS" =B (.ref a.zU)/\∀H,dt K H a.zU [.str "hunters",.str "king",.str "drawn",.str "open"]
 zV:a6 "HOW_WORDS" =B (.ref a.zV)/\∀H,dt K H a.zV [.str "open",.str "taken",.str "goal",.str "stuck",.str "thrice",.str "limit",.str "given",.str "agreed"]
 Cy:a6 "SIDES" =B (.ref a.Cy)/\∀H,dt K H a.Cy [.str "hunters",.str "king"]
 Cz:a6 "GAITS" =B (.ref a.Cz)/\∀H,dt K H a.Cz [.str "steps",.str "slides"]
 CA:a6 "ARMS" =B (.ref a.CA)/\∀H,dt K H a.CA [.str "bare",.str "armed"]
 CB:a6 "WAYS_TO_TAKE" =B (.ref a.CB)/\∀H,dt K H a.CB [.str "two",.str "four"]
 CC:a6 "PASSAGES" =B (.ref a.CC)/\∀H,dt K H a.CC [.str "barred",.str "passed"]
 xr:a6 "ENMITIES" =B (.ref a.xr)/\∀H,dt K H a.xr [.str "quiet",.str "hunters",.str "men",.str "all"]
 CD:a6 "GOALS" =B (.ref a.CD)/\∀H,dt K H a.CD [.str "edge",.str "exits"]
 CE:a6 "THRICES" =B (.ref a.CE)/\∀H,dt K H a.CE [.str "drawn",.str "hunters",.str "king"]
 tK:a6 "SHAPES" =B (.ref a.tK)/\∀H,dt K H a.tK [.ref a.CF,.ref a.CG,.ref a.CH,.ref a.CI,.ref a.CJ,.ref a.CK,.ref a.CL,.ref a.CM,.ref a.CN,.ref a.CO]
 CF:∀H,dt K H a.CF [.int (0),.int (1)]
 CG:∀H,dt K H a.CG [.int (2),.int (0)]
 CH:∀H,dt K H a.CH [.int (0),.int (1)]
 CI:∀H,dt K H a.CI [.int (1),.int (0)]
 CJ:∀H,dt K H a.CJ [.int (0),.int (0)]
 CK:∀H,dt K H a.CK [.int (0),.int (0)]
 CL:∀H,dt K H a.CL [.int (1),.int (0)]
 CM:∀H,dt K H a.CM [.int (1),.int (0)]
 CN:∀H,dt K H a.CN [.int (0),.int (2)]
 CO:∀H,dt K H a.CO [.int (0),.int (1)]
 aav:Laid K a6 "next_cell" Vm
 Xj:Laid K a6 "on_edge" Vn
 aaw:Laid K a6 "is_of_side" Vo
 aax:Laid K a6 "own_cells" Vp
 aay:Laid K a6 "is_free" Vq
 aaz:Laid K a6 "stops_on" Vr
 aaA:Laid K a6 "goes_over" Vs
 aaB:Laid K a6 "targets_towards" Vt
 targets:Laid K a6 "targets" Vu
 aaC:Laid K a6 "moves_from" Vv
 aaD:Laid K a6 "list_of_moves" Vw
 aaE:Laid K a6 "can_move" Vx
 aaF:Laid K a6 "is_against" Vy
 aaG:Laid K a6 "helps_against" Vz
 aaH:Laid K a6 "is_held" VA
 aaI:Laid K a6 "is_surrounded" VB
 aaJ:Laid K a6 "is_taken" VC
 aaK:Laid K a6 "taken_cells" VD
 outcome:Laid K a6 "outcome" VE
 aaL:Laid K a6 "is_on_goal" VF
 aaM:Laid K a6 "position_over" VG
 Xk:Laid K a6 "bytes_of" VH
 Xl:Laid K a6 "agreed" VI
 aaN:Laid K a6 "is_digit" VJ
 aaO:Laid K a6 "is_letter" VK
 aaP:Laid K a6 "leads_on" VL
 aaQ:Laid K a6 "is_name" VM
 aaR:Laid K a6 "run_line" VN
 aaS:Laid K a6 "row_line" VO
 aaT:Laid K a6 "position_line" VP
 aaU:Laid K a6 "cell_name" VQ
 aaV:Laid K a6 "line_head" VR
 aaW:Laid K a6 "move_line" VS
 aaX:Laid K a6 "whole_line" VT
 aaY:Laid K a6 "line_to_compare" VU
 aaZ:Laid K a6 "begins_with_cell" VV
 ab0:Laid K a6 "moves_to_compare" H2
 ab1:Laid K a6 "said_move" VW
 ab2:Laid K a6 "how_over_if" VX
 ab3:Laid K a6 "who_won_if" VY
 ab4:Laid K a6 "end_line" VZ
 ab5:Laid K a6 "game_text" MN
 ab6:Laid K a6 "read_game" zK
 ab7:Laid K a6 "read_names" MO
 ab8:Laid K a6 "read_move" zL
 ab9:Laid K a6 "read_end" MP
 aba:Laid K a6 "read_rules" MQ
 abb:Laid K a6 "read_draft" zM
 abc:Laid K a6 "read_marks" V_
 abd:Laid K a6 "laid_out" V'
 abe:Laid K a6 "read_customs" MR
 abf:Laid K a6 "read_ends" MS
 abg:Laid K a6 "mark_faults" W0
 abh:Laid K a6 "with_sign" W2
 abi:Laid K a6 "is_misplaced" W3
 abj:Laid K a6 "goal_faults" W4
 abk:Laid K a6 "missing_faults" W5
 abl:Laid K a6 "counted" W6
 answers:Laid K a6 "answers" Cr
 dm:iA K a.Rules/\a6 "Rules" =B (.ref a.Rules)
 Nl:eE K a.Rules "own_name"
 zX:eE K a.Rules "wide"
 xt:eE K a.Rules "high"
 oB:eE K a.Rules "ground"
 CT:eE K a.Rules "board"
 Nm:eE K a.Rules "first"
 Nn:eE K a.Rules "slides"
 CU:eE K a.Rules "armed"
 Np:eE K a.Rules "four"
 Ha:eE K a.Rules "passed"
 Hb:eE K a.Rules "seat"
 Nq:eE K a.Rules "exits"
 CV:eE K a.Rules "goal"
 Nr:eE K a.Rules "thrice"
 Nt:eE K a.Rules "limit"
 abm:oy K a.Rules "Rules.__init__" W7
 jW:iA K a.Position/\a6 "Position" =B (.ref a.Position)
 r6:eE K a.Position "board"
 tL:eE K a.Position "turn"
 abn:oy K a.Position "Position.__init__" W8
 xu:iA K a.Outcome/\a6 "Outcome" =B (.ref a.Outcome)
 Nu:eE K a.Outcome "position"
 Nv:eE K a.Outcome "taken"
 abo:oy K a.Outcome "Outcome.__init__" W9
 tM:a6 "GrammarFault" =B (.ref a.mg)
 r7:tI K a.mg "GrammarFault.__init__" ["place"] Wa
 cO:iA K a.Reader/\a6 "Reader" =B (.ref a.Reader)
 r8:eE K a.Reader "source"
 jF:eE K a.Reader "place"
 abp:oy K a.Reader "Reader.__init__" Wb
 abq:fx K a.Reader "peek" "Reader.peek" Wc
 Xm:fx K a.Reader "agreed_with" "Reader.agreed_with" Wd
 abr:fx K a.Reader "choice" "Reader.choice" We
 abt:fx K a.Reader "word" "Reader.word" Wf
 abu:fx K a.Reader "row" "Reader.row" Wg
 abv:fx K a.Reader "line_ahead" "Reader.line_ahead" Wh
 abw:fx K a.Reader "number" "Reader.number" MT
 abx:fx K a.Reader "name" "Reader.name" MU
 aby:fx K a.Reader "finish" "Reader.finish" Wi
 Nw:a6 "LineFault" =B (.ref a.vp)
 Hc:tI K a.vp "LineFault.__init__" ["place"] Wj
 nG:iA K a.oA/\a6 "Stage" =B (.ref a.oA)
 zY:eE K a.oA "position"
 Hd:eE K a.oA "seen"
 He:eE K a.oA "over"
 abz:oy K a.oA "Stage.__init__" Wk
 dn:iA K a.Game/\a6 "Game" =B (.ref a.Game)
 pL:eE K a.Game "rules"
 xv:eE K a.Game "stages"
 tN:eE K a.Game "moves"
 Hf:eE K a.Game "lines"
 Hh:eE K a.Game "times"
 xw:eE K a.Game "ended_by"
 abA:oy K a.Game "Game.__init__" Wl
 abB:fx K a.Game "last_stage" "Game.last_stage" Wm
 abC:fx K a.Game "last_position" "Game.last_position" Wn
 abD:fx K a.Game "how_over" "Game.how_over" Wo
 abE:fx K a.Game "who_won" "Game.who_won" Wq
 abF:fx K a.Game "has_move" "Game.has_move" Wr
 abG:fx K a.Game "reach" "Game.reach" Ws
 abH:fx K a.Game "over_there" "Game.over_there" Wt
 abI:fx K a.Game "make" "Game.make" Wu
 abJ:fx K a.Game "leave" "Game.leave" Wv
 abK:fx K a.Game "take_back" "Game.take_back" Ww
 Nx:a6 "RulesFault" =B (.ref a.vq)
 Ny:tI K a.vq "RulesFault.__init__" ["kind","place"] Wx
 pM:iA K a.Mark/\a6 "Mark" =B (.ref a.Mark)
 Hi:eE K a.Mark "cell"
 Hj:eE K a.Mark "sign"
 Hk:eE K a.Mark "place"
 abL:oy K a.Mark "Mark.__init__" Wy
 jG:iA K a.g_/\a6 "Draft" =B (.ref a.g_)
 zZ:eE K a.g_ "rules"
 Xn:eE K a.g_ "length"
 Hl:eE K a.g_ "ground_marks"
 z_:eE K a.g_ "start_marks"
 Hm:eE K a.g_ "goal_place"
 abM:oy K a.g_ "Draft.__init__" Wz
 mh:iA K a.i'/\a6 "Feed" =B (.ref a.i')
 Hn:eE K a.i' "calls"
 xx:eE K a.i' "place"
 abN:oy K a.i' "Feed.__init__" WA
 abO:fx K a.i' "has_more" "Feed.has_more" WB
 abP:fx K a.i' "number" "Feed.number" WC
 abQ:fx K a.i' "row" "Feed.row" WD
 eU:iA K a.fc/\a6 "Desk" =B (.ref a.fc)
 hs:eE K a.fc "game"
 abR:oy K a.fc "Desk.__init__" WE
 abS:fx K a.fc "answer" "Desk.answer" zN
 abT:fx K a.fc "begin" "Desk.begin" WG
 abU:fx K a.fc "move" "Desk.move" WH
 abV:fx K a.fc "say" "Desk.say" WI
 abW:fx K a.fc "make" "Desk.make" WJ
 abX:fx K a.fc "end" "Desk.end" WK
 abY:fx K a.fc "back" "Desk.back" WL
 abZ:fx K a.fc "now" "Desk.now" WM
 ac0:fx K a.fc "at" "Desk.at" WN
 ac1:fx K a.fc "line_at" "Desk.line_at" MV
 ac2:fx K a.fc "made" "Desk.made" WO
 ac3:fx K a.fc "text" "Desk.text" WQ
 ac4:fx K a.fc "read" "Desk.read" WR
 Xo:a6 "sorted" =aa
 ac5:a6 "all" =aa
 ac6:a6 "list" =aa
 Xp:a6 "zip" =aa
 z':a6 "range" =aa
 tO:a6 "ord" =aa
 ac7:a6 "enumerate" =aa
 Nz:a6 "str" =aa
 i3:a6 "len" =aa
 NA:a6 "max" =aa
 ac8:a6 "min" =aa
noncomputable def dC(l:sl Nat):a8:=⟨l.toArray⟩
def b2(b:Bool):Int:=if b then 1 else 0
def e6:lh->a8
 |.none=>"."
 |.hunter=>"h"
 |.man=>"m"
 |.king=>"K"
def oC:EF->a8
 |.plain=>"."
 |.seat=>"S"
 |.exit=>"X"
 |.wall=>"#"
def oD(p:lh):(⟨#[Tf.pc p]⟩:a8)=e6 p:=by cases p<;>decide+kernel
def vw(k:EF):(⟨#[Tf.eo k]⟩:a8)=oC k:=by cases k<;>decide+kernel
def kh(p q:lh):decide (V.str (e6 p)=V.str (e6 q))=(p==q):=by cases p<;>cases q<;>decide+kernel
def vx(p q:EF):decide (V.str (oC p)=V.str (oC q))=(p==q):=by cases p<;>cases q<;>decide+kernel
def Ho(n:I)(r:f5):sl (a8×V):=[("own_name",.ref n),("wide",.int r.wide),("high",.int r.high),("ground",.str (dC (Tf.fa r))),("board",.str (dC (Tf.bd r.begins))),("first",.int r.first),("slides",.int (b2 r.slides)),("armed",.int (b2 r.armed)),("four",.int (b2 r.four)),("passed",.int (b2 r.passed)),("seat",.int r.seat),("exits",.int r.exits),("goal",.int r.goal),("thrice",.int r.thrice),("limit",.int r.limit)]
def fU(a:b4)(H:ag)(p:I)(r:f5):Prop:=∃d:I×I,H p=B (.ins a.Rules d.1 (Ho d.2 r))
variable{a:b4}{p:I}{r:f5}
def fU.same(h:fU a H p r)(s:aw H H'):fU a H' p r:=let⟨a3,q⟩:=h;⟨a3,s _ _ q⟩
variable{c:Nat}
def Ci{l:sl Nat}{v:Nat}(h:l[c]? =B v):ho (dC l).cps.toList (c:Int)=B v:=by refine gw ?_;show l.toArray.toList[c]? =B v;simpa using h
def A0(l:sl Nat):(dC l).length=l.length:=by show l.toArray.size=_;simp
noncomputable def CW:Nat->sl V
 |0=>[.int 0,.int 1]
 |1=>[.int 1,.int 0]
 |2=>[.int 0,.int (-1)]
 |_=>[.int (-1),.int 0]
def r9:Iw Nat->Int
 |none=> -1
 |some n=>n
def ac9(d:Nat):∃a3 oE:Int,CW d=[.int a3,.int oE]/\(d=0->a3=0/\oE=1)/\(d=1->a3=1/\oE=0)/\(d=2->a3=0/\oE= -1)/\(d=3->a3= -1/\oE=0):=by
 match d with
 |0=>exact⟨_,_,Y,by simp,by simp,by simp,by simp⟩
 |1=>exact⟨_,_,Y,by simp,by simp,by simp,by simp⟩
 |2=>exact⟨_,_,Y,by simp,by simp,by simp,by simp⟩
 |3=>exact⟨_,_,Y,by simp,by simp,by simp,by simp⟩
 |d+4=>exact⟨_,_,Y,by lia,by lia,by lia,by lia⟩
def aca{d:Nat}{a3 oE:Int}(s:dj r)(a7:Tf.Cell r c)(hd:d<4)(h:(d=0->a3=0/\oE=1)/\(d=1->a3=1/\oE=0)/\(d=2->a3=0/\oE= -1)/\(d=3->a3= -1/\oE=0)):r9 (r.next d c)=if(0<=(c:Int)%13+a3/\(c:Int)%13+a3<r.wide)/\(0<=(c:Int)/13+oE/\(c:Int)/13+oE<r.high)then 13*((c:Int)/13+oE)+((c:Int)%13+a3)else -1:=by
 have oY:=kB.mp a7;have:=s.pw;have:=s.q9;have aO:(c:Int)%13=((c%13:Nat):Int):=by lia
 have aT:(c:Int)/13=((c/13:Nat):Int):=by lia
 rw[aO,aT];unfold akF mC Tafl.cellOf mC;have vy:d=0∨d=1∨d=2∨d=3:=by lia
 obtain rfl|rfl|rfl|rfl:=vy
 .obtain⟨rfl,rfl⟩:=h.1 Y;simp only[jO];split
  .rw[aZ (by lia)];show(((_:Nat)):Int)=_;lia
  rw[aL (by lia)];rfl
 .obtain⟨rfl,rfl⟩:=h.2.1 Y;simp only[show¬(1=0) by decide,jN,jO];split
  .rw[aZ (by lia)];show(((_:Nat)):Int)=_;lia
  rw[aL (by lia)];rfl
 .obtain⟨rfl,rfl⟩:=h.2.2.1 Y;simp only[show¬(2=0) by decide,show¬(2=1) by decide,jN,jO];split
  .rw[aZ (by lia)];show(((_:Nat)):Int)=_;lia
  rw[aL (by lia)];rfl
 obtain⟨rfl,rfl⟩:=h.2.2.2 Y;simp only[show¬(3=0) by decide,show¬(3=1) by decide,show¬(3=2) by decide,jN];split
 .rw[aZ (by lia)];show(((_:Nat)):Int)=_;lia
 rw[aL (by lia)];rfl
def Hp(p:lh)(s:Nat):Bool:=if s=0 then p== .hunter else p== .man||p== .king
def acb(K:bb)(a:b4):bN:=λvs H Q _=>kJ λp r c gG d=>r5 (vs=[.ref p,.int ((c:Nat):Int),.ref gG]) (fU a H p r) (dj r) (Tf.Cell r c) (d<4) (dt K H gG (CW d)) (Q (.int (r9 (r.next d c))) H)
def acd(a:b4):bN:=λvs H Q _=>qf λp r c=>jE (vs=[.ref p,.int ((c:Nat):Int)]) (fU a H p r) (dj r) (Q (.c3 (r.onEdge (c%13,c/13))) H)
inductive NB (vs:sl V) (H:ag) (Q:c2) (E:cW):Prop
 |mk p s:vs=[.str (e6 p),.int ((s:Nat):Int)]->Q (.c3 (Hp p s)) H->NB vs H Q E
def ace(a:b4):bN:=λvs H Q _=>kg λp r q n=>mQ (vs=[.ref p,.str (dC (Tf.bd q)),.int (r9 n)]) (fU a H p r) (dj r) ((∀c,n=B c->Tf.Cell r c)) (Q (.c3 (match n with|none=>aK|some c=>r.free q c)) H)
def acf(a:b4):bN:=λvs H Q _=>kg λp r q c=>mQ (vs=[.ref p,.str (e6 q),.int ((c:Nat):Int)]) (fU a H p r) (dj r) (Tf.Cell r c) (Q (.c3 (z9 r (q== .king) c)) H)
def acg(a:b4):bN:=λvs H Q _=>kg λp r q c=>mQ (vs=[.ref p,.str (e6 q),.int ((c:Nat):Int)]) (fU a H p r) (dj r) (Tf.Cell r c) (Q (.c3 (za r (q== .king) c)) H)
def CY(T:Txt K a6 a):dH P w K a6 base cp 2 "next_cell" ["rules","cell","direction"] (acb K a):=by
 refine T.aav.ok MW ?_;rintro _ _ _ _ _ _ _ _ _ _ _ ⟨p,r,c,gG,d,rfl,⟨gI,aq⟩,ax,a7,hd,dq,k⟩;refine⟨_,aC (cz (i:=3) MW.bj (de o3 (de F6 (J 1) (cL T.qh Y)) (dZ m2 (J 2) cg (λ_ _=>rfl)))) (aC (cz (i:=4) MW.bj (de o3 (de F5 (J 1) (cL T.qh Y)) (dZ m2 (J 2) cg (λ_ _=>rfl)))) (aC (d4 (jq.pt (nX (K3 rR pa cg (J 3) (bg (J 0) Y)) (p_ (K3 rR pa cg (J 4) (bg (J 0) Y))))) (aX (bF (de o3 (de wB (cL T.qh Y) (J 4)) (J 3)))) d9) (aX (bF (cL T.CP Y))))),?_⟩;obtain⟨_,_,lH,ach⟩:=ac9 d;rw[lH]at dq;have e:=aca ax a7 hd ach;refine⟨_,_,Y,Y,(by show(0:Int)<13;decide),gG,_,_,_,Y,Y,dq,Y,_,_,Y,Y,_,_,Y,Y,⟨(by show(0:Int)<13;decide),(by show(13:Int)<1073741824;decide)⟩,gG,_,_,_,Y,Y,dq,Y,_,_,Y,Y,_,_,Y,Y,_,Y,gq (λO=>?_) λO=>?_⟩
 .refine⟨p,_,_,_,_,Y,aq,T.dm.1,T.zX,Y,_,_,Y,Y,_,Y,gq (λa5=>?_) λa5=>?_⟩
  .refine⟨_,_,Y,Y,_,Y,gq (λaG=>?_) λaG=>?_⟩
   .refine⟨p,_,_,_,_,Y,aq,T.dm.1,T.xt,Y,_,_,Y,Y,_,Y,gq (λcJ=>?_) λcJ=>?_⟩
    .refine⟨_,_,Y,Y,.inl ⟨dQ,dQ⟩,_,_,Y,Y,?_⟩;rw[e,aZ ⟨⟨e7 O,e7 a5⟩,e7 aG,e7 cJ⟩]at k;exact k
    rw[e,aL λz=>cJ (eL z.2.2)]at k;exact k
   refine⟨_,Y,gF ?_⟩;rw[e,aL λz=>aG (eL z.2.1)]at k;exact k
  rw[e,aL λz=>a5 (eL z.1.2)]at k;exact gF k
 refine⟨_,Y,gF ?_⟩;rw[e,aL λz=>O (eL z.1.1)]at k;exact gF k
def NC(T:Txt K a6 a):dH P w K a6 base cp 1 "is_of_side" ["piece","side"] NB:=by
 refine T.aaw.ok a9k ?_;rintro _ _ _ _ _ _ _ _ _ _ _ ⟨p,gT,rfl,k⟩;refine⟨_,aC (d4 (d1 dB (J 1) (cL T.H7 Y) (cu _)) (aX (bF (gM dB (J 0) (e' T.CS Y) (cu _)))) d9) (aX (bF (p1 (gM dB (J 0) (e' T.Xi Y) (cu _)) (p' (gM dB (J 0) (e' T.qi Y) (cu _)))))),Y,_,Y,gq (λO=>?_) λO=>?_⟩
 .refine⟨Y,?_⟩;have z:gT=0:=by
   have:=e7 O;have:=V.int.inj this
   lia
  unfold Hp at k;rw[aZ z,<-kh p .hunter]at k;exact k
 have z:¬gT=0:=λz=>O (eL (by rw[z];rfl));unfold Hp at k;rw[aL z,<-kh p .man,<-kh p .king]at k;refine⟨Y,_,Y,gq (λa5=>?_) λa5=>⟨Y,?_⟩⟩
 .rw[show decide (V.str (e6 p)=V.str (e6 .man))=a9 from a5]at k;exact k
 rw[show decide (V.str (e6 p)=V.str (e6 .man))=aK from nT a5]at k;exact k
variable{q:gv}
def aci(T:Txt K a6 a):dH P w K a6 base cp 1 "on_edge" ["rules","cell"] (acd a):=by
 refine T.Xj.ok zO ?_;rintro _ _ _ _ _ H _ Q _ _ _ ⟨p,r,c,rfl,⟨gI,aq⟩,ax,k⟩;refine⟨_,aC (cz (i:=2) zO.bj (de F6 (J 1) (cL T.qh Y))) (aC (cz (i:=3) zO.bj (de F5 (J 1) (cL T.qh Y))) (aX (bF (p1 (gM dB (J 2) cg (cu _)) (p1 (gM dB (J 3) cg (cu _)) (p1 (gM dB (J 2) (de o4 (bg (J 0) Y) cg) (cu _)) (p' (gM dB (J 3) (de o4 (bg (J 0) Y) cg) (cu _))))))))),?_⟩;have f7:=ax.wN;have iV:=ax.f7;have aO:decide (V.int ((c:Int)%13)=V.int 0)=(c%13==0):=by rw[o5];apply hT.mpr;simp only[i9];omega
 have aT:decide (V.int ((c:Int)/13)=V.int 0)=(c/13==0):=by rw[o5];apply hT.mpr;simp only[i9];omega
 have e1:decide (V.int ((c:Int)%13)=V.int ((r.wide:Int)-1))=(c%13+1==r.wide):=by rw[o5];apply hT.mpr;simp only[i9];omega
 have hN:decide (V.int ((c:Int)/13)=V.int ((r.high:Int)-1))=(c/13+1==r.high):=by rw[o5];apply hT.mpr;simp only[i9];omega
 have k:Q (.c3 ((c%13==0)||(c/13==0)||(c%13+1==r.wide)||(c/13+1==r.high))) H:=k;rw[<-aO,<-aT,<-e1,<-hN]at k;refine⟨_,_,rfl,rfl,(by show(0:Int)<13;decide),_,_,rfl,rfl,⟨(by show(0:Int)<13;decide),(by show(13:Int)<1073741824;decide)⟩,rfl,_,rfl,gq (λO=>?_) λO=>?_⟩
 .rw[show decide (V.int ((c:Int)%13)=V.int 0)=a9 from O]at k;exact k
 rw[show decide (V.int ((c:Int)%13)=V.int 0)=aK from nT O]at k;refine⟨Y,_,Y,gq (λa5=>?_) λa5=>?_⟩
 .rw[show decide (V.int ((c:Int)/13)=V.int 0)=a9 from a5]at k;exact k
 rw[show decide (V.int ((c:Int)/13)=V.int 0)=aK from nT a5]at k;refine⟨p,_,_,_,_,Y,aq,T.dm.1,T.zX,Y,_,_,Y,Y,Y,_,Y,gq (λaG=>?_) λaG=>?_⟩
 .rw[show decide (V.int ((c:Int)%13)=V.int ((r.wide:Int)-1))=a9 from aG]at k;exact k
 rw[show decide (V.int ((c:Int)%13)=V.int ((r.wide:Int)-1))=aK from nT aG]at k;refine⟨p,_,_,_,_,Y,aq,T.dm.1,T.xt,Y,_,_,Y,Y,Y,?_⟩;exact k
def A1(l:sl Nat)(h:l.length=169):(dC l).length<=cN:=by rw[A0,h];decide
def CZ(s:dj r)(h:Tf.Cell r c):(dC (Tf.fa r)).length<=cN/\ho (dC (Tf.fa r)).cps.toList (c:Int)=B (Tf.eo (r.kindAt c)):=⟨A1 _ (LQ r),Ci (Tb r s h)⟩
def Hq(h:c<169):(dC (Tf.bd q)).length<=cN/\ho (dC (Tf.bd q)).cps.toList (c:Int)=B (Tf.pc (q.on c)):=⟨A1 _ (kE q),Ci (qV q h)⟩
def acj(T:Txt K a6 a):dH P w K a6 base cp 1 "is_free" ["rules","board","cell"] (ace a):=by
 refine T.aay.ok a9l ?_;rintro _ _ _ _ _ H _ Q _ _ _ ⟨p,r,q,n,rfl,⟨gI,aq⟩,ax,aH,k⟩;refine⟨_,aX (bF (E_ (gM o6 (J 2) (cL T.CP Y) (cu _)) (E_ (gM o6 (dZ nr (bg (J 0) Y) (J 2) (λ_ _=>rfl)) (e' T.Xh Y) (cu _)) (p' (gM dB (dZ nr (J 1) (J 2) (λ_ _=>rfl)) (e' T.zW Y) (cu _)))))),?_⟩;cases n with
 |none=>refine⟨Y,_,Y,?_⟩;rw[aL dQ];exact k
 |some c=>
  have a7:=aH c Y;obtain⟨jC,g2⟩:=CZ ax a7;obtain⟨b1,b2⟩:=Hq (q:=q) (ax.lt a7);refine⟨Y,_,Y,?_⟩;rw[aZ (show(!decide (V.int (r9 (B c))=V.int (-1)))=a9 by
   have:¬V.int (r9 (B c))=V.int (-1):=λz=>by have z:=V.int.inj z;have z:((c:Nat):Int)= -1:=z;omega
   rw[gW this];rfl)]
  refine⟨p,_,_,_,_,Y,aq,T.dm.1,T.oB,Y,_,_,_,Y,Y,jC,g2,Y,_,Y,gq (λO=>?_) λO=>?_⟩
  .refine⟨_,_,_,Y,Y,b1,b2,Y,?_⟩;have k:Q (.c3 (r.free q c)) H:=k;have e:r.free q c=decide (V.str ⟨#[Tf.pc (q.on c)]⟩=V.str (e6 .none)):=by unfold Jo;rw[oD,kh];have O:(!decide (V.str ⟨#[Tf.eo (r.kindAt c)]⟩=V.str (oC .wall)))=a9:=O;rw[vw,vx]at O;rw[show(r.kindAt c != .wall)=a9 from O];rfl
   rw[e]at k;exact k
  have k:Q (.c3 (r.free q c)) H:=k;have e:r.free q c=aK:=by unfold Jo;have O:¬(!decide (V.str ⟨#[Tf.eo (r.kindAt c)]⟩=V.str (oC .wall)))=a9:=O;rw[vw,vx]at O;rw[show(r.kindAt c != .wall)=aK from nT O];rfl
  rw[e]at k;exact k
def C_(b:Bool):decide (V.int (b2 b)=V.int 1)=b:=by cases b<;>decide
def ack(T:Txt K a6 a):dH P w K a6 base cp 1 "stops_on" ["rules","piece","cell"] (acf a):=by
 refine T.aaz.ok a9m ?_;rintro _ _ _ _ _ _ _ _ _ _ _ ⟨p,r,q,c,rfl,⟨gI,aq⟩,ax,a7,k⟩;refine⟨_,aX (bF (p1 (gM dB (J 1) (e' T.qi Y) (cu _)) (p' (gM dB (dZ nr (bg (J 0) Y) (J 2) (λ_ _=>rfl)) (e' T.Nj Y) (cu _))))),?_⟩;obtain⟨jC,g2⟩:=CZ ax a7;unfold z9 at k;rw[<-kh q .king,<-vx (r.kindAt c) .plain,<-vw]at k;refine⟨Y,_,Y,gq (λO=>?_) λO=>?_⟩
 .rw[show decide (V.str (e6 q)=V.str (e6 .king))=a9 from O]at k;exact k
 rw[show decide (V.str (e6 q)=V.str (e6 .king))=aK from nT O]at k;refine⟨p,_,_,_,_,Y,aq,T.dm.1,T.oB,Y,_,_,_,Y,Y,jC,g2,Y,k⟩
def acm(T:Txt K a6 a):dH P w K a6 base cp 1 "goes_over" ["rules","piece","cell"] (acg a):=by
 refine T.aaA.ok a9n ?_;rintro _ _ _ _ _ H _ Q _ _ _ ⟨p,r,q,c,rfl,⟨gI,aq⟩,ax,a7,k⟩;refine⟨_,aC (d4 (d1 dB (J 1) (e' T.qi Y) (cu _)) (aX (bF (gM dB (bg (J 0) Y) cg (cu _)))) d9) (aC (d4 (d1 dB (dZ nr (bg (J 0) Y) (J 2) (λ_ _=>rfl)) (e' T.H9 Y) (cu _)) (aX (bF (gM dB (bg (J 0) Y) cg (cu _)))) d9) (aX (bF (gM o6 (dZ nr (bg (J 0) Y) (J 2) (λ_ _=>rfl)) (e' T.CR Y) (cu _))))),?_⟩;obtain⟨jC,g2⟩:=CZ ax a7;unfold za at k;refine⟨Y,_,Y,gq (λO=>?_) λO=>?_⟩
 .have O:decide (V.str (e6 q)=V.str (e6 .king))=a9:=O;rw[kh]at O;rw[aZ O,<-C_ r.slides]at k;exact⟨p,_,_,_,_,Y,aq,T.dm.1,T.Nn,Y,Y,k⟩
 have O:¬decide (V.str (e6 q)=V.str (e6 .king))=a9:=O;rw[kh]at O;rw[aL O]at k;refine⟨p,_,_,_,_,Y,aq,T.dm.1,T.oB,Y,_,_,_,Y,Y,jC,g2,Y,_,Y,gq (λa5=>?_) λa5=>?_⟩
 .have a5:decide (V.str ⟨#[Tf.eo (r.kindAt c)]⟩=V.str (oC .seat))=a9:=a5;rw[vw,vx]at a5;rw[show r.kindAt c=.seat from eq_of_beq a5]at k;have k:Q (.c3 r.passed) H:=k;rw[<-C_ r.passed]at k;exact⟨p,_,_,_,_,Y,aq,T.dm.1,T.Ha,Y,Y,k⟩
 have a5:¬decide (V.str ⟨#[Tf.eo (r.kindAt c)]⟩=V.str (oC .seat))=a9:=a5;rw[vw,vx]at a5;refine⟨p,_,_,_,_,Y,aq,T.dm.1,T.oB,Y,_,_,_,Y,Y,jC,g2,Y,?_⟩;have e:(!decide (V.str ⟨#[Tf.eo (r.kindAt c)]⟩=V.str (oC .exit)))=(match r.kindAt c with|.seat=>r.passed|.exit=>aK|_=>a9):=by rw[vw,vx];cases z:r.kindAt c with|seat=>rw[z]at a5;exact absurd Y a5|plain=>rfl|exit=>rfl|wall=>rfl
 refine(g5 (λb=>Q (V.c3 b) H) e).mpr ?_;exact k
def dD(l:sl Nat):sl V:=l.map λ(n:Nat)=>V.int ((n:Nat):Int)
def acn(K:bb)(a:b4):bN:=λvs H Q _=>jD λp r q c gG d=>r5 (vs=[.ref p,.str (dC (Tf.bd q)),.int ((c:Nat):Int),.ref gG]) (fU a H p r) (dj r) (Tf.Cell r c) (d<4) (dt K H gG (CW d)) (∀l,H l=aa->∀H',aw H H'->H' l=B (.lst (dD (Tf.way r q c d)))->Q (.ref l) H')
def Xq{k:Bool}{d:Nat}:∀(f c:Nat),(pB r q k d f c).length<=f:=by
 intro f;induction f with
 |zero=>intro c;cases k<;>simp[pB,yv,yw]
 |succ f ih=>
  intro c;cases e:r.next d c with
  |none=>rw[SX e];simp
  |some n=>
   unfold pB;have:=ih n;unfold pB at this;cases k
   .simp only[qu,jN]at this ⊢;conv=>lhs;unfold yw
    rw[e];dsimp only;split
    .simp
    split
    .simp
    .split
     .lia
     simp
    simp;lia
   simp only[jO]at this ⊢;conv=>lhs;unfold yv
   rw[e];dsimp only;split
   .simp
   split
   .simp;lia
   simp
def aco(T:Txt K a6 a):dH P w K a6 base cp 3 "targets_towards" ["rules","board","cell","direction"] (acn K a):=by
 refine T.aaB.ok Cs ?_;rintro f _ _ _ _ H _ Q _ _ ak ⟨p,r,q,c,gG,d,rfl,⟨gI,aq⟩,ax,a7,hd,dq,k⟩;refine⟨_,aC (cz (i:=4) Cs.bj (dZ nr (J 1) (J 2) (λ_ _=>rfl))) (aC (cz (i:=5) Cs.bj (fC az)) (aC (cz (i:=6) Cs.bj (cw (CY T) ak Y bu (ao (J 0) (ao (J 2) (ao (J 3) az))))) (aC (wt oQ (js (cw (acj T) ak.mono Y bu (ao (J 0) (ao (J 1) (ao (J 6) az))))) (aC (d4 (js (cw (ack T) ak.mono Y bu (ao (J 0) (ao (J 4) (ao (J 6) az))))) (aX (ea (q1 oP uf w3 t8 (J 5) (ao (J 6) az)))) d9) (aC (d4 (wo (js (cw (acm T) ak.mono Y bu (ao (J 0) (ao (J 4) (ao (J 6) az)))))) (aX QT) d9) (aX (cz (i:=6) Cs.bj (cw (CY T) ak Y bu (ao (J 0) (ao (J 6) (ao (J 3) az))))))))) (aX (bF (J 5)))))),?_⟩;have s1:∀l,H l=aa->aw H (av H l (.lst [])):=λl ar=>aw.new ar;obtain⟨b1,C'⟩:=Hq (q:=q) (ax.lt a7);have acp:=a56 (d:=d) ax a7;refine⟨_,_,_,Y,Y,b1,C',es _,λl ar=>?_⟩;refine⟨p,r,c,gG,d,Y,fU.same ⟨gI,aq⟩ (s1 l ar),ax,a7,hd,aw.MM (s1 l ar) dq,λf aN H'=>∃e8 bK,aN=[B (.ref p),B (.str (dC (Tf.bd q))),B (.int (c:Int)),B (.ref gG),B (.str (e6 (q.on c))),B (.ref l),B (.int (r9 (r.next d e8)))]/\Tf.Cell r e8/\Tf.room r d e8<f/\bK++pB r q (q.on c== .king) d f e8=Tf.way r q c d/\aw H H'/\H' l=B (.lst (dD bK)),⟨13,c,[],?_,a7,acp,?_,s1 l ar,(by rw[b3];rfl)⟩,λf aN H' acq=>?_⟩
 .rw[<-oD];rfl
 .rw[LL];rfl
 obtain⟨e8,bK,rfl,oY,_,nH,aE,j8⟩:=acq;obtain⟨f,rfl⟩:∃g,f=g+1:=⟨f-1,by lia⟩;have acr:(Tf.way r q c d).length<=13:=by rw[LL];exact Xq 13 c
 have acs:bK.length<=13:=by rw[<-nH,dh]at acr;lia
 have fin:bK=Tf.way r q c d->Q (.ref l) H':=λz=>k l ar H' aE (by rw[<-z];exact j8);refine⟨p,r,q,r.next d e8,Y,fU.same ⟨gI,aq⟩ aE,ax,λ_ aO=>(wZ ax oY aO).1,_,Y,?_⟩;cases e:r.next d e8 with
 |none=>refine gF (fin ?_);rw[SX e,hU]at nH;exact nH
 |some n=>
  obtain⟨aH,_,_⟩:=wZ ax oY e;rw[a5p ax e]at nH;show if r.free q n=a9 then _ else _
  cases hf:r.free q n with
  |false=>refine gF (fin ?_);rw[hf,aZ Y,hU]at nH;exact nH
  |true=>
   rw[hf,aL dQ]at nH;refine hM ⟨λaN H'=>∃bK,aN=[B (.ref p),B (.str (dC (Tf.bd q))),B (.int (c:Int)),B (.ref gG),B (.str (e6 (q.on c))),B (.ref l),B (.int (r9 (r.next d n)))]/\bK++pB r q (q.on c== .king) d f n=Tf.way r q c d/\aw H H'/\H' l=B (.lst (dD bK)),λ_ au ⟨A2,hK,g8,G4,Ce⟩=>⟨f,by lia,n,A2,hK,aH,by lia,g8,G4,Ce⟩,?_⟩;refine⟨p,r,q.on c,n,Y,fU.same ⟨gI,aq⟩ aE,ax,aH,_,Y,gq (λO=>⟨.inl ⟨Y,_,bo.of j8⟩,l,_,_,Y,Y,j8,(by rw[dD,cX];exact lR acs dQ),?_⟩) λO=>?_⟩
   .have bT:∃A2:sl Nat,aw H (av H' l (.lst (dD bK++[.int (n:Int)])))/\(av H' l (.lst (dD bK++[.int (n:Int)]))) l=B (.lst (dD A2))/\A2=bK++(if z9 r (q.on c== .king) n=a9 then[n]else[]):=by
     refine⟨bK++[n],λb o z=>?_,?_,?_⟩
     .rw[aM (cV z ar)];exact aE b o z
     .rw[b3,dD,dD,fO];rfl
     rw[aZ O]
    revert bT;show _->nY _ _ _ _ (av H' l (.lst (dD bK++[.int (n:Int)])));generalize av H' l (.lst (dD bK++[.int (n:Int)]))=au;rintro⟨A2,eQ,hp,jw⟩;refine⟨p,r,q.on c,n,Y,fU.same ⟨gI,aq⟩ eQ,ax,aH,_,Y,?_⟩;cases aI:za r (q.on c== .king) n with|false=>refine hM (k l ar au eQ ?_);rw[aI,aL (show¬(aK=a9) by decide),hU,<-jw]at nH;rw[<-nH];exact hp|true=>rw[aI,aZ (show a9=a9 from Y),<-lP,<-jw]at nH;refine gF ⟨p,r,n,gG,d,Y,fU.same ⟨gI,aq⟩ eQ,ax,aH,hd,aw.MM eQ dq,?_⟩;exact⟨A2,Y,nH,eQ,hp⟩
   have jw:bK=bK++(if z9 r (q.on c== .king) n=a9 then[n]else[]):=by rw[aL O,hU]
   refine⟨p,r,q.on c,n,Y,fU.same ⟨gI,aq⟩ aE,ax,aH,_,Y,?_⟩;cases aI:za r (q.on c== .king) n with|false=>refine hM (fin ?_);rw[aI,aL (show¬(aK=a9) by decide),hU,<-jw]at nH;exact nH|true=>rw[aI,aZ (show a9=a9 from Y),<-lP,<-jw]at nH;refine gF ⟨p,r,n,gG,d,Y,fU.same ⟨gI,aq⟩ aE,ax,aH,hd,aw.MM aE dq,?_⟩;exact⟨bK,Y,nH,aE,j8⟩
def Hr(q:gv):sl (a8×V):=[("board",.str (dC (Tf.bd q))),("turn",.int q.side)]
def jH(a:b4)(H:ag)(p:I)(q:gv):Prop:=∃a3,H p=B (.ins a.Position a3 (Hr q))
def jH.same(h:jH a H p q)(s:aw H H'):jH a H' p q:=let⟨a3,z⟩:=h;⟨a3,s _ _ z⟩
def Hs(l:sl Nat):dD l=(l.map λ(n:Nat)=>(n:Int)).map V.int:=by unfold dD;rw[iL];rfl
def Ht(l m:sl Nat):dD (l++m)=dD l++dD m:=by unfold dD;rw[fO]
def jI(l:sl Nat):(dD l).length=l.length:=by unfold dD;rw[cX]
def ND(q:gv)(c:Nat):Hp (q.on c) q.side=i1 q c:=rfl
def acu(a:b4):bN:=λvs H Q _=>kJ λp r q cZ c=>r5 (vs=[.ref p,.ref cZ,.int ((c:Nat):Int)]) (fU a H p r) (jH a H cZ q) (dj r) (eg r q) (c<169) (∀l,H l=aa->∀H',aw H H'->H' l=B (.lst (dD (i2 r q c)))->Q (.ref l) H')
variable{i:Nat}{br:Type}
def NF(T:Txt K a6 a){x:V}(h:([.ref a.vr,.ref a.vt,.ref a.vu,.ref a.vv]:sl V)[i]? =B x):i<4/\hH[i]? =B i/\∃gG,x=.ref gG/\∀H,dt K H gG (CW i):=by
 match i,h with
 |0,h=>cases h;exact⟨dQ,Y,_,Y,T.vr⟩
 |1,h=>cases h;exact⟨dQ,Y,_,Y,T.vt⟩
 |2,h=>cases h;exact⟨dQ,Y,_,Y,T.vu⟩
 |3,h=>cases h;exact⟨dQ,Y,_,Y,T.vv⟩
 |i+4,h=>simp at h
def take_snoc:∀{l:sl br}{i:Nat}{x:br},l[i]? =B x->l.take (i+1)=l.take i++[x]:=fun{l i x} h=>by rw[ue,h];rfl
def Hu{d:Nat}:(Tf.way r q c d).length<=13:=by rw[LL];exact Xq 13 c
def Xr(i:Nat):((hH.take i).flatMap (Tf.way r q c)).length<=52:=by
 have b8:=Hu (r:=r) (q:=q) (c:=c) (d:=0);have O:=Hu (r:=r) (q:=q) (c:=c) (d:=1);have a5:=Hu (r:=r) (q:=q) (c:=c) (d:=2);have aG:=Hu (r:=r) (q:=q) (c:=c) (d:=3);have e:∀i,((hH.take i).flatMap (Tf.way r q c)).length<=(hH.flatMap (Tf.way r q c)).length:=λi=>by
  conv=>rhs;rw[<-AI i hH,Az,dh]
  lia
 refine dE (e i) ?_;simp[hH]
 lia
def NG(T:Txt K a6 a):dH P w K a6 base cp 4 "targets" ["rules","position","cell"] (acu a):=by
 refine T.targets.ok MY ?_;rintro _ _ _ _ _ H _ Q _ _ ak ⟨p,r,q,cZ,c,rfl,d2,⟨A3,aq⟩,ax,hw,a7,k⟩;refine⟨_,aC (cz (i:=3) MY.bj (fC az)) (aC (d4 (js (cw (NC T) ak.mono Y bu (ao (dZ nr (bg (J 1) Y) (J 2) (λ_ _=>rfl)) (ao (bg (J 1) Y) az)))) (aX (n_ oQ Y (JS (mf T.lG.1 Y)) (h8 (i:=4) MY.bj) (aX (ea (q1 oP PY a1g KC (J 3) (ao (cw (aco T) ak Y bu (ao (J 0) (ao (bg (J 1) Y) (ao (J 2) (ao (J 4) az))))) az)))))) d9) (aX (bF (fj RO Y T.Xo boot_sorted (ao (J 3) az))))),?_⟩;obtain⟨b1,C'⟩:=Hq (q:=q) a7;refine⟨es _,λl ar=>?_⟩;have s1:aw H (av H l (.lst [])):=aw.new ar;have fin:∀(H':ag)(found:sl Nat),aw H H'->H' l=B (.lst (dD found))->found.length<64->found.Nodup->(∀x∈found,x<192)->(i2 r q c=(eI 192).filter λt=>found.contains t)->RN K [.ref l] H' Q:=λH' found aE j8 Fp uW a0 aF=>by refine⟨l,found.map λ(n:Nat)=>(n:Int),Y,bo.of (by rw[j8,Hs]),by rw[cX];exact Fp,λl' fS NH NI ra=>?_⟩;have b5:=Tf.sorted_ints NH NI uW a0;refine k fS (aw.free aE ra) (av H' fS (.lst (l'.map V.int))) (aw.upd aE ra) ?_;rw[b3,b5,aF,Hs]
 refine⟨cZ,_,_,_,_,Y,s1 _ _ aq,T.jW.1,T.r6,Y,_,_,_,Y,Y,b1,C',cZ,_,_,_,_,Y,s1 _ _ aq,T.jW.1,T.tL,Y,q.on c,q.side,?_,_,Y,?_⟩
 .rw[<-oD];rfl
 rw[ND];cases aU:i1 q c with
 |false=>refine gF ?_;refine fin _ [] s1 b3 dQ aiS (λx ah=>nomatch ah) ?_;unfold i2;rw[aU,aL dQ];simp
 |true=>
  have nW:Tf.Cell r c:=LB hw ax (SS aU) (by lia);obtain⟨acv,acw⟩:=SI (p:=q) ax nW;refine hM ⟨a.lG,Y,⟨_,T.lG.2 _⟩,R1 (K:=K) (a:=a.lG) (xs:=[.ref a.vr,.ref a.vt,.ref a.vu,.ref a.vv]) (λi aN H'=>∃v,aN=[B (.ref p),B (.ref cZ),B (.int (c:Int)),B (.ref l),v]/\aw H H'/\H' l=B (.lst (dD ((hH.take i).flatMap (Tf.way r q c))))) ⟨aa,Y,s1,b3⟩ (λ_ _ H' _ _=>T.lG.2 H') (λi x aN H' hi bI=>?_) λaN H' bI=>?_⟩
  .obtain⟨v,rfl,aE,j8⟩:=bI;obtain⟨Hv,pf,gG,rfl,tP⟩:=NF T hi;refine⟨.inl ⟨Y,_,bo.of j8⟩,cZ,_,_,_,_,Y,aE _ _ aq,T.jW.1,T.r6,Y,p,r,q,c,gG,i,Y,d2.same aE,ax,nW,Hv,tP _,λgD _ _ eQ acx=>?_⟩;have eY:=Xr (r:=r) (q:=q) (c:=c) (i+1);rw[take_snoc pf,Az]at eY;refine⟨l,gD,_,_,Y,Y,eQ _ _ j8,acx,?_,_,Y,λb o z=>?_,?_⟩
   .rw[jI,jI];simp at eY;exact dE (dE (by simp) eY) dQ
   .rw[aM (cV z ar)];exact eQ _ _ (aE _ _ z)
   rw[b3,take_snoc pf,Az,Ht];simp
  obtain⟨v,rfl,aE,j8⟩:=bI;refine fin _ _ aE j8 (lR (Xr 4) dQ) ?_ ?_ ?_
  .exact acv
  .intro x ah;have:=ax.lt (acw x ah).1
   lia
  unfold i2;rw[aU,aZ Y];rfl
inductive fe (H:ag) (l:I) (cv:sl (Nat×Nat)):Prop
 |mk:∀ts:sl I,H l=B (.lst (ts.map V.ref))->ts.length=cv.length->(∀(i:Nat)(t:I)(m:Nat×Nat),ts[i]? =B t->cv[i]? =B m->H t=B (.tup [.int (m.1:Int),.int (m.2:Int)]))->fe H l cv
def A4(r:f5)(q:gv):Bool:=(eI 169).any λc=>!(i2 r q c).isEmpty
def oF(q:gv):sl Nat:=(eI 169).filter (i1 q)
def acy(a:b4):bN:=λvs H Q _=>sf λq cZ=>il (vs=[.ref cZ]) (jH a H cZ q) (∀l,H l=aa->∀H',aw H H'->H' l=B (.lst (dD (oF q)))->Q (.ref l) H')
def acz(a:b4):bN:=λvs H Q _=>kg λp r q cZ=>qg (vs=[.ref p,.ref cZ]) (fU a H p r) (jH a H cZ q) (dj r) (eg r q) (∀H',aw H H'->Q (.c3 (A4 r q)) H')
def acA(a:b4):bN:=λvs H Q _=>jD λp r q cZ cl c4=>MK (vs=[.ref p,.ref cZ,.ref cl]) (fU a H p r) (jH a H cZ q) (dj r) (eg r q) (H cl=B (.lst (dD c4))) ((∀c∈c4,c<169)) (c4.length<=169) (∀l,H l=aa->∀H',aw H H'->fe H' l (c4.flatMap λc=>(i2 r q c).map λt=>(c,t))->Q (.ref l) H')
def acB(a:b4):bN:=λvs H Q _=>kg λp r q cZ=>qg (vs=[.ref p,.ref cZ]) (fU a H p r) (jH a H cZ q) (dj r) (eg r q) (∀l,H l=aa->∀H',aw H H'->fe H' l ((eI 169).flatMap λc=>(i2 r q c).map λt=>(c,t))->Q (.ref l) H')
def NJ(q:gv):(oF q).length<=169:=dE (vY ..) (by simp)
def Hw(h:c∈oF q):c<169:=fY.mp (jk.mp h).1
def Xs(h:¬i1 q c=a9):i2 r q c=[]:=by unfold i2;rw[aL h]
def Hx(r:f5)(q:gv):∀l:sl Nat,((l.filter (i1 q)).flatMap λc=>(i2 r q c).map λt=>(c,t))=l.flatMap λc=>(i2 r q c).map λt=>(c,t)
 |[]=>rfl
 |c::l=>by
  rw[qw,mZ];by_cases h:i1 q c=a9
  .rw[aZ h,mZ,Hx r q l]
  rw[aL h,Xs h,Hx r q l];rfl
def D0{l:sl Nat}{x:V}(h:(dD l)[i]? =B x):∃t,l[i]? =B t/\x=.int (t:Int):=by unfold dD at h;rw[fW]at h;cases e:l[i]? with|none=>rw[e]at h;cases h|some t=>rw[e]at h;exact⟨t,Y,(h4 h).symm⟩
def NK(T:Txt K a6 a):dH P w K a6 base cp 2 "own_cells" ["position"] (acy a):=by
 refine T.aax.ok MX ?_;rintro _ _ _ _ _ H _ _ _ _ ak ⟨q,cZ,rfl,⟨A3,aq⟩,k⟩;refine⟨_,aX (bF (te (tt:=p0 (iR NB [] q5 (ed (k2 Ku (ha K (dc 0) "board") (dc 1)) (ed (ha K (dc 0) "turn") gi)))) Y MX.bj (Bc Y T.z' (ao (fj Fo Y T.i3 iu (ao (bg (J 0) Y) az)) az)) (og (own:=[("cell",1)]) Y) (λ_ _ _ _ _=>h8 (i:=1) MX.bj) (λ_ _ _ _ _=>KS (js (cw (NC T) ak Y bu (ao (dZ nr (bg (J 0) Y) (J 1) (λ_ _=>rfl)) (ao (bg (J 0) Y) az))))) (λ_ _ _ _ _=>J 1))),?_⟩;have eY:(dC (Tf.bd q)).length=169:=by rw[A0,kE]
 refine⟨cZ,_,_,_,_,Y,aq,T.jW.1,T.r6,Y,_,Y,A1 _ (kE q),((dC (Tf.bd q)).length:Int),Y,(by rw[eY];decide),(by rw[eY];decide),λaf d3=>?_⟩;rw[eY];refine L5 (lo:=0) (n:=169) (λj H'=>aw H H'/\H' af=B (.lst (dD ((eI j).filter (i1 q))))) ⟨aw.new d3,b3⟩ (λj H' bY aR=>?_) λH' aR=>?_
 .obtain⟨aE,gU⟩:=aR;have l2:(0:Int)+(j:Int)=(j:Int):=by lia
  rw[l2];obtain⟨b1,C'⟩:=Hq (q:=q) bY;refine⟨Y,cZ,_,_,_,_,Y,aE _ _ aq,T.jW.1,T.r6,Y,_,_,_,Y,Y,b1,C',cZ,_,_,_,_,Y,aE _ _ aq,T.jW.1,T.tL,Y,q.on j,q.side,?_,_,Y,?_⟩
  .rw[<-oD];rfl
  rw[ND];have st:(eI (j+1)).filter (i1 q)=(eI j).filter (i1 q)++(if i1 q j=a9 then[j]else[]):=by rw[y4,Ay,qw,IP]
  cases aU:i1 q j with
  |false=>refine gF ⟨aE,?_⟩;rw[st,aU,gU];simp
  |true=>
   refine hM ⟨_,gU,?_,λb o z=>?_,?_⟩
   .rw[jI];exact lR (dE (vY ..) (by simp;lia:_<=169)) dQ
   .rw[aM (cV z d3)];exact aE _ _ z
   rw[b3,st,aU,Ht];rfl
 obtain⟨aE,gU⟩:=aR;exact k af d3 H' aE gU
def acC(T:Txt K a6 a):dH P w K a6 base cp 5 "can_move" ["rules","position"] (acz a):=by
 refine T.aaE.ok WS ?_;rintro _ _ _ _ _ _ _ _ _ _ ak ⟨p,r,q,cZ,rfl,d2,aq,ax,hw,k⟩;refine⟨_,aC (n_ oQ Y (nZ (cw (NK T) ak.mono Y bu (ao (J 1) az))) (h8 (i:=2) WS.bj) (aX (d4 (d1 rS (fj jc Y T.i3 iu (ao (cw (NG T) ak Y bu (ao (J 0) (ao (J 1) (ao (J 2) az)))) az)) cg (cu _)) (aX (bF qF)) d9))) (aX (bF qF)),q,cZ,Y,aq,λcl _ ai qj xy=>⟨cl,Y,⟨_,bo.of xy⟩,?_⟩⟩;refine yO (xs:=dD (oF q)) (λi aN H'=>∃v,aN=[B (.ref p),B (.ref cZ),v]/\aw ai H'/\∀c∈(oF q).take i,i2 r q c=[]) ⟨aa,Y,aw.refl ai,λc z=>nomatch z⟩ (λi aN H' _ bI=>?_) (λi x aN H' hi bI=>?_) λaN H' bI=>?_
 .obtain⟨v,rfl,aE,_⟩:=bI;exact bo.of (aE _ _ xy)
 .obtain⟨v,rfl,aE,aR⟩:=bI;obtain⟨c,a7,rfl⟩:=D0 hi;have Hy:=Hw (n0 a7);have eQ:=qj.trans aE;refine⟨p,r,q,cZ,c,Y,d2.same eQ,aq.same eQ,ax,hw,Hy,λl _ au fy hp=>?_⟩;refine⟨l,_,Y,.inl (bo.of hp),_,_,Y,Y,_,Y,gq (λO=>?_) λO=>?_⟩
  .have O:=e7 O;rw[jI]at O;have ne:i2 r q c≠[]:=λz=>by rw[z]at O;exact absurd O dQ
   have c9:=k au (eQ.trans fy);rw[show A4 r q=a9 from Ax.mpr ⟨c,fY.mpr Hy,by simpa using ne⟩]at c9;exact c9
  refine⟨_,Y,aE.trans fy,λe8 oY=>?_⟩;rw[take_snoc a7]at oY;obtain z|z:=kN.mp oY
  .exact aR e8 z
  rw[jY.mp z];cases e:i2 r q c with
  |nil=>rfl
  |cons x gh=>
   exfalso;refine O (eL ?_);rw[jI,e];show(0:Int)<((gh.length+1:Nat):Int)
   lia
 obtain⟨v,rfl,aE,aR⟩:=bI;have c9:=k H' (qj.trans aE);rw[jI,jl]at aR;rw[show A4 r q=aK from a0y.mpr λc a7=>by
  by_cases aU:i1 q c=a9
  .rw[aR c (jk.mpr ⟨a7,aU⟩)];simp
  rw[Xs aU];simp]at c9
 exact c9
variable{cv:sl (Nat×Nat)}
def fe.same{l:I}(h:fe H l cv)(s:aw H H'):fe H' l cv:=
 let⟨ts,a,b,c⟩:=h;⟨ts,s _ _ a,b,λi t m x y=>s _ _ (c i t m x y)⟩
def fe.nil{l:I}(h:H l=B (.lst [])):fe H l []:=⟨[],h,Y,λi t m x=>by simp at x⟩
def fe.list{l:I}(h:fe H l cv):∃xs,H l=B (.lst xs)/\xs.length=cv.length:=let⟨ts,a,b,_⟩:=h;⟨_,a,by rw[cX,b]⟩
def fe.cat{l b:I}{ns:sl (Nat×Nat)}{zs:sl V}(h:fe H l cv)(h':fe H b ns)(ex:H l=B (.lst xs))(NL:H b=B (.lst zs)):fe (av H l (.lst (xs++zs))) l (cv++ns):=by
 obtain⟨ts,dr,dy,eB⟩:=h;obtain⟨us,b1,b2,m6⟩:=h';rw[ex]at dr;cases dr;rw[NL]at b1;cases b1;refine⟨ts++us,by rw[b3,fO],by simp[dy,b2],λi t m x y=>?_⟩;have key:H t=B (.tup [.int (m.1:Int),.int (m.2:Int)]):=by
  by_cases hi:i<ts.length
  .rw[l9 hi]at x;rw[l9 (by lia)]at y;exact eB i t m x y
  rw[pR (by lia)]at x;rw[pR (by lia)]at y;rw[<-dy]at y;exact m6 _ t m x y
 rw[aM (JA key ex (by intro z;cases z))];exact key
def fe.snoc{af lI:I}{m:Nat×Nat}(h:fe H af cv)(ex:H af=B (.lst xs))(b9:H lI=aa):(av H lI (.tup [.int (m.1:Int),.int (m.2:Int)])) af=B (.lst xs)/\fe (av (av H lI (.tup [.int (m.1:Int),.int (m.2:Int)])) af (.lst (xs++[.ref lI]))) af (cv++[m]):=by
 obtain⟨ts,dr,dy,eB⟩:=h;rw[ex]at dr;cases dr;have Hz:af≠lI:=cV ex b9;refine⟨by rw[aM Hz];exact ex,ts++[lI],by rw[b3,fO];rfl,by simp[dy],λi t m' x y=>?_⟩;by_cases hi:i<ts.length
 .rw[l9 hi]at x;rw[l9 (by lia)]at y;have key:=eB i t m' x y;rw[aM (JA key ex (by intro z;cases z)),aM (cV key b9)];exact key
 rw[pR (by lia)]at x;rw[pR (by lia)]at y;have aR:i-ts.length=0:=by cases z:i-ts.length with|zero=>rfl|succ j=>rw[z]at x;simp at x
 rw[aR]at x;have acD:i-cv.length=0:=by lia
 rw[acD]at y;cases x;cases y;rw[aM (λz=>Hz z.symm),b3]
def NM(r:f5)(q:gv)(c:Nat):(i2 r q c).length<=192:=by
 unfold i2;split
 .exact dE (vY ..) (by simp)
 simp
def tQ(r:f5)(q:gv)(c4:sl Nat):sl (Nat×Nat):=c4.flatMap λc=>(i2 r q c).map λt=>(c,t)
def acE(r:f5)(q:gv)(c4:sl Nat)(n:Nat):tQ r q (c4++[n])=tQ r q c4++(i2 r q n).map λt=>(n,t):=by unfold tQ;rw[Az];simp
def Xt(r:f5)(q:gv):∀c4,(tQ r q c4).length<=c4.length*192
 |[]=>by simp[tQ]
 |c::c4=>by
  have:=Xt r q c4;have:=NM r q c;unfold tQ at this ⊢;rw[mZ,dh,cX,fX];unfold tQ at*
  lia
def Xu(T:Txt K a6 a):dH P w K a6 base cp 5 "moves_from" ["rules","position","cells"] (acA a):=by
 refine T.aaC.ok Ct ?_;rintro _ _ _ _ _ H _ _ _ _ ak ⟨p,r,q,cZ,cl,c4,rfl,d2,⟨A3,aq⟩,ax,hw,f9,Lp,al8,k⟩;refine⟨_,aC (cz (i:=3) Ct.bj (fC az)) (aC (n_ oQ Y (nZ (J 2)) (h8 (i:=4) Ct.bj) (aX (ea (q1 oP PY a1g KC (J 3) (ao (te Y Ct.bj (nZ (cw (NG T) ak Y bu (ao (J 0) (ao (J 1) (ao (J 4) az))))) (og (own:=[("y",5)]) Y) (λ_ _ _ _ _=>h8 (i:=5) Ct.bj) (λ_ _ _ _ _=>qN) (λ_ _ _ _ _=>sZ (ao (J 4) (ao (J 5) az)))) az))))) (aX (bF (J 3)))),es _,λl ar=>?_⟩;have s1:aw H (av H l (.lst [])):=aw.new ar;have al9:cl≠l:=cV f9 ar;refine⟨cl,Y,⟨_,bo.of (s1 _ _ f9)⟩,yO (xs:=dD c4) (λi aN H'=>∃v,aN=[B (.ref p),B (.ref cZ),B (.ref cl),B (.ref l),v,aa]/\aw H H'/\fe H' l (tQ r q (c4.take i))) ⟨aa,Y,s1,fe.nil b3⟩ (λi aN H' _ bI=>?_) (λi x aN H' hi bI=>?_) λaN H' bI=>?_⟩
 .obtain⟨v,rfl,aE,_⟩:=bI;exact bo.of (aE _ _ f9)
 .obtain⟨v,rfl,aE,vz⟩:=bI;obtain⟨c,a7,rfl⟩:=D0 hi;have Hy:=Lp c (n0 a7);obtain⟨xs,ma,hF⟩:=vz.list;refine⟨.inl ⟨Y,_,bo.of ma⟩,p,r,q,cZ,c,Y,d2.same aE,⟨A3,aE _ _ aq⟩,ax,hw,Hy,λlt _ au eQ xg=>?_⟩;refine⟨lt,Y,⟨_,bo.of xg⟩,λaf d3=>?_⟩;have l3:aw au (av au af (.lst [])):=aw.new d3;refine uS (K:=K) (a:=lt) (xs:=dD (i2 r q c)) (λj bc=>aw au bc/\fe bc af (((i2 r q c).take j).map λt=>(c,t))) ⟨l3,fe.nil b3⟩ (λj bc _ z=>bo.of (z.1 _ _ xg)) (λj x bc bY aR=>?_) λbc aR=>?_
  .obtain⟨fy,A5⟩:=aR;obtain⟨t,b9,rfl⟩:=D0 bY;obtain⟨ys,sa,xe⟩:=A5.list;refine⟨Y,nU,λ_ l1=>?_⟩;obtain⟨bw,cy⟩:=A5.snoc (m:=(c,t)) sa l1;refine⟨ys,bw,?_,λb o z=>?_,?_⟩
   .rw[xe,cX];have:=NM r q c;have:((i2 r q c).take j).length<=192:=by rw[ko];lia
    exact lR this dQ
   .rw[aM (cV z d3),aM (cV (fy _ _ z) l1)];exact fy _ _ z
   rw[take_snoc b9,fO];exact cy
  obtain⟨fy,A5⟩:=aR;rw[jI,jl]at A5;obtain⟨_,hK,g8⟩:=A5.list;have Xv:=fy _ _ (eQ _ _ ma);have acF:=(vz.same eQ).same fy;refine⟨l,af,_,_,Y,Y,Xv,hK,?_,_,Y,λb o z=>?_,?_⟩
  .rw[hF,g8,cX];have O:=Xt r q (c4.take i);have a5:=NM r q c;have aG:(c4.take i).length<=169:=by rw[ko];lia
   have:(c4.take i).length*192<=169*192:=Nat.mul_le_mul_right _ aG;exact dE (show(tQ r q (c4.take i)).length+(i2 r q c).length<=40000 by lia) dQ
  .rw[aM (cV z ar)];exact fy _ _ (eQ _ _ (aE _ _ z))
  rw[take_snoc a7,acE];exact acF.cat A5 Xv hK
 obtain⟨v,rfl,aE,vz⟩:=bI;rw[jI,jl]at vz;exact(k l ar H' aE vz)
def acG(T:Txt K a6 a):dH P w K a6 base cp 6 "list_of_moves" ["rules","position"] (acB a):=by refine T.aaD.ok a9o ?_;rintro _ _ _ _ _ _ _ _ _ _ ak ⟨p,r,q,cZ,rfl,d2,aq,ax,hw,k⟩;refine⟨_,aX (bF (cw (Xu T) ak Y bu (ao (J 0) (ao (J 1) (ao (cw (NK T) ak.mono Y bu (ao (J 1) az)) az))))),q,cZ,Y,aq,λcl _ _ s1 xy=>⟨p,r,q,cZ,cl,oF q,Y,d2.same s1,aq.same s1,ax,hw,xy,λc a7=>Hw a7,NJ q,λl ar au s2 lA=>k l (s1.free ar) au (s1.trans s2) ?_⟩⟩;unfold oF at lA;rw[Hx]at lA;exact lA
def rb(q:gv):sl V:=(Tf.bd q).map λ(c:Nat)=>V.str ⟨#[c]⟩
def xA(q:gv)(h:c<169):ho (rb q) (c:Int)=B (.str (e6 (q.on c))):=by refine gw ?_;unfold rb;rw[fW,qV q h,<-oD];rfl
def acH(q:gv):(rb q).length=169:=by unfold rb;rw[cX,kE]
def acI(a:b4):bN:=λvs H Q _=>kg λp r x y=>il (vs=[.ref p,.str (e6 x),.str (e6 y)]) (fU a H p r) (Q (.c3 (r.helps (x != .hunter) y)) H)
def acJ(a:b4):bN:=λvs H Q _=>jD λp r cl q x c=>qg (vs=[.ref p,.ref cl,.str (e6 x),.int ((c:Nat):Int)]) (fU a H p r) (hc r) (H cl=B (.lst (rb q))) (Tf.Cell r c) (Q (.c3 (r.against q (x != .hunter) c)) H)
def acK(a:b4):bN:=λvs H Q _=>jD λp r cl q x n=>qg (vs=[.ref p,.ref cl,.str (e6 x),.int (r9 n)]) (fU a H p r) (hc r) (H cl=B (.lst (rb q))) ((∀c,n=B c->Tf.Cell r c)) (Q (.c3 (Tf.heldBy r q (x != .hunter) n)) H)
def acL(a:b4):bN:=λvs H Q _=>kJ λp r cl q c=>qg (vs=[.ref p,.ref cl,.int ((c:Nat):Int)]) (fU a H p r) (hc r) (H cl=B (.lst (rb q))) (Tf.Cell r c) (∀H',aw H H'->Q (.c3 (hH.all λe=>Tf.heldBy r q a9 (r.next e c))) H')
def acM(K:bb)(a:b4):bN:=λvs H Q _=>zG λp r cl q c gG d=>tH (vs=[.ref p,.ref cl,.int ((c:Nat):Int),.ref gG]) (fU a H p r) (hc r) (H cl=B (.lst (rb q))) (Tf.Cell r c) (d<4) ((∀H',dt K H' gG (CW d))) (∀H',aw H H'->Q (.c3 (qa r q d c)) H')
def acN(T:Txt K a6 a):dH P w K a6 base cp 1 "helps_against" ["rules","piece","helper"] (acI a):=by
 refine T.aaG.ok a9p ?_;rintro _ _ _ _ _ _ _ _ _ _ _ ⟨p,r,x,y,rfl,⟨gI,aq⟩,k⟩;refine⟨_,aC (d4 (d1 o6 (J 1) (e' T.CS Y) (cu _)) (aX (bF (gM dB (J 2) (e' T.CS Y) (cu _)))) d9) (aX (bF (p1 (gM dB (J 2) (e' T.Xi Y) (cu _)) (p' (E_ (gM dB (J 2) (e' T.qi Y) (cu _)) (p' (gM dB (bg (J 0) Y) cg (cu _)))))))),?_⟩;unfold amO at k;refine⟨Y,_,Y,gq (λO=>?_) λO=>?_⟩
 .have O:(!decide (V.str (e6 x)=V.str (e6 .hunter)))=a9:=O;rw[kh]at O;have O:(x != .hunter)=a9:=O;rw[aZ O,<-kh y .hunter]at k;exact⟨Y,k⟩
 have O:¬(!decide (V.str (e6 x)=V.str (e6 .hunter)))=a9:=O;rw[kh]at O;have O:¬(x != .hunter)=a9:=O;rw[aL O,<-kh y .man,<-kh y .king,<-C_ r.armed]at k;refine⟨Y,_,Y,gq (λa5=>?_) λa5=>?_⟩
 .rw[show decide (V.str (e6 y)=V.str (e6 .man))=a9 from a5]at k;exact k
 rw[show decide (V.str (e6 y)=V.str (e6 .man))=aK from nT a5]at k;refine⟨Y,_,Y,gq (λaG=>?_) λaG=>?_⟩
 .rw[show decide (V.str (e6 y)=V.str (e6 .king))=a9 from aG]at k;exact⟨p,_,_,_,_,Y,aq,T.dm.1,T.CU,Y,Y,k⟩
 rw[show decide (V.str (e6 y)=V.str (e6 .king))=aK from nT aG]at k;exact k
def acO{e:Nat}(h:e<4)(men:Bool):decide ((0:Int)<a1b (e:Int) (if men=a9 then 2 else 1))=akI e men:=by
 have:e=0∨e=1∨e=2∨e=3:=by lia
 rcases this with rfl|rfl|rfl|rfl<;>cases men<;>decide+kernel
def acP(T:Txt K a6 a):dH P w K a6 base cp 1 "is_against" ["rules","board","piece","cell"] (acJ a):=by
 refine T.aaF.ok Cu ?_;rintro _ _ _ _ _ H _ Q _ _ _ ⟨p,r,cl,q,x,c,rfl,⟨gI,aq⟩,aY,f9,a7,k⟩;refine⟨_,aC (cz (i:=4) Cu.bj cg) (aC (d4 (jq.pt (nX (d1 dB (dZ nr (bg (J 0) Y) (J 3) (λ_ _=>rfl)) (e' T.H9 Y) (cu _)) (p_ (d1 dB (dZ hL (J 1) (J 3) (λ_ _=>rfl)) (e' T.zW Y) (cu _))))) (aX (cz (i:=4) Cu.bj (bg (J 0) Y))) d9) (aC (d4 (d1 dB (dZ nr (bg (J 0) Y) (J 3) (λ_ _=>rfl)) (e' T.CR Y) (cu _)) (aX (cz (i:=4) Cu.bj (bg (J 0) Y))) d9) (aC (cz (i:=5) Cu.bj (QS (d1 dB (J 2) (e' T.CS Y) (cu _)) (cL T.aa7 Y) (cL T.aa8 Y))) (aX (bF (gM rS (de a2P (J 4) (J 5)) cg (cu _))))))),?_⟩;obtain⟨jC,g2⟩:=CZ aY.c0 a7;have fin:∀(e:Nat),e<4->r.against q (x != .hunter) c=akI e (x != .hunter)->nY (p6 (QR (o7 (k2 K0 (dc 2) (iP (.str "h")))) (iP (.int 1)) (iP (.int 2))) (mJ 5)) (p3 (k2 (lZ λi j=>.c3 (decide (j<i))) (k2 (lZ λi j=>.int (a1b i j)) (dc 4) (dc 5)) (iP (.int 0)))) {c8:=λ_ H'=>Q .bR H',iw:=Q}
   [B (.ref p),B (.ref cl),B (.str (e6 x)),B (.int (c:Int)),B (.int (e:Int)),aa] H:=λe aF bf=>by
  rw[bf,<-acO aF]at k;refine⟨Y,_,Y,gq (λO=>?_) λO=>?_⟩
  .have O:decide (V.str (e6 x)=V.str (e6 .hunter))=a9:=O;rw[kh]at O;have O:(x != .hunter)=aK:=by show(!(x== .hunter))=aK;rw[O];rfl
   rw[O,aL (show¬(aK=a9) by decide)]at k;exact⟨_,_,Y,Y,_,_,Y,Y,k⟩
  have O:¬decide (V.str (e6 x)=V.str (e6 .hunter))=a9:=O;rw[kh]at O;have O:(x != .hunter)=a9:=by show(!(x== .hunter))=a9;rw[nT O];rfl
  rw[O,aZ (show a9=a9 from Y)]at k;exact⟨_,_,Y,Y,_,_,Y,Y,k⟩
 have D1:∀(pN:EF),decide (V.str ⟨#[Tf.eo (r.kindAt c)]⟩=V.str (oC pN))=(r.kindAt c==pN):=λpN=>by rw[vw,vx]
 refine⟨p,_,_,_,_,Y,aq,T.dm.1,T.oB,Y,_,_,_,Y,Y,jC,g2,Y,_,Y,gq (λO=>?_) λO=>?_⟩
 .have O:decide (V.str ⟨#[Tf.eo (r.kindAt c)]⟩=V.str (oC .seat))=a9:=O;rw[D1]at O;have aA:=eq_of_beq O;have Xw:¬decide (V.str ⟨#[Tf.eo (r.kindAt c)]⟩=V.str (oC .exit))=a9:=by rw[D1,aA];decide
  refine⟨cl,_,_,_,Y,Y,bo.of f9,xA q (aY.c0.lt a7),Y,_,Y,gq (λa5=>?_) λa5=>?_⟩
  .have a5:decide (V.str (e6 (q.on c))=V.str (e6 .none))=a9:=a5;rw[kh]at a5;refine⟨p,_,_,_,_,Y,aq,T.dm.1,T.Hb,Y,p,_,_,_,_,Y,aq,T.dm.1,T.oB,Y,_,_,_,Y,Y,jC,g2,Y,_,Y,gq (λaG=>absurd aG Xw) λaG=>?_⟩;refine fin r.seat aY.s4 ?_;unfold Qm;rw[aA];dsimp only;rw[a5,E5]
  have a5:¬decide (V.str (e6 (q.on c))=V.str (e6 .none))=a9:=a5;rw[kh]at a5;refine⟨p,_,_,_,_,Y,aq,T.dm.1,T.oB,Y,_,_,_,Y,Y,jC,g2,Y,_,Y,gq (λaG=>absurd aG Xw) λaG=>?_⟩;refine fin 0 dQ ?_;unfold Qm;rw[aA];dsimp only;rw[nT a5,IH];cases(x !=a23)<;>rfl
 have O:¬decide (V.str ⟨#[Tf.eo (r.kindAt c)]⟩=V.str (oC .seat))=a9:=O;rw[D1]at O;refine⟨p,_,_,_,_,Y,aq,T.dm.1,T.oB,Y,_,_,_,Y,Y,jC,g2,Y,_,Y,gq (λaG=>?_) λaG=>?_⟩
 .have aG:decide (V.str ⟨#[Tf.eo (r.kindAt c)]⟩=V.str (oC .exit))=a9:=aG;rw[D1]at aG;refine⟨p,_,_,_,_,Y,aq,T.dm.1,T.Nq,Y,?_⟩;refine fin r.exits aY.iF ?_;unfold Qm;rw[eq_of_beq aG]
 have aG:¬decide (V.str ⟨#[Tf.eo (r.kindAt c)]⟩=V.str (oC .exit))=a9:=aG;rw[D1]at aG;refine fin 0 dQ ?_;unfold Qm;cases aA:r.kindAt c with|seat=>rw[aA]at O;exact absurd Y O|exit=>rw[aA]at aG;exact absurd Y aG|plain=>cases(x !=a23)<;>rfl|wall=>cases(x !=a23)<;>rfl
def Xx(T:Txt K a6 a):dH P w K a6 base cp 2 "is_held" ["rules","board","piece","cell"] (acK a):=by
 refine T.aaH.ok a9q ?_;rintro _ _ _ _ _ H _ Q _ _ ak ⟨p,r,cl,q,x,n,rfl,d2,aY,f9,aH,k⟩;refine⟨_,aC (d4 (d1 dB (J 3) (cL T.CP Y) (cu _)) (aX (bF qF)) d9) (aX (bF (p1 (cw (acN T) ak Y bu (ao (J 0) (ao (J 2) (ao (dZ hL (J 1) (J 3) (λ_ _=>rfl)) az)))) (p' (cw (acP T) ak Y bu (ao (J 0) (ao (J 1) (ao (J 2) (ao (J 3) az))))))))),Y,_,Y,gq (λO=>?_) λO=>?_⟩
 .cases n with
  |none=>exact k
  |some c=>
   exfalso;have z:=V.int.inj (e7 O);have z:((c:Nat):Int)= -1:=z
   lia
 cases n with
 |none=>exact absurd Y O
 |some c=>have a7:=aH c Y;refine⟨cl,_,_,_,Y,Y,bo.of f9,xA q (aY.c0.lt a7),p,r,x,q.on c,Y,d2,_,Y,?_⟩;have k:Q (.c3 (r.helps (x != .hunter) (q.on c)||r.against q (x != .hunter) c)) H:=k;cases bT:r.helps (x != .hunter) (q.on c)with|true=>rw[bT]at k;exact k|false=>rw[bT,E4]at k;exact⟨p,r,cl,q,x,c,Y,d2,aY,f9,a7,k⟩
def acQ(a:b4):bN:=λvs H Q _=>jD λp r cl q c t=>tH (vs=[.ref p,.ref cl,.int ((c:Nat):Int),.int ((t:Nat):Int)]) (fU a H p r) (hc r) (H cl=B (.lst (rb q))) (Tf.Cell r c) (t<=1) (q.side=1-t) (∀l,H l=aa->∀H',aw H H'->H' l=B (.lst (dD ((eI 192).filter λx=>(Tf.found r q c).contains x)))->Q (.ref l) H')
def HA(s:dj r){d:Nat}(a7:Tf.Cell r c):∀n,r.next d c=B n->Tf.Cell r n:=λn e=>(wZ s a7 e).1
def acR(T:Txt K a6 a):dH P w K a6 base cp 3 "is_surrounded" ["rules","board","cell"] (acL a):=by
 refine T.aaI.ok MZ ?_;rintro _ _ _ _ _ H _ _ _ _ ak ⟨p,r,cl,q,c,rfl,d2,aY,f9,a7,k⟩;refine⟨_,aX (bF (fj (a3R Y) Y T.ac5 boot_all (ao (te Y MZ.bj (JS (mf T.lG.1 Y)) (og (own:=[("direction",3)]) Y) (λ_ _ _ _ _=>h8 (i:=3) MZ.bj) (λ_ _ _ _ _=>qN) (λ_ _ _ _ _=>cw (Xx T) ak Y bu (ao (J 0) (ao (J 1) (ao (e' T.qi Y) (ao (cw (CY T) ak Y bu (ao (J 0) (ao (J 2) (ao (J 3) az)))) az)))))) az))),a.lG,Y,⟨_,T.lG.2 _⟩,λaf d3=>?_⟩;refine a48 (K:=K) (a:=a.lG) (xs:=[.ref a.vr,.ref a.vt,.ref a.vu,.ref a.vv]) (λj H'=>aw H H'/\H' af=B (.lst (((hH.take j).map λd=>Tf.heldBy r q a9 (r.next d c)).map V.c3))) ⟨aw.new d3,b3⟩ (λ_ H' _ _=>T.lG.2 H') (λj x H' bY aR=>?_) λH' aR=>?_
 .obtain⟨aE,gU⟩:=aR;obtain⟨acS,NN,gG,rfl,tP⟩:=NF T bY;refine⟨Y,p,r,c,gG,j,Y,d2.same aE,aY.c0,a7,acS,tP _,p,r,cl,q,.king,r.next j c,Y,d2.same aE,aY,aE _ _ f9,HA aY.c0 a7,_,gU,?_,λb o z=>?_,?_⟩
  .rw[cX,cX,ko];exact lR (Ef _ _) dQ
  .rw[aM (cV z d3)];exact aE _ _ z
  rw[b3,take_snoc NN,fO,fO];rfl
 obtain⟨aE,gU⟩:=aR;refine⟨af,_,Y,bo.of gU,?_⟩;have e:((hH.take 4).map λd=>Tf.heldBy r q a9 (r.next d c)).all id=hH.all λe=>Tf.heldBy r q a9 (r.next e c):=by rw[a0x];rfl
 have c9:=k H' aE;rw[<-e]at c9;exact c9
def acT(T:Txt K a6 a):dH P w K a6 base cp 4 "is_taken" ["rules","board","cell","direction"] (acM K a):=by
 refine T.aaJ.ok WT ?_;rintro _ _ _ _ _ H _ Q _ _ ak ⟨p,r,cl,q,c,gG,d,rfl,⟨gI,aq⟩,aY,f9,a7,hd,tP,k⟩;refine⟨_,aC (cz (i:=4) WT.bj (dZ hL (J 1) (J 2) (λ_ _=>rfl))) (aC (d4 (jq.pt (nX (d1 dB (J 4) (e' T.qi Y) (cu _)) (p_ (d1 dB (bg (J 0) Y) cg (cu _))))) (aX (bF (cw (acR T) ak Y bu (ao (J 0) (ao (J 1) (ao (J 2) az)))))) d9) (aX (bF (cw (Xx T) ak.mono Y bu (ao (J 0) (ao (J 1) (ao (J 4) (ao (cw (CY T) ak.mono Y bu (ao (J 0) (ao (J 2) (ao (J 3) az)))) az)))))))),?_⟩;have d2:fU a H p r:=⟨gI,aq⟩;unfold qa at k;refine⟨cl,_,_,_,Y,Y,bo.of f9,xA q (aY.c0.lt a7),Y,_,Y,gq (λO=>?_) λO=>?_⟩
 .have O:decide (V.str (e6 (q.on c))=V.str (e6 .king))=a9:=O;rw[kh]at O;refine⟨p,_,_,_,_,Y,aq,T.dm.1,T.Np,Y,Y,_,Y,gq (λa5=>?_) λa5=>?_⟩
  .have a5:decide (V.int (b2 r.four)=V.int 1)=a9:=a5;rw[C_]at a5;have k:∀H',aw H H'->Q (.c3 (hH.all λe=>Tf.heldBy r q a9 (r.next e c))) H':=λH' aE=>by have z:=k H' aE;rw[aZ ⟨eq_of_beq O,a5⟩]at z;exact z
   refine⟨p,r,cl,q,c,Y,d2,aY,f9,a7,λH' aE=>k H' aE⟩
  have a5:¬decide (V.int (b2 r.four)=V.int 1)=a9:=a5;rw[C_]at a5;have k:∀H',aw H H'->Q (.c3 (Tf.heldBy r q (q.on c != .hunter) (r.next d c))) H':=λH' aE=>by have z:=k H' aE;rw[aL (λz=>a5 z.2)]at z;exact z
  refine⟨p,r,c,gG,d,Y,d2,aY.c0,a7,hd,tP H,p,r,cl,q,q.on c,r.next d c,Y,d2,aY,f9,HA aY.c0 a7,k H (aw.refl H)⟩
 have O:¬decide (V.str (e6 (q.on c))=V.str (e6 .king))=a9:=O;rw[kh]at O;have k:∀H',aw H H'->Q (.c3 (Tf.heldBy r q (q.on c != .hunter) (r.next d c))) H':=λH' aE=>by have z:=k H' aE;rw[aL (λz=>O (by rw[z.1];rfl))]at z;exact z
 refine⟨p,r,c,gG,d,Y,d2,aY.c0,a7,hd,tP H,p,r,cl,q,q.on c,r.next d c,Y,d2,aY,f9,HA aY.c0 a7,k H (aw.refl H)⟩
def eR{c A gp:Prop}[Decidable c](h:c)(k:A):if c then A else gp:=by rw[aZ h];exact k
def ec{c A gp:Prop}[Decidable c](h:¬c)(k:gp):if c then A else gp:=by rw[aL h];exact k
def d7{c A gp:Prop}[Decidable c](k:gp)(h:¬c:=by decide):if c then A else gp:=ec h k
def ip{c A gp:Prop}[Decidable c](k:A)(h:c:=by decide):if c then A else gp:=eR h k
def acU{b:Bool}{U L:Prop}(h:L)(bx:b=a9->L->U):if b=a9 then U else L:=by
 cases b
 .exact gF h
 exact hM (bx Y h)
def acV(T:Txt K a6 a):dH P w K a6 base cp 5 "taken_cells" ["rules","board","cell","turn"] (acQ a):=by
 refine T.aaK.ok H3 ?_;rintro _ _ _ _ _ H _ _ _ _ ak ⟨p,r,cl,q,c,t,rfl,⟨gI,aq⟩,aY,f9,a7,b9,pA,k⟩;refine⟨_,aC (cz (i:=4) H3.bj (fC az)) (aC (d4 (jq.pt (nX (d1 dB (dZ hL (J 1) (J 2) (λ_ _=>rfl)) (e' T.qi Y) (cu _)) (p_ (d1 dB (bg (J 0) Y) cg (cu _))))) (aX (bF (J 4))) d9) (aC (n_ oQ Y (JS (mf T.lG.1 Y)) (h8 (i:=5) H3.bj) (aC (cz (i:=6) H3.bj (cw (CY T) ak.mono Y bu (ao (J 0) (ao (J 2) (ao (J 5) az))))) (aX (d4 (jq.pt (nX (d1 o6 (J 6) (cL T.CP Y) (cu _)) (nX (js (cw (NC T) ak.mono Y bu (ao (dZ hL (J 1) (J 6) (λ_ _=>rfl)) (ao (de o4 cg (J 3)) az)))) (p_ (js (cw (acT T) ak Y bu (ao (J 0) (ao (J 1) (ao (J 6) (ao (J 5) az)))))))))) (aX (ea (q1 oP uf w3 t8 (J 4) (ao (J 6) az)))) d9)))) (aX (bF (fj RO Y T.Xo boot_sorted (ao (J 4) az)))))),?_⟩;have d2:fU a H p r:=⟨gI,aq⟩;obtain⟨Xy,Xz⟩:=LJ (q:=q) aY.c0 a7;refine⟨es _,λl ar=>?_⟩;have s1:aw H (av H l (.lst [])):=aw.new ar;have XA:=aY.c0.lt a7;by_cases iE:q.on c=.king/\r.armed=aK
 .refine⟨cl,_,_,_,Y,Y,bo.of (s1 _ _ f9),xA q XA,Y,_,Y,eR (show decide (V.str (e6 (q.on c))=V.str (e6 .king))=a9 by rw[kh,iE.1];rfl) ?_⟩;refine⟨p,_,_,_,_,Y,s1 _ _ aq,T.dm.1,T.CU,Y,Y,_,Y,eR (show decide (V.int (b2 r.armed)=V.int 0)=a9 by rw[iE.2];decide) ?_⟩;refine(k l ar _ s1 ?_);rw[b3,show Tf.found r q c=[]from aZ iE];simp[dD]
 refine⟨cl,_,_,_,Y,Y,bo.of (s1 _ _ f9),xA q XA,Y,_,Y,acU ?_ λO di=>?_⟩
 rotate_left
 .have O:decide (V.str (e6 (q.on c))=V.str (e6 .king))=a9:=O;rw[kh]at O;refine⟨p,_,_,_,_,Y,s1 _ _ aq,T.dm.1,T.CU,Y,Y,_,Y,ec (show¬decide (V.int (b2 r.armed)=V.int 0)=a9 from ?_) di⟩;cases bf:r.armed with|true=>decide|false=>exact absurd ⟨eq_of_beq O,bf⟩ iE
 have kH:Tf.found r q c=hH.filterMap (kC r q c):=aL iE;rw[kH]at k Xy Xz;refine⟨a.lG,Y,⟨_,T.lG.2 _⟩,R1 (K:=K) (a:=a.lG) (xs:=[.ref a.vr,.ref a.vt,.ref a.vu,.ref a.vv]) (λi aN H'=>∃fE i4,aN=[B (.ref p),B (.ref cl),B (.int (c:Int)),B (.int (t:Int)),B (.ref l),fE,i4]/\aw H H'/\H' l=B (.lst (dD ((hH.take i).filterMap (kC r q c))))) ⟨aa,aa,Y,s1,b3⟩ (λ_ _ H' _ _=>T.lG.2 H') (λi x aN H' hi bI=>?_) λaN H' bI=>?_⟩
 .obtain⟨fE,i4,rfl,aE,j8⟩:=bI;obtain⟨Hv,pf,gG,rfl,tP⟩:=NF T hi;have acW:∀j,((hH.take j).filterMap (kC r q c)).length<=4:=λj=>dE (PI ..) (by rw[ko];exact Ef _ _);have XB:(hH.take (i+1)).filterMap (kC r q c)=(hH.take i).filterMap (kC r q c)++(kC r q c i).toList:=by rw[take_snoc pf,aiI,vW,aiJ];cases kC r q c i<;>rfl
  refine⟨p,r,c,gG,i,Y,d2.same aE,aY.c0,a7,Hv,tP _,?_⟩;have none_:kC r q c i=aa->∀au,aw H' au->∃fE i4,([B (.ref p),B (.ref cl),B (.int (c:Int)),B (.int (t:Int)),B (.ref l),B (.ref gG),B (.int (r9 (r.next i c)))]:L2.St)=[B (.ref p),B (.ref cl),B (.int (c:Int)),B (.int (t:Int)),B (.ref l),fE,i4]/\aw H au/\au l=B (.lst (dD ((hH.take (i+1)).filterMap (kC r q c)))):=λz au eQ=>⟨_,_,Y,aE.trans eQ,by rw[XB,z];simp;exact eQ _ _ j8⟩;refine⟨Y,_,Y,?_⟩;cases e:r.next i c with
  |none=>rw[e]at none_;refine d7 (none_ ?_ H' (aw.refl _));unfold kC;rw[e]
  |some n=>
   rw[e]at none_;have aH:=HA aY.c0 a7 n e;have z8:(!decide (V.int (r9 (B n))=V.int (-1)))=a9:=by
    have:¬V.int (r9 (B n))=V.int (-1):=λz=>by have z:=V.int.inj z;have z:((n:Nat):Int)= -1:=z;omega
    rw[gW this];rfl
   refine eR z8 ?_;refine⟨cl,_,_,_,Y,Y,bo.of (aE _ _ f9),xA q (aY.c0.lt aH),_,_,Y,Y,q.on n,q.side,?_,_,Y,?_⟩
   .rw[pA];show[V.str (e6 (q.on n)),V.int (1-(t:Int))]=_;rw[show(1:Int)-(t:Int)=((1-t:Nat):Int) by omega]
   rw[ND];cases aU:i1 q n with
   |false=>refine gF (none_ ?_ H' (aw.refl _));unfold kC;rw[e];dsimp only;rw[aL (λz=>by rw[aU]at z;exact absurd z.1 dQ)]
   |true=>
    refine hM ?_;refine⟨p,r,cl,q,n,gG,i,Y,d2.same aE,aY,aE _ _ f9,aH,Hv,tP,λau eQ=>⟨_,Y,?_⟩⟩;cases XC:qa r q i n with
    |false=>refine none_ ?_ au eQ;unfold kC;rw[e];dsimp only;rw[aL (λz=>by rw[XC]at z;exact absurd z.2 dQ)]
    |true=>
     have acX:kC r q c i=B n:=by unfold kC;rw[e];dsimp only;rw[aZ ⟨aU,XC⟩]
     refine⟨.inl ⟨Y,_,bo.of (eQ _ _ j8)⟩,l,_,_,Y,Y,eQ _ _ j8,(by rw[jI];exact lR (acW i) dQ),_,_,Y,λb o z=>?_,?_⟩
     .rw[aM (cV z ar)];exact eQ _ _ (aE _ _ z)
     rw[b3,XB,acX,Ht];rfl
 obtain⟨fE,i4,rfl,aE,j8⟩:=bI;refine⟨l,(hH.filterMap (kC r q c)).map λ(n:Nat)=>(n:Int),Y,bo.of (by rw[<-Hs];exact j8),?_,λ_ fS NH NI ra=>?_⟩
 .rw[cX];exact lR (PI ..) dQ
 have b5:=Tf.sorted_ints NH NI Xy (λx ah=>by have:=aY.c0.lt (Xz x ah).1;omega);refine k fS (aw.free aE ra) _ (aw.upd aE ra) ?_;rw[b3,b5,Hs]
def acY(l:sl Nat)(c:Nat):(∀i:Nat,l[i]? =B c->(∀j:Nat,j<i->l[j]?≠B c)->En (dC l) ⟨#[c]⟩=(i:Int))/\((∀j:Nat,l[j]?≠B c)->En (dC l) ⟨#[c]⟩= -1):=by
 have key:∀i,StrLaws.At (dC l) ⟨#[c]⟩ (dC l).length i↔l[i]? =B c:=λi=>by
  have:=StrLaws.subAt_one (dC l) c i;have e:(dC l).cps.toList=l:=by show l.toArray.toList=l;simp
  rw[e]at this;exact this
 refine⟨λi O a5=>?_,λh=>?_⟩
 .unfold En;obtain⟨e,n⟩|⟨k,r,e,dr,dy⟩:=ajG (dC l) ⟨#[c]⟩ 1 dQ
  .exact absurd ((key i).mpr O) (n i)
  rw[e];show(k:Int)=i;have aA:=(key k).mp dr;have:k=i:=by
   obtain z|z|z:=Nat.lt_trichotomy k i
   .exact absurd aA (a5 k z)
   .exact z
   exact absurd ((key i).mpr O) (dy i z)
  rw[this]
 unfold En;obtain⟨e,n⟩|⟨k,r,e,dr,dy⟩:=ajG (dC l) ⟨#[c]⟩ 1 dQ
 .rw[e]
 exact absurd ((key k).mp dr) (h k)
def acZ(a7:X.calm=a9):q0 X (.type "list") (λxs H Q=>∃l:sl Nat,xs=[.str (dC l)]/\l.length<=cN/\∀p,H p=aa->Q (.ref p) (av H p (.lst (l.map λ(c:Nat)=>V.str ⟨#[c]⟩)))):=by
 intro _ s G H xs us Q D r h;obtain⟨l,rfl,ar,k⟩:=h;obtain⟨u,rfl,t,rfl⟩:=vals1 r;have hsz:(dC l).cps.size=l.length:=A0 l;refine call_list_str (D.ok.hd a7) (dC l) t (λ_ _ bK e8 aA lB pg=>?_) (by rw[hsz];exact ar);refine⟨.ref s⁻¹,av H s⁻¹ (.lst (l.map λ(c:Nat)=>V.str ⟨#[c]⟩)),D.laid aA (cP _) ⟨by rw[cX];exact ar,bK.toList,e8,?_,by simpa using lB⟩,Y,k _ (D.bQ.fresh (cP _))⟩;obtain⟨O,a5⟩:=pg;rw[hsz]at O;have gen:∀(xs:sl V)(us:sl ae),xs.length=us.length->(∀(j:Nat) x u,xs[j]? =B x->us[j]? =B u->RelV x u)->cC xs us:=by
  intro xs;induction xs with
  |nil=>intro us ar _;cases us with|nil=>exact .nil|cons u us=>simp at ar
  |cons x xs ih=>intro us ar ak;cases us with|nil=>simp at ar|cons u us=>exact .cons (ak 0 x u rfl rfl) (ih us (by simpa using ar) λj x u a b=>ak (j+1) x u (by simpa using a) (by simpa using b))
 refine gen _ _ (by simp[O]) λj x u ah bx=>?_;rw[fW]at ah;cases e:l[j]? with
 |none=>rw[e]at ah;cases ah
 |some c=>
  rw[e]at ah;cases ah;obtain⟨_,nz,aT,rfl⟩:=a5 j u (by simpa using bx);have e1:(dC l).cps[j]? =B c:=by show l.toArray[j]? =B c;simpa using e
  rw[e1]at aT;cases aT;exact⟨nz,Y⟩
def ad0(a:b4):bN:=λvs H Q _=>qf λp r c=>mQ (vs=[.ref p,.int ((c:Nat):Int)]) (fU a H p r) (hc r) (Tf.Cell r c) (Q (.c3 (r.onGoal c)) H)
def ad1(a:b4):bN:=λvs H Q _=>kg λp r q cZ=>qg (vs=[.ref p,.ref cZ]) (fU a H p r) (jH a H cZ q) (hc r) (eg r q) (∀H',aw H H'->Q (.int (r.over q)) H')
def ad2(T:Txt K a6 a):dH P w K a6 base cp 2 "is_on_goal" ["rules","cell"] (ad0 a):=by
 refine T.aaL.ok a9r ?_;rintro _ _ _ _ _ _ _ _ _ _ ak ⟨p,r,c,rfl,⟨gI,aq⟩,aY,a7,k⟩;refine⟨_,aC (d4 (d1 dB (bg (J 0) Y) (cL T.X8 Y) (cu _)) (aX (bF (cw (aci T) ak Y bu (ao (J 0) (ao (J 1) az))))) d9) (aX (bF (gM dB (dZ nr (bg (J 0) Y) (J 1) (λ_ _=>rfl)) (e' T.CR Y) (cu _)))),?_⟩;obtain⟨jC,g2⟩:=CZ aY.c0 a7;have ala:=aY.g2;unfold amQ at k;refine⟨p,_,_,_,_,Y,aq,T.dm.1,T.CV,Y,Y,_,Y,gq (λO=>?_) λO=>?_⟩
 .have z:r.goal=0:=by
   have z:=V.int.inj (e7 O)
   lia
  rw[aL (by lia)]at k;exact⟨p,r,c,Y,⟨gI,aq⟩,aY.c0,k⟩
 have z:¬r.goal=0:=λz=>O (eL (by rw[z];rfl));rw[aZ (by lia),<-vx,<-vw]at k;exact⟨p,_,_,_,_,Y,aq,T.dm.1,T.oB,Y,_,_,_,Y,Y,jC,g2,Y,k⟩
def XD(T:Txt K a6 a):dH P w K a6 base cp 6 "position_over" ["rules","position"] (ad1 a):=by
 refine T.aaM.ok WU ?_;rintro _ _ _ _ _ H _ _ _ _ ak ⟨p,r,q,cZ,rfl,d2,⟨A3,aq⟩,aY,hw,k⟩;refine⟨_,aC (cz (i:=2) WU.bj (Sh PySem.F.slot_str_find PySem.F.type_str_find a4D (bg (J 1) Y) (e' T.qi Y))) (aC (d4 (d1 dB (J 2) (cL T.CP Y) (cu _)) (aX (bF (cL T.X9 Y))) d9) (aC (d4 (js (cw (ad2 T) ak.mono Y bu (ao (J 0) (ao (J 2) az)))) (aX (bF (cL T.Xa Y))) d9) (aC (d4 (wo (js (cw (acC T) ak Y bu (ao (J 0) (ao (J 1) az))))) (aX (bF (cL T.Ng Y))) d9) (aX (bF (cL T.si Y)))))),?_⟩;obtain⟨dU,f2⟩:=a5E aY.c0 hw;obtain⟨e3,cS⟩:=acY (Tf.bd q) 75;have ad3:(⟨#[75]⟩:a8)="K" :=oD .king;rw[ad3]at e3 cS;refine⟨cZ,_,_,_,_,Y,aq,T.jW.1,T.r6,Y,⟨_,Y⟩,_,_,Y,Y,?_⟩;by_cases aA:q.king=255
 .have e:=cS (dU aA);rw[e];refine⟨Y,_,Y,ip ?_⟩;have c9:=k H (aw.refl H);have ky:r.over q=1:=by unfold Jp Jn Jr;simp[aA]
  rw[ky]at c9;exact c9
 obtain⟨_,bJ,eh⟩:=f2 aA;have e:=e3 q.king bJ eh;rw[e];have nW:=hw.eo.resolve_left aA;refine⟨Y,_,Y,ec ?_ ?_⟩
 .intro z;have z:=V.int.inj (e7 z);have z:(q.king:Int)= -1:=z
  lia
 refine⟨p,r,q.king,Y,d2,aY,nW,_,Y,?_⟩;cases aI:r.onGoal q.king with
 |true=>
  refine hM ?_;have c9:=k H (aw.refl H);have ky:r.over q=2:=by unfold Jp Jn Jr;simp[aA,aI]
  rw[ky]at c9;exact c9
 |false=>
  refine gF ?_;have lJ:r.ended q=0:=by unfold Jn Jr;simp[aA,aI]
  refine⟨p,r,q,cZ,Y,d2,⟨A3,aq⟩,aY.c0,hw,λH' aE=>⟨_,Y,?_⟩⟩;have c9:=k H' aE;have ky:r.over q=if A4 r q=a9 then 0 else 3:=by unfold Jp;rw[lJ];simp only[ne_eq,not_true_eq_false,jN];cases bf:A4 r q with|true=>obtain⟨c,a7,bV⟩:=Ax.mp bf;rw[aL λz=>by have:=(SV hw aY.c0 lJ).mp z c (fY.mp a7);rw[this]at bV;exact absurd bV dQ];rfl|false=>rw[aZ ((SV hw aY.c0 lJ).mpr λc a7=>by have:=a0y.mp bf c (fY.mpr a7);simpa using this)];rfl
  rw[ky]at c9;cases bf:A4 r q with|true=>rw[bf]at c9;exact gF c9|false=>rw[bf]at c9;exact hM c9
def XE(C:I)(f g:a8):bN:=λvs H Q _=>kg λx a3 u v=>il (vs=[.ref x,u,v]) (H x=B (.ins C a3 [])) (Q .bR (av H x (.ins C a3 [(f,u),(g,v)])))
def ad4(a:b4):bN:=λvs H Q _=>jD λp r q cZ x y=>r5 (vs=[.ref p,.ref cZ,.int ((x:Nat):Int),.int ((y:Nat):Int)]) (fU a H p r) (jH a H cZ q) (hc r) (eg r q) (px r q (x,y)) (∀o a3 eb l H',H eb=aa->H l=aa->aw H H'->H' o=B (.ins a.Outcome a3 [("position",.ref eb),("taken",.ref l)])->jH a H' eb (r.comes q (x,y))->H' l=B (.lst (dD (r.takes q (x,y))))->Q (.ref o) H')
variable{n:Nat}
def XF(T:Txt K a6 a):ox P w K a6 base cp 1 a.Position ["self","board","turn"] (XE a.Position "board" "turn"):=by refine T.abn.ok a9D ?_;rintro _ _ _ _ _ _ _ _ _ _ _ ⟨x,a3,u,v,rfl,ah,k⟩;refine⟨_,aC (e2 (J 0) (J 1) Y) (aX (e2 (J 0) (J 2) Y)),x,_,_,_,Y,ah,T.jW.1,T.r6,dQ,x,_,_,_,Y,b3,T.jW.1,T.tL,qE,?_⟩;rw[j5];exact k
def ad5(T:Txt K a6 a):ox P w K a6 base cp 1 a.Outcome ["self","position","taken"] (XE a.Outcome "position" "taken"):=by refine T.abo.ok a9E ?_;rintro _ _ _ _ _ _ _ _ _ _ _ ⟨x,a3,u,v,rfl,ah,k⟩;refine⟨_,aC (e2 (J 0) (J 1) Y) (aX (e2 (J 0) (J 2) Y)),x,_,_,_,Y,ah,T.xu.1,T.Nu,dQ,x,_,_,_,Y,b3,T.xu.1,T.Nv,qE,?_⟩;rw[j5];exact k
def HB(h:k<n):qL n (k:Int)=B k:=by
 unfold qL;split
 .rw[aZ (by lia)];simp
 .lia
def pO(l:sl Nat):sl V:=l.map λ(c:Nat)=>V.str ⟨#[c]⟩
def HC(l:sl Nat)(i c:Nat):(pO l).set i (.str ⟨#[c]⟩)=pO (l.set i c):=by unfold pO;rw[List.map_set]
def XG(l:sl Nat):Eo "" (l.map λ(c:Nat)=>(⟨#[c]⟩:a8))=dC l:=by
 refine TL.Ln ?_;rw[TL.join_eq,TL.FE];have e:∀l:sl Nat,TL.z3 (TL.dY "") ((l.map λ(c:Nat)=>(⟨#[c]⟩:a8)).map TL.dY)=l:=by
  intro l;induction l with
  |nil=>rfl
  |cons x l ih=>cases l with|nil=>rfl|cons y l=>show[x]++([]++_)=_;rw[Ec];exact g5 (x::·) ih
 rw[e];show l=l.toArray.toList;simp
def XH(l:sl Nat):((l.map λ(c:Nat)=>(⟨#[c]⟩:a8)).map (·.length)).sum=l.length:=by induction l with|nil=>rfl|cons x l ih=>simp only[ir,IV,ih,fX];show 1+_=_;lia
def XI(T:Txt K a6 a):dH P w K a6 base cp 6 "outcome" ["rules","position","x","y"] (ad4 a):=by
 refine T.outcome.ok H4 ?_;rintro _ _ _ _ _ H _ _ _ _ ak ⟨p,r,q,cZ,x,y,rfl,d2,⟨A3,aq⟩,aY,hw,di,k⟩;refine⟨_,aC (cz (i:=4) H4.bj (Fg (acZ Y) Y T.ac6 boot_list (ao (bg (J 1) Y) az))) (aC (F0 (dZ hL (J 4) (J 2) (λ_ _=>rfl)) (E' (J 4) (J 3) Fm)) (aC (F0 (e' T.zW Y) (E' (J 4) (J 2) Fm)) (aC (cz (i:=5) H4.bj (cw (acV T) ak Y bu (ao (J 0) (ao (J 4) (ao (J 3) (ao (bg (J 1) Y) az)))))) (aC (n_ oQ Y (nZ (J 5)) (h8 (i:=6) H4.bj) (aX (F0 (e' T.zW Y) (E' (J 4) (J 6) Fm)))) (aX (bF (pK (ad5 T) ak.mono Y T.xu.2 bu (ao (pK (XF T) ak.mono Y T.jW.2 bu (ao (BP ek (J 4)) (ao (de o4 cg (bg (J 1) Y)) az))) (ao (J 5) az))))))))),?_⟩;have ah:x<169:=aY.c0.lt di.eO;have bl:y<169:=aY.c0.lt di.gm;obtain⟨_,-,-⟩:=FX hw aY.c0 di;have ad6:=a5F hw aY.c0 di;have ad7:=a5G hw aY.c0 di;have XJ:=LI hw aY.c0 di;obtain⟨-,HD,-⟩:=FY hw aY.c0 di;have pA:=hw.gT;refine⟨cZ,_,_,_,_,Y,aq,T.jW.1,T.r6,Y,Tf.bd q,Y,(by rw[kE];decide),λcl f9=>?_⟩;have len:(pO (Tf.bd q)).length=169:=acH q;refine⟨cl,_,_,_,Y,Y,bo.of b3,xA q ah,cl,_,_,y,Y,Y,b3,?_,?_⟩
 .rw[show(a0J (λ(c:Nat)=>V.str ⟨#[c]⟩) (Tf.bd q)).length=169 from len];exact HB bl
 refine⟨cl,_,_,x,Y,Y,b3,?_,?_⟩
 .rw[qy,show(a0J (λ(c:Nat)=>V.str ⟨#[c]⟩) (Tf.bd q)).length=169 from len];exact HB ah
 have ad8:(List.set (a0J (λ(c:Nat)=>V.str ⟨#[c]⟩) (Tf.bd q)) y (V.str (e6 (q.on x)))).set x (V.str ".")=rb (q.shifted (x,y)):=by show _=pO (Tf.bd (q.shifted (x,y)));rw[ad6,<-HC,<-HC,oD,show(⟨#[46]⟩:a8)="." from oD .none];rfl
 rw[ad8,j5,j5];have s1:aw H (av H cl (.lst (rb (q.shifted (x,y))))):=aw.new f9;refine⟨cZ,_,_,_,_,Y,s1 _ _ aq,T.jW.1,T.tL,Y,p,r,cl,q.shifted (x,y),y,q.side,Y,d2.same s1,aY,b3,di.gm,pA,FW hw _,λl ar _ eQ hp=>?_⟩;rw[<-XJ]at hp;have HE:l≠cl:=λz=>by rw[z,b3]at ar;cases ar
 have nW:∀c∈r.takes q (x,y),c<169:=λc a7=>by rw[XJ]at a7;exact aY.c0.lt ((LJ aY.c0 di.gm).2 c (by simpa using(jk.mp a7).2)).1
 refine⟨l,Y,⟨_,bo.of hp⟩,yO (xs:=dD (r.takes q (x,y))) (λi aN H'=>∃v,aN=[B (.ref p),B (.ref cZ),B (.int (x:Int)),B (.int (y:Int)),B (.ref cl),B (.ref l),v]/\aw H H'/\H' l=B (.lst (dD (r.takes q (x,y))))/\H' cl=B (.lst (pO (uY ((r.takes q (x,y)).take i) (Tf.bd (q.shifted (x,y))))))) ⟨aa,Y,s1.trans eQ,hp,eQ _ _ b3⟩ (λi aN H' _ bI=>?_) (λi v aN H' hi bI=>?_) λaN H' bI=>?_⟩
 .obtain⟨v,rfl,aE,O,a5⟩:=bI;exact bo.of O
 .obtain⟨i4,rfl,aE,O,a5⟩:=bI;unfold dD at hi;rw[fW]at hi;cases e:(r.takes q (x,y))[i]? with
  |none=>rw[e]at hi;cases hi
  |some c=>
   rw[e]at hi;cases hi;have a7:=nW c (n0 e);refine⟨cl,_,_,c,Y,Y,a5,?_,_,Y,?_,?_,?_⟩
   .unfold pO;rw[cX,LR,kE];exact HB a7
   .exact λb o z=>by rw[aM (cV z f9)];exact aE _ _ z
   .rw[aM HE];exact O
   rw[b3,take_snoc e,show(V.str ".")=V.str ⟨#[46]⟩from g5 V.str (oD .none).symm,HC];unfold uY;rw[a0E];rfl
 obtain⟨i4,rfl,aE,O,a5⟩:=bI;rw[jI,jl,<-ad7]at a5;refine⟨⟨_,Y⟩,"",cl,(Tf.bd (r.comes q (x,y))).map λ(c:Nat)=>(⟨#[c]⟩:a8),Y,Y,.inl (bo.of (a5.trans ?_)),?_,?_⟩
 .unfold pO;rw[iL];rfl
 .rw[XH,cX,kE];show 169+169*0<=_;decide
 rw[XG];refine⟨cZ,_,_,_,_,Y,aE _ _ aq,T.jW.1,T.tL,Y,_,_,Y,Y,λeb hb nF nk bV=>⟨eb,hb,_,_,Y,b3,Y,?_⟩⟩;rw[j5];refine(λo xB aU r0 ad9=>⟨o,xB,_,_,Y,b3,Y,?_⟩);rw[j5];have ada:(av H' hb (.own eb)) eb=aa:=by rw[aM (ej bV)];exact nF
 have rd:aw H' (av (av H' hb (.own eb)) eb (.ins a.Position hb [("board",.str (dC (Tf.bd (r.comes q (x,y))))),("turn",.int (1-(q.side:Int)))])):=aw.upd (aw.upd (aw.refl _) nk) ada;have A6:=aw.upd (o:=.ins a.Outcome xB [("position",.ref eb),("taken",.ref l)]) (aw.upd (o:=.own o) (aw.refl _) r0) (show(av _ xB (.own o)) o=aa by rw[aM (ej ad9)];exact aU);refine k o xB eb l _ (aE.free nF) (s1.free ar) ((aE.trans rd).trans A6) b3 ⟨hb,?_⟩ (A6 _ _ (rd _ _ O));have aT:(1:Int)-(q.side:Int)=(((r.comes q (x,y)).side:Nat):Int):=by rw[HD];lia
 have z:=A6 _ _ (b3 (H:=av H' hb (.own eb)) (a:=eb) (o:=.ins a.Position hb [("board",.str (dC (Tf.bd (r.comes q (x,y))))),("turn",.int (1-(q.side:Int)))]));refine Eq.trans z ?_;unfold Hr;rw[aT]
def cA(b:aS):sl V:=b.map λ(x:UInt8)=>V.int ((x.toNat:Nat):Int)
def cm(w:aS):a8:=dC (w.map yB)
def iI(b:aS):(cA b).length=b.length:=by unfold cA;rw[cX]
def fz(w:aS):(cm w).length=w.length:=by unfold cm;rw[A0,cX]
def XK(w:aS):(cm w).cps.size=w.length:=fz w
def XM{w:aS}(h:(cm w).cps[i]? =B c):∃x,w[i]? =B x/\c=x.toNat:=by have h:(w.map yB).toArray[i]? =B c:=h;simp only[a0H,fW]at h;cases e:w[i]? with|none=>rw[e]at h;cases h|some x=>rw[e]at h;cases h;exact⟨x,Y,Y⟩
variable{b:aS}
def HF{v:V}(h:(cA b)[i]? =B v):∃x,b[i]? =B x/\v=.int ((x.toNat:Nat):Int):=by unfold cA at h;rw[fW]at h;cases e:b[i]? with|none=>rw[e]at h;cases h|some x=>rw[e]at h;cases h;exact⟨x,Y,Y⟩
def A7(b:aS)(n m:Nat):m1 (cA b) (B (n:Int)) (B ((n:Int)+(m:Int)))=cA ((b.drop n).take m):=by
 unfold m1;rw[show(n:Int)+(m:Int)=((n+m:Nat):Int) by lia,HT.uM,HT.uM,iI];unfold cA;rw[aiR,IT];by_cases h:n<=b.length
 .rw[y7 h];by_cases a5:n+m<=b.length
  .rw[y7 a5,a0S]
  rw[Nat.min_eq_right (by lia),lQ (by simp),lQ (by simp;lia)]
 rw[E7 (by simp;lia),E7 (by simp;lia)];simp
def adb:bN:=λvs H Q _=>∃w,il (vs=[.str (cm w)]) (w.length<=100000) (∀l H',H l=aa->aw H H'->H' l=B (.lst (cA w))->Q (.ref l) H')
def XN:bN:=λvs H Q _=>kJ λp b n wp w=>jE (vs=[.ref p,.int ((n:Nat):Int),.ref wp]) (H p=B (.lst (cA b))) (H wp=B (.lst (cA w))) (∀H',aw H H'->Q (.int ((cj (b.drop n) w:Nat):Int)) H')
def vA(l m:aS):cA (l++m)=cA l++cA m:=by unfold cA;rw[fO]
def A8(h:n<=100000):n<cN:=lR h dQ
def sk(T:Txt K a6 a):dH P w K a6 base cp 1 "bytes_of" ["signs"] adb:=by
 refine T.Xk.ok zP ?_;rintro _ _ _ _ _ H _ _ _ _ _ ⟨wd,rfl,rY,k⟩;refine⟨_,aX (bF (te Y zP.bj (Sb (J 0)) (og (own:=[("sign",1)]) Y) (λ_ _ _ _ _=>h8 (i:=1) zP.bj) (λ_ _ _ _ _=>qN) (λ_ _ _ _ _=>fj sY Y T.tO w0 (ao (J 1) az)))),cm wd,Y,λaf d3=>UX (x:=cm wd) (λj H'=>aw H H'/\H' af=B (.lst (cA (wd.take j)))) ⟨aw.new d3,b3⟩ (λj c H' bY aR=>?_) λH' aR=>?_⟩
 .obtain⟨aE,gU⟩:=aR;obtain⟨y,bl,rfl⟩:=XM bY;refine⟨Y,_,Y,Y,_,gU,?_,λb o z=>?_,?_⟩
  .rw[iI,ko];exact A8 (by lia)
  .rw[aM (cV z d3)];exact aE _ _ z
  rw[b3,take_snoc bl,vA];rfl
 obtain⟨aE,gU⟩:=aR;rw[XK,jl]at gU;exact k af H' d3 aE gU
def D2(T:Txt K a6 a):dH P w K a6 base cp 1 "agreed" ["source","place","row"] XN:=by
 refine T.Xl.ok sg ?_;rintro _ _ _ _ _ H _ _ _ _ _ ⟨p,b,n,wp,wd,rfl,aq,qk,k⟩;refine⟨_,aC (cz (i:=3) sg.bj cg) (aC (n_ oQ Y (a4z Y T.Xp (ao (t5 uN (J 0) (nq (J 1)) (nq (de o3 (J 1) (fj jc Y T.i3 iu (ao (J 2) az))))) (ao (J 2) az))) (QW Y (yK (h8 (i:=4) sg.bj) (yK (h8 (i:=5) sg.bj) JQ))) (aC (d4 (d1 o6 (J 4) (J 5) (cu _)) (aX (bF (J 3))) d9) (aX (wq (i:=3) sg.bj Y (v' Y) cg F7)))) (aX (bF (J 3)))),_,Y,wp,_,Y,.inl (bo.of qk),?_⟩;rw[iI];refine⟨_,_,Y,Y,_,Y,p,_,Y,bo.of aq,λl ar=>⟨l,wp,cA ((b.drop n).take wd.length),cA wd,Y,bo.of ?_,bo.of ?_,a8t (xs:=cA ((b.drop n).take wd.length)) (ys:=cA wd) (λi aN H'=>∃gc fE,aN=[B (.ref p),B (.int (n:Int)),B (.ref wp),B (.int ((i:Nat):Int)),gc,fE]/\aw H H'/\H' l=B (.lst (cA ((b.drop n).take wd.length)))/\(b.drop n).take i=wd.take i/\i<=(b.drop n).length/\i<=wd.length) ⟨aa,aa,Y,aw.new ar,?_,Y,es _,es _⟩ (λi aN H' bI=>?_) (λi x c aN H' hi a7 bI N dF=>?_) λi aN H' _ _ vB bI=>?_⟩⟩
 .rw[b3,A7]
 .rw[aM (cV qk ar)];exact qk
 .rw[b3,A7]
 .obtain⟨gc,fE,rfl,aE,O,_⟩:=bI;exact⟨bo.of O,bo.of (aE _ _ qk)⟩
 .obtain⟨gc,fE,rfl,aE,O,b9,gu,hp⟩:=bI;obtain⟨eT,k9,rfl⟩:=HF hi;obtain⟨y,bl,rfl⟩:=HF a7;have a0:(b.drop n)[i]? =B eT:=by
   rw[aiO]at k9;split at k9
   .exact k9
   cases k9
  refine⟨N,_,Y,dt.of b3,Y,_,_,Y,_,_,Y,Y,Y,_,Y,?_⟩;have eQ:aw H (av H' N (.tup [.int (eT.toNat:Int),.int (y.toNat:Int)])):=aw.upd aE dF;by_cases e:eT=y
  .subst e;refine ec (by simp) ?_;refine⟨_,_,Y,Y,B (.int (eT.toNat:Int)),B (.int (eT.toNat:Int)),?_,eQ,?_,Tz b9 a0 bl,?_,?_⟩
   .rfl
   .rw[aM (cV O dF)];exact O
   .exact(ei.mp a0).1
   exact(ei.mp bl).1
  refine eR ?_ ?_
  .have:¬V.int (eT.toNat:Int)=V.int (y.toNat:Int):=λz=>e (by have z:=V.int.inj z;exact a26.mp (by lia));show(!decide (V.int (eT.toNat:Int)=V.int (y.toNat:Int)))=a9;rw[gW this];rfl
  have c9:=k _ eQ;rw[G5 gu hp b9 (λu v bx bk=>by rw[a0]at bx;rw[bl]at bk;cases bx;cases bk;exact e)]at c9;exact c9
 obtain⟨gc,fE,rfl,aE,O,b9,gu,hp⟩:=bI;have c9:=k _ aE;rw[G5 gu hp b9 (λu v bx bk=>by
  rw[iI,ko]at vB;rw[iI]at vB;have:=(ei.mp bx).1;have:=(ei.mp bk).1
  lia)]at c9
 exact c9
def xC(i:Int):Bool:=decide (48<=i)&&decide (i<=57)
def ql(i:Int):Bool:=(decide (65<=i)&&decide (i<=90))||(decide (97<=i)&&decide (i<=122))
def adf(x:UInt8):xC ((x.toNat:Nat):Int)=Jt x:=by unfold xC Jt;congr 1<;>exact EP.mpr (by omega)
def adg(x:UInt8):ql ((x.toNat:Nat):Int)=EK x:=by unfold ql EK;congr 1<;>congr 1<;>exact EP.mpr (by omega)
inductive XO (vs:sl V) (H:ag) (Q:c2) (E:cW):Prop
 |mk i:vs=[.int i]->Q (.c3 (xC i)) H->XO vs H Q E
inductive XP (vs:sl V) (H:ag) (Q:c2) (E:cW):Prop
 |mk i:vs=[.int i]->Q (.c3 (ql i)) H->XP vs H Q E
def adh:bN:=λvs H Q _=>qf λ(d lo hi:Nat)=>il (vs=[.int (d:Int),.int (lo:Int),.int (hi:Int)]) (hi<1000000) (Q (.c3 (tr lo hi d)) H)
def XQ(T:Txt K a6 a):dH P w K a6 base cp 1 "is_digit" ["byte"] XO:=by
 refine T.aaN.ok a9s ?_;rintro _ _ _ _ _ _ _ _ _ _ _ ⟨i,rfl,k⟩;refine⟨_,aX (bF (K2 rR rR (fj sY Y T.tO w0 (ao ek az)) (J 0) (fj sY Y T.tO w0 (ao ek az)))),?_⟩;unfold xC at k;refine⟨_,Y,Y,_,_,Y,Y,_,Y,?_⟩;have e0:(((n2 "0").cps.getD 0 0:Nat):Int)=48:=by decide+kernel
 rw[e0];by_cases h:(48:Int)<=i
 .refine eR (eL h) ⟨_,Y,Y,_,_,Y,Y,?_⟩;rw[eL h,E5]at k;have rf:(((n2 "9").cps.getD 0 0:Nat):Int)=57:=by decide+kernel
  rw[rf];exact k
 refine ec (by simpa using h) ?_;rw[gW h,IH]at k;exact k
def XR(T:Txt K a6 a):dH P w K a6 base cp 1 "is_letter" ["byte"] XP:=by
 refine T.aaO.ok a9t ?_;rintro _ _ A _ _ H _ Q _ _ _ ⟨i,rfl,k⟩;refine⟨_,aX (bF (p1 (K2 rR rR (fj sY Y T.tO w0 (ao ek az)) (J 0) (fj sY Y T.tO w0 (ao ek az))) (p' (K2 rR rR (fj sY Y T.tO w0 (ao ek az)) (J 0) (fj sY Y T.tO w0 (ao ek az)))))),?_⟩;have aO:(((n2 "A").cps.getD 0 0:Nat):Int)=65:=by decide+kernel
 have aT:(((n2 "Z").cps.getD 0 0:Nat):Int)=90:=by decide+kernel
 have e1:(((n2 "a").cps.getD 0 0:Nat):Int)=97:=by decide+kernel
 have hN:(((n2 "z").cps.getD 0 0:Nat):Int)=122:=by decide+kernel
 have two:(decide (97<=i)&&decide (i<=122))=ql i->K1 (lZ λi j=>.c3 (decide (i<=j))) (lZ λi j=>.c3 (decide (i<=j))) (Bp (λxs H Q=>∃x,xs=[.str x]/\x.length=1/\Q (.int (x.cps.getD 0 0:Nat)) H) (ed (iP (.str (n2 "a"))) gi)) (dc 0)
   (Bp (λxs H Q=>∃x,xs=[.str x]/\x.length=1/\Q (.int (x.cps.getD 0 0:Nat)) H) (ed (iP (.str (n2 "z"))) gi)) [B (.int i)] H Q:=λe=>by
  rw[<-e]at k;refine⟨_,Y,Y,_,_,Y,Y,_,Y,?_⟩;rw[e1];by_cases h:(97:Int)<=i
  .refine eR (eL h) ⟨_,Y,Y,_,_,Y,Y,?_⟩;rw[eL h,E5]at k;rw[hN];exact k
  refine ec (by simpa using h) ?_;rw[gW h,IH]at k;exact k
 refine⟨_,Y,Y,_,_,Y,Y,_,Y,?_⟩;rw[aO];by_cases h:(65:Int)<=i
 .refine eR (eL h) ⟨_,Y,Y,_,_,Y,Y,_,Y,?_⟩;rw[aT];by_cases a5:i<=90
  .refine eR (eL a5) ?_;rw[show ql i=a9 by unfold ql;rw[eL h,eL a5];rfl]at k;exact k
  exact ec (by simpa using a5) (two (by unfold ql;rw[gW a5,aiv,E4]))
 exact ec (by simpa using h) ⟨_,Y,d7 (two (by unfold ql;rw[gW h,IH,E4]))⟩
def adi(T:Txt K a6 a):dH P w K a6 base cp 1 "leads_on" ["value","least","most"] adh:=by
 refine T.aaP.ok Cv ?_;rintro _ _ _ _ _ H _ _ _ _ _ ⟨d,lo,hi,rfl,bT,k⟩;refine⟨_,aC (d4 (d1 dB (J 0) cg (cu _)) (aX (bF qF)) d9) (aC (cz (i:=3) Cv.bj (J 0)) (aC (cz (i:=4) Cv.bj (J 0)) (aC (wt oQ (d1 rR (J 3) (J 2) (cu _)) (aC (d4 (d1 F8 (J 4) (J 1) (cu _)) (aX (bF qF)) d9) (aC (cz (i:=3) Cv.bj (de wB (J 3) cg)) (aX (cz (i:=4) Cv.bj (de o3 (de wB (J 4) cg) cg)))))) (aX (bF qF))))),?_⟩;by_cases b8:d=0
 .subst b8;exact⟨Y,_,Y,ip k⟩
 have hd:0<d:=Eg b8;refine⟨Y,_,Y,ec (λz=>b8 ?_) ?_⟩
 .have z:=V.int.inj (e7 z);omega
 have NO:tr lo hi d=yy lo hi d:=by unfold tr;rw[eL hd,E5]
 rw[NO]at k;refine Bf (λaN H'=>H'=H/\∃j,aN=[B (.int (d:Int)),B (.int (lo:Int)),B (.int (hi:Int)),B (.int ((d*10^j:Nat):Int)),B (.int ((d*10^j+(10^j-1):Nat):Int))]/\∀i,i<j->¬lo<=d*10^i+(10^i-1))
  (λ(aN:L2.St)(_:ag)=>match aN[3]? with|some (B (V.int x))=>(1000000-x).toNat|_=>0) ⟨Y,0,?_,λi hi=>absurd hi (aj7 _)⟩ (λaN H' bI=>?_) (λaN H' _ _ m h=>?_)
 .simp;rfl
 .obtain⟨rfl,j,rfl,bY⟩:=bI;obtain⟨jg,gR⟩:=a5x d j;refine⟨_,_,Y,Y,_,Y,?_⟩;by_cases O:d*10^j<=hi
  .refine eR (eL (by omega)) ⟨_,_,Y,Y,_,Y,?_⟩;by_cases a5:lo<=d*10^j+(10^j-1)
   .refine eR (eL (by omega)) ?_;rw[a5y hd bT O a5]at k;exact k
   refine ec (λz=>a5 (aiB.mp (e7 z))) ⟨_,_,Y,Y,.inr dQ,_,_,Y,Y,.inr dQ,_,_,Y,Y,⟨Y,j+1,?_,λi _=>?_⟩,?_⟩
   .rw[gR,jg];rfl
   .by_cases e:i=j
    .rw[e];exact a5
    exact bY i (by omega)
   show(1000000-(((d*10^j:Nat):Int)*10)).toNat<(1000000-((d*10^j:Nat):Int)).toNat;have:0<d*10^j:=Nat.mul_pos hd (Eg (by simp));omega
  refine ec (λz=>O (aiB.mp (e7 z))) ?_;rw[a5z hd bT (by omega) bY]at k;exact k
 dsimp only[o7,k2,ha,jb,p0,iR,ed]at h ⊢;obtain⟨x,e,h⟩:=nf h;obtain⟨y,d8,i,j,l2,rg,b,hl,h⟩:=nf h;exact o_ e (o_ d8 ⟨i,j,l2,rg,b,hl,m _ _ h⟩)
variable{a3 d:I}{m:Nat}{fs:sl (a8×V)}
def adj{e:I}:dW e C (B a3) m≠gs d fs:=by
 intro z;have z:=dA.ext.inj z;let o:bH:={cls:=.ref C,dict:=B a3,data:=.fields #[.none,.none,.none,.none,.none,.none]}
 let h:bq:=⟨aiu (e+1+d) o,{}⟩
 have aI:∀b,b<e+1+d->h.get? b=B o:=λb a0=>by
  have:h.objs[b]? =B o:=by show(aiu (e+1+d) o)[b]? =B o;simp[a0]
  unfold Heap.get?;rw[this]
 have p:(λh=>∃cR vs,h.get? e=B cR/\cR.cls=.ref C/\cR.dict=B a3/\cR.data=.fields vs/\vs.size=6/\(m=0->vs[1]? =B .none)/\(m<=1->vs[2]? =B .none)) h:=⟨o,_,aI e (la (AK e) (rx _ _)),Y,Y,Y,Y,λ_=>rfl,λ_=>rfl⟩;have p:=cast (congrFun z h) p;obtain⟨_,_,⟨_,_,_,O,a5,_⟩,_⟩:=p;rw[aI d (la (AK d) (by rw[aiY];exact PK (aj1 1 e) d))]at O;cases O;cases a5
def A9{e:I}(O:H e=B (dW e C (B a3) m))(a5:H a3=B (gs a3 fs)):a3≠e:=λz=>by rw[z,O]at a5;exact adj (h4 a5)
def df(p:I)(H H':ag):Prop:=∀c u,c≠p->H c=B u->H' c=B u
def df.of(s:aw H H'):df p H H':=λc u _ q=>s c u q
variable{ai au:ag}
def df.trans(s:df p H ai)(t:df p ai au):df p H au:=λc u n q=>t c u n (s c u n q)
def df.upd(s:df p H H'):df p H (av H' p o):=λc u n q=>by rw[aM n];exact s c u n q
def df.XT{b:I}(s:df p H H')(h:H' b=aa):df p H (av H' b o):=λc u n q=>by rw[aM (cV (s c u n q) h)];exact s c u n q
def df.same(s:df p H H')(h:H p=aa):aw H H':=λc u q=>s c u (λz=>by rw[z,h]at q;cases q) q
def xF(C:I)(f:a8):bN:=λvs H Q _=>sf λx u=>il (vs=[.ref x,u]) (H x=B (dW x C aa 0)) (∀a3,H a3=aa->a3≠x->Q .bR (av (av H a3 (gs a3 [(f,u)])) x (dW x C (B a3) 0)))
def Aa{gH:I}{f:a8}{u:V}{pF:cW}(ee:kc K C gH cT)(h:∀a3 H',aw H H'->H' a3=B (gs a3 [(f,u)])->E (.ref C) (B a3) H'):∀a,H a=aa->xF C f [.ref a,u] (av H a (dW a C aa 0)) (λv au=>v=.bR/\GI K E (.ref a) au) pF:=λa bf=>⟨a,u,Y,b3,λa3 fL bV=>⟨Y,a,C,a3,gH,cT,Y,b3,ee,by
  have vC:H a3=aa:=by rw[aM bV]at fL;exact fL
  refine h a3 _ (λc o q=>?_) ?_
  .have O:c≠a:=cV q bf;have a5:c≠a3:=cV q vC;rw[aM O,aM O,aM a5,aM O];exact q
  rw[aM bV,aM bV,b3]⟩⟩
def D3(T:Txt K a6 a):Cq P w K a6 base cp 1 a.mg ["place"] ["self","place"] (xF a.mg "place"):=by have L:=T.r7;obtain⟨_,_,ee,_⟩:=id L;refine L.ok W' ?_;rintro _ _ _ _ _ _ _ _ _ _ _ ⟨x,u,rfl,ah,k⟩;exact⟨_,aX (Cc (J 0) (J 1) Y),x,_,_,_,Y,ee,by simp,.inl ⟨ah,λa3 fL bV=>k a3 fL bV⟩⟩
def adk(T:Txt K a6 a):Cq P w K a6 base cp 1 a.vp ["place"] ["self","place"] (xF a.vp "place"):=by have L:=T.Hc;obtain⟨_,_,ee,_⟩:=id L;refine L.ok a9J ?_;rintro _ _ _ _ _ _ _ _ _ _ _ ⟨x,u,rfl,ah,k⟩;exact⟨_,aX (Cc (J 0) (J 1) Y),x,_,_,_,Y,ee,by simp,.inl ⟨ah,λa3 fL bV=>k a3 fL bV⟩⟩
def sm(aD:I)(n:Nat):sl (a8×V):=[("source",.ref aD),("place",.int (n:Int))]
def hP(a:b4)(H:ag)(x aD:I)(n:Nat):Prop:=∃a3,H x=B (.ins a.Reader a3 (sm aD n))
def mS(b:aS)(n:Nat):Int:=match b[n]? with
 |some x=>((x.toNat:Nat):Int)
 |none=> -1
def fg(a:b4)(H:ag)(x aD:I)(b:aS)(n:Nat):Prop:=hP a H x aD n/\H aD=B (.lst (cA b))/\n<=b.length
def xG(a:b4)(H:ag)(x aD:I)(v:V)(n:Nat)(Q:c2):Prop:=∀H',df x H H'->hP a H' x aD n->Q v H'
def oG(a:b4)(H:ag)(x:I)(n:Nat)(E:cW):Prop:=∀a3 H',df x H H'->H' a3=B (gs a3 [("place",.int (n:Int))])->E (.ref a.mg) (B a3) H'
variable{x aD:I}
def vD{l:sl V}(h:hP a H x aD n)(a5:H aD=B (.lst l)):aD≠x:=λz=>by obtain⟨_,h⟩:=h;rw[z,h]at a5;cases a5
def adl(a:b4):bN:=λvs H Q _=>qf λx a3 aD=>il (vs=[.ref x,.ref aD]) (H x=B (.ins a.Reader a3 [])) (Q .bR (av H x (.ins a.Reader a3 (sm aD 0))))
def adm(a:b4):bN:=λvs H Q _=>kg λx aD b n=>il (vs=[.ref x]) (fg a H x aD b n) (Q (.int (mS b n)) H)
def NP(a:b4):bN:=λvs H Q E=>kg λx aD b n=>jE (vs=[.ref x]) (fg a H x aD b n) ((b.length<=n->Q .bR H)) ((n<b.length->oG a H x n E))
def NQ(T:Txt K a6 a):ox P w K a6 base cp 1 a.Reader ["self","source"] (adl a):=by refine T.abp.ok a9F ?_;rintro _ _ _ _ _ _ _ _ _ _ _ ⟨x,a3,aD,rfl,ah,k⟩;refine⟨_,aC (e2 (J 0) (J 1) Y) (aX (e2 (J 0) cg Y)),x,_,_,_,Y,ah,T.cO.1,T.r8,dQ,x,_,_,_,Y,b3,T.cO.1,T.jF,qE,?_⟩;rw[j5];exact k
def D4(T:Txt K a6 a):fT P w K a6 base cp 1 a.Reader "peek" ["self"] (adm a):=by
 refine T.abq.ok a9G ?_;rintro _ _ _ _ _ _ _ _ _ _ _ ⟨x,aD,b,n,rfl,⟨⟨a3,ah⟩,fm,aH⟩,k⟩;refine⟨_,aC (d4 (d1 pa (bg (J 0) Y) (fj jc Y T.i3 iu (ao (bg (J 0) Y) az)) (cu _)) (aX (bF (dZ hL (bg (J 0) Y) (bg (J 0) Y) (λ_ _=>rfl)))) d9) (aX (bF (Bi Bj cg))),x,_,_,_,_,Y,ah,T.cO.1,T.jF,Y,x,_,_,_,_,Y,ah,T.cO.1,T.r8,Y,aD,_,Y,.inl (bo.of fm),_,_,Y,Y,_,Y,?_⟩;rw[iI];by_cases h:n<b.length
 .refine eR (eL (by omega)) ⟨x,_,_,_,_,Y,ah,T.cO.1,T.r8,Y,x,_,_,_,_,Y,ah,T.cO.1,T.jF,Y,aD,_,_,.int ((b[n].toNat:Nat):Int),Y,Y,bo.of fm,?_,?_⟩
  .refine gw ?_;unfold cA;rw[fW,ff h];rfl
  unfold mS at k;rw[ff h]at k;exact k
 refine ec (by simpa using(show b.length<=n by omega)) ?_;unfold mS at k;rw[qx (by omega)]at k;exact⟨_,Y,k⟩
def NR(T:Txt K a6 a):fT P w K a6 base (pE P w) 3 a.Reader "finish" ["self"] (NP a):=by
 refine T.aby.kI a9I ?_;rintro _ _ _ _ _ _ _ _ _ _ ak ⟨x,aD,b,n,rfl,⟨⟨a3,ah⟩,fm,aH⟩,cK,bJ⟩;refine⟨_,aX (d4 (d1 pa (bg (J 0) Y) (fj jc Y T.i3 iu (ao (bg (J 0) Y) az)) (cu _)) (aX (x8 (zH (D3 T) ak Y T.tM bu (ao (bg (J 0) Y) az)) Y d_)) d9),?_⟩;obtain⟨_,_,ee,_⟩:=T.r7;refine⟨x,_,_,_,_,Y,ah,T.cO.1,T.jF,Y,x,_,_,_,_,Y,ah,T.cO.1,T.r8,Y,aD,_,Y,.inl (bo.of fm),_,_,Y,Y,_,Y,?_⟩;rw[iI];by_cases h:n<b.length
 .refine eR (eL (by omega)) ⟨x,_,_,_,_,Y,ah,T.cO.1,T.jF,Y,gd,Aa ee λa3 H' aE hd=>bJ h a3 H' (df.of aE) hd⟩
 exact ec (by simpa using(show b.length<=n by omega)) (cK (by omega))
def mT(dk:sl aS)(b:aS):Nat:=(dk.map (cj b)).foldr max 0
def adn(l:sl aS)(w b:aS):mT (l++[w]) b=max (mT l b) (cj b w):=by unfold mT;induction l with|nil=>simp|cons x l ih=>simp only[oN,ir,a0F,ih];lia
def oH(dk:sl aS):sl V:=dk.map λ(w:aS)=>V.str (cm w)
def ado(a:b4):bN:=λvs H Q _=>kJ λx aD b n w=>jE (vs=[.ref x,.str (cm w)]) (fg a H x aD b n) (w.length<=1000) (∀H',aw H H'->Q (.int ((cj (b.drop n) w:Nat):Int)) H')
def HG(K:bb)(a:b4):bN:=λvs H Q E=>jD λx aD b n v dk=>qg (vs=[.ref x,v]) (fg a H x aD b n) (((∀H',aw H H'->Holds K H' v (oH dk))∨∃l,v=.ref l/\H l=B (.lst (oH dk)))) ((∀w∈dk,w.length<=1000)) ((∀i w,dk[i]? =B w->du w (b.drop n)=a9->(∀j u,j<i->dk[j]? =B u->du u (b.drop n)=aK)->xG a H x aD (.int ((i:Nat):Int)) (n+w.length) Q)) (((∀u∈dk,du u (b.drop n)=aK)->oG a H x (n+mT dk (b.drop n)) E))
def fg.same(h:Hg.fg a H x aD b n)(s:aw H H'):Hg.fg a H' x aD b n:=⟨let⟨a3,z⟩:=h.1;⟨a3,s _ _ z⟩,s _ _ h.2.1,h.2.2⟩
def adp{dk:sl aS}{v:V}(h:(oH dk)[i]? =B v):∃w,dk[i]? =B w/\v=.str (cm w):=by unfold oH at h;rw[fW]at h;cases e:dk[i]? with|none=>rw[e]at h;cases h|some w=>rw[e]at h;cases h;exact⟨w,Y,Y⟩
def XU(T:Txt K a6 a):fT P w K a6 base cp 2 a.Reader "agreed_with" ["self","word"] (ado a):=by refine T.Xm.ok X0 ?_;rintro _ _ _ _ _ _ _ _ _ _ ak ⟨x,aD,b,n,wd,rfl,⟨⟨a3,ah⟩,fm,aH⟩,eY,k⟩;refine⟨_,aX (bF (cw (D2 T) ak Y bu (ao (bg (J 0) Y) (ao (bg (J 0) Y) (ao (cw (sk T) ak Y bu (ao (J 1) az)) az))))),x,_,_,_,_,Y,ah,T.cO.1,T.r8,Y,x,_,_,_,_,Y,ah,T.cO.1,T.jF,Y,wd,Y,(by lia),λl _ _ s1 gu=>?_⟩;exact⟨aD,b,n,l,wd,Y,s1 _ _ fm,gu,λau s2=>k au (s1.trans s2)⟩
def rh(T:Txt K a6 a):fT P w K a6 base (pE P w) 3 a.Reader "choice" ["self","words"] (HG K a):=by
 refine T.abr.kI zS ?_;rintro _ _ _ _ _ H _ _ _ _ ak ⟨x,aD,b,n,v,dk,rfl,eu,bk,rY,cK,bJ⟩;refine⟨_,aC (cz (i:=2) zS.bj cg) (aC (n_ AP Y (a8p Y T.ac7 (ao (J 1) az)) (QW Y (yK (h8 (i:=3) zS.bj) (yK (h8 (i:=4) zS.bj) JQ))) (aC (cz (i:=5) zS.bj (dR (XU T) (J 0) T.cO.1 ak bu (ao (J 4) az))) (aC (d4 (d1 dB (J 5) (fj Fo Y T.i3 iu (ao (J 4) az)) (cu _)) (aC (yR (J 0) (J 5) yS) (aX (bF (J 3)))) d9) (aX (cz (i:=2) zS.bj (fj (R9 Y) Y T.NA a15 (ao (J 2) (ao (J 5) az)))))))) (aX (x8 (zH (D3 T) ak Y T.tM bu (ao (de o3 (bg (J 0) Y) (J 2)) az)) Y d_))),?_⟩;obtain⟨_,_,ee,_⟩:=T.r7;refine⟨v,oH dk,Y,a8s (λi aN H'=>∃D5 gc fE,aN=[B (.ref x),B v,B (.int ((mT (dk.take i) (b.drop n):Nat):Int)),D5,gc,fE]/\aw H H'/\∀u∈dk.take i,du u (b.drop n)=aK) ⟨aa,aa,aa,Y,aw.refl H,λu bx=>nomatch bx⟩ ?_ (λi y aN H' hi bI N dF=>?_) λaN H' bI=>?_⟩
 .obtain bk|⟨l,rfl,ar⟩:=bk
  .exact .inl λi aN H' _ bI=>by obtain⟨D5,gc,fE,rfl,aE,_⟩:=bI;exact bk H' aE
  exact .inr ⟨l,Y,λi aN H' _ bI=>by obtain⟨D5,gc,fE,rfl,aE,_⟩:=bI;exact bo.of (aE _ _ ar)⟩
 .obtain⟨D5,gc,fE,rfl,aE,wW⟩:=bI;obtain⟨wd,tR,rfl⟩:=adp hi;have eY:=rY wd (n0 tR);have qj:aw H (av H' N (.tup [.int ((i:Nat):Int),.str (cm wd)])):=aw.upd aE dF;obtain⟨⟨a3,ah⟩,fm,aH⟩:=eu.same qj;refine⟨N,_,Y,dt.of b3,Y,_,_,Y,_,_,Y,Y,x,_,_,Y,ah,Y,x,aD,b,n,wd,Y,eu.same qj,eY,λau eQ=>?_⟩;obtain⟨⟨mi,hF⟩,_,_⟩:=eu.same (qj.trans eQ);refine⟨cm wd,Y,?_,Y,_,Y,?_⟩
  .rw[fz];exact dE eY dQ
  rw[fz];by_cases aq:du wd (b.drop n)=a9
  .have a7:=(pC wd (b.drop n)).mp aq;refine eR (by rw[a7];exact eL Y) ⟨x,_,_,_,_,Y,hF,T.cO.1,T.jF,Y,_,_,Y,Y,mi,_,hF,sO,?_⟩;refine cK i wd tR aq (λj u bY bx=>wW u ?_) _ (df.upd (df.of (qj.trans eQ))) ⟨mi,?_⟩
   .exact n0 (by rw[PH bY];exact bx)
   rw[b3,a7];rfl
  have a7:cj (b.drop n) wd≠wd.length:=λz=>aq ((pC wd (b.drop n)).mpr z);refine ec (λz=>a7 ?_) ⟨_,_,Y,B (.int ((i:Nat):Int)),B (.str (cm wd)),B (.int ((cj (b.drop n) wd:Nat):Int)),?_,qj.trans eQ,?_⟩
  .have z:=V.int.inj (e7 z)
   lia
  .have oI:(if((cj (b.drop n) wd:Nat):Int)>((mT (dk.take i) (b.drop n):Nat):Int)then((cj (b.drop n) wd:Nat):Int)else((mT (dk.take i) (b.drop n):Nat):Int))=((mT (dk.take (i+1)) (b.drop n):Nat):Int):=by rw[take_snoc tR,adn];split<;>lia
   rw[oI];rfl
  intro u bx;rw[take_snoc tR]at bx;obtain h|h:=kN.mp bx
  .exact wW u h
  have e:u=wd:=by simpa using h
  rw[e];cases z:du wd (b.drop n)with|false=>rfl|true=>exact absurd z aq
 obtain⟨D5,gc,fE,rfl,aE,wW⟩:=bI;obtain⟨⟨a3,ah⟩,fm,aH⟩:=eu.same aE;have t6:dk.take (oH dk).length=dk:=by unfold oH;rw[cX,jl]
 rw[t6]at wW ⊢;refine⟨x,_,_,_,_,Y,ah,T.cO.1,T.jF,Y,_,_,Y,Y,gd,Aa ee λdV au eQ hd=>bJ wW dV au (df.of (aE.trans eQ)) ?_⟩;rw[hd];rfl
def NS(a:b4):bN:=λvs H Q E=>jD λx aD b n wp w=>mQ (vs=[.ref x,.ref wp]) (fg a H x aD b n) (H wp=B (.lst (cA w))) ((du w (b.drop n)=a9->xG a H x aD .bR (n+w.length) Q)) ((du w (b.drop n)=aK->oG a H x (n+cj (b.drop n) w) E))
def zc:∀x w:aS,cj x w<=w.length
 |[],w=>by unfold cj;simp
 |_::_,[]=>by simp[cj]
 |x::l,y::m=>by
  unfold cj;split
  .have:=zc l m;simp;lia
  simp
def NT(T:Txt K a6 a):fT P w K a6 base (pE P w) 3 a.Reader "row" ["self","row"] (NS a):=by
 refine T.abu.kI X1 ?_;rintro _ _ _ _ _ _ _ _ _ _ ak ⟨x,aD,b,n,wp,wd,rfl,eu,qk,cK,bJ⟩;refine⟨_,aC (cz (i:=2) X1.bj (cw (D2 T) ak.mono Y bu (ao (bg (J 0) Y) (ao (bg (J 0) Y) (ao (J 1) az))))) (aC (d4 (d1 pa (J 2) (fj jc Y T.i3 iu (ao (J 1) az)) (cu _)) (aX (x8 (zH (D3 T) ak Y T.tM bu (ao (de o3 (bg (J 0) Y) (J 2)) az)) Y d_)) d9) (aX (yR (J 0) (J 2) yS))),?_⟩;obtain⟨_,_,ee,_⟩:=T.r7;obtain⟨⟨a3,ah⟩,fm,_⟩:=id eu;refine⟨x,_,_,_,_,Y,ah,T.cO.1,T.r8,Y,x,_,_,_,_,Y,ah,T.cO.1,T.jF,Y,aD,b,n,wp,wd,Y,fm,qk,λ_ s2=>?_⟩;refine⟨wp,_,Y,.inl (bo.of (s2 _ _ qk)),_,_,Y,Y,_,Y,?_⟩;rw[iI];have hq:=zc (b.drop n) wd;by_cases aq:du wd (b.drop n)=a9
 .have a7:=(pC wd (b.drop n)).mp aq;refine ec (by rw[a7];simp) ⟨x,_,_,_,_,Y,s2 _ _ ah,T.cO.1,T.jF,Y,_,_,Y,Y,a3,_,s2 _ _ ah,(by show 2<1000;decide),?_⟩;refine cK aq _ (df.upd (df.of s2)) ⟨a3,?_⟩;rw[b3,a7];rfl
 have a7:cj (b.drop n) wd≠wd.length:=λz=>aq ((pC wd (b.drop n)).mpr z);refine eR (eL (by lia)) ⟨x,_,_,_,_,Y,s2 _ _ ah,T.cO.1,T.jF,Y,_,_,Y,Y,gd,Aa ee λdV bc bE hd=>bJ (nT aq) dV bc (df.of (s2.trans bE)) ?_⟩;rw[hd];rfl
def D6(a:b4):bN:=λvs H Q E=>kJ λx aD b n w=>mQ (vs=[.ref x,.str (cm w)]) (fg a H x aD b n) (w.length<=1000) ((du w (b.drop n)=a9->xG a H x aD .bR (n+w.length) Q)) ((du w (b.drop n)=aK->oG a H x (n+cj (b.drop n) w) E))
def jJ(T:Txt K a6 a):fT P w K a6 base (pE P w) 4 a.Reader "word" ["self","word"] (D6 a):=by refine T.abt.kI a9H ?_;rintro _ _ _ _ _ _ _ _ _ _ ak ⟨x,aD,b,n,wd,rfl,eu,rY,cK,bJ⟩;refine⟨_,aX (ea (dR (NT T) (J 0) T.cO.1 ak d_.passes (ao (cw (sk T) ak.mono Y bu (ao (J 1) az)) az))),?_⟩;obtain⟨_,ah⟩:=id eu.1;refine⟨x,_,_,Y,ah,Y,wd,Y,(by lia),λl _ _ s1 gu=>?_⟩;exact⟨x,aD,b,n,l,wd,Y,eu.same s1,gu,λaq H' c5 lK=>cK aq H' ((df.of s1).trans c5) lK,λaq dV H' c5 hd=>bJ aq dV H' ((df.of s1).trans c5) hd⟩
def cE(b:aS)(n:Nat):eV:=⟨b.drop n,n⟩
def vE(b:aS)(n k:Nat):kD (cE b n) k=cE b (n+k):=by unfold kD cE;simp only[E6]
def xH(b:aS)(n:Nat):(cE b n).next=b[n]?:=by unfold cE a1Z;simp
def HH(b:aS)(n:Nat):xC (mS b n)=a9↔∃x,b[n]? =B x/\Jt x=a9:=by unfold mS;cases e:b[n]? with|none=>exact⟨λh=>absurd h dQ,λ⟨x,h,_⟩=>nomatch h⟩|some x=>dsimp only;rw[adf];exact⟨λh=>⟨x,Y,h⟩,λ⟨y,h,h'⟩=>by cases h;exact h'⟩
def D7(b:aS)(n:Nat):ql (mS b n)=a9↔∃x,b[n]? =B x/\EK x=a9:=by unfold mS;cases e:b[n]? with|none=>exact⟨λh=>absurd h dQ,λ⟨x,h,_⟩=>nomatch h⟩|some x=>dsimp only;rw[adg];exact⟨λh=>⟨x,Y,h⟩,λ⟨y,h,h'⟩=>by cases h;exact h'⟩
structure qm (lo hi:Nat) (b:aS) (n k d:Nat):Prop where
 eq:uz lo hi (cE b n)=yz lo hi (6-k) d (cE b (n+k))
 le:d<=hi
 XW:k=0/\d=0∨∃j,k=j+1/\10^j<=d
 pl:n+k<=b.length
variable{lo hi:Nat}
def qm.start(h:n<=b.length):qm lo hi b n 0 0:=⟨Y,es _,.inl ⟨Y,Y⟩,h⟩
def qm.lt{d:Nat}(N:qm lo hi b n k d)(bT:hi<100000):k<6:=by
 obtain⟨h,_⟩|⟨j,h,a5⟩:=N.XW
 .lia
 have:=N.le;have:¬5<=j:=λz=>by
  have:=Nat.pow_le_pow_right (n:=10) dQ z;have:10^5=100000:=rfl
  lia
 lia
def qm.step{d e:Nat}(N:qm lo hi b n k d)(bT:hi<100000)(h:Tf.more lo hi d (cE b (n+k))=B e):qm lo hi b n (k+1) e:=by
 have aA:=N.lt bT;have b8:=h;unfold Tf.more at b8;rw[xH]at b8;cases a0:b[n+k]? with
 |none=>rw[a0]at b8;cases b8
 |some x=>
  rw[a0]at b8;dsimp only at b8;split at b8
  .rename_i a7
   cases b8;obtain⟨_,gD⟩:=T8 a7.2;refine⟨?_,gD,.inr ⟨k,Y,?_⟩,?_⟩
   .rw[N.eq,show 6-k=(6-(k+1))+1 by lia,T9 h,vE];rfl
   .obtain⟨O,a5⟩|⟨j,O,a5⟩:=N.XW
    .subst O;lia
    subst O;rw[a0Y]
    lia
   have:=(ei.mp a0).1
   lia
  cases b8
def qm.stop{d:Nat}(N:qm lo hi b n k d)(bT:hi<100000)(h:Tf.more lo hi d (cE b (n+k))=aa):uz lo hi (cE b n)=if lo<=d then .ok (d,cE b (n+k))else .error (n+k):=by
 have aA:=N.lt bT;rw[N.eq,show 6-k=(5-k)+1 by lia,Ta h];have:=N.le;by_cases ar:lo<=d
 .rw[aZ ⟨ar,N.le⟩,aZ ar]
 rw[aL (λz=>ar z.1),aL ar];rfl
def NU(a:b4):bN:=λvs H Q E=>jD λx aD b n (lo hi:Nat)=>mQ (vs=[.ref x,.int (lo:Int),.int (hi:Int)]) (fg a H x aD b n) (hi<100000) ((∀d m,uz lo hi (cE b n)=.ok (d,cE b m)->m<=b.length->xG a H x aD (.int ((d:Nat):Int)) m Q)) ((∀m,uz lo hi (cE b n)=.error m->oG a H x m E))
noncomputable def l4(H:ag)(x:I):Int:=match H x with
 |some (.ins _ _ fs)=>(match fs.lookup ("place" :a8)with
  |some (V.int i)=>i
  |_=>0)
 |_=>0
def Ab(h:hP a H x aD n):l4 H x=n:=by obtain⟨_,h⟩:=h;unfold l4;rw[h];rfl
def NV(T:Txt K a6 a):fT P w K a6 base (pE P w) 3 a.Reader "number" ["self","least","most"] (NU a):=by
 refine T.abw.kI H6 ?_;rintro f bU A _ s H _ Q E _ ak ⟨x,aD,b,n,lo,hi,rfl,eu,bT,cK,bJ⟩;have O:dp 1 (A.deeper (fH "Reader.number" (bh MT) s⁻¹ f bU)):=ak.mono;refine⟨_,aC (cz (i:=3) H6.bj cg) (aC (wt AP (js (cw (XQ T) O Y bu (ao (gb (D4 T) (J 0) T.cO.1 O bu) az))) (aC (cz (i:=4) H6.bj (de o4 (de o3 (de wB (J 3) cg) (gb (D4 T) (J 0) T.cO.1 O bu)) (fj sY Y T.tO w0 (ao ek az)))) (aC (d4 (wo (js (cw (adi T) O Y bu (ao (J 4) (ao (J 1) (ao (J 2) az)))))) (aX QT) d9) (aC (cz (i:=3) H6.bj (J 4)) (aX (yR (J 0) cg yS)))))) (aC (d4 (d1 pa (J 3) (J 1) (cu _)) (aX (x8 (zH (D3 T) ak Y T.tM bu (ao (bg (J 0) Y) az)) Y d_)) d9) (aX (bF (J 3))))),?_⟩;obtain⟨_,_,ee,_⟩:=T.r7;obtain⟨ri,fm,aH⟩:=id eu;have bV:=vD ri fm;have fin:∀(gc:Iw V)(H':ag)(k d:Nat),qm lo hi b n k d->df x H H'->hP a H' x aD (n+k)->Tf.more lo hi d (cE b (n+k))=aa->nY (JN (o7 (k2 (lZ λi j=>.c3 (decide (i<j))) (dc 3) (dc 1))) (nY (UG K (x7 a.mg (xF a.mg "place") q5 (ed (ha K (dc 0) "place") gi)) E) B9) B9) (nY (p3 (dc 3)) B9)
    {c8:=λ_ H'=>Q .bR H',iw:=Q} [B (.ref x),B (.int (lo:Int)),B (.int (hi:Int)),B (.int ((d:Nat):Int)),gc] H':=λgc H' k d N c5 lK hm=>by
  have ax:=N.stop bT hm;refine⟨_,_,Y,Y,_,Y,?_⟩;by_cases ar:lo<=d
  .rw[aZ ar]at ax;exact ec (by simpa using ar) (cK d (n+k) ax N.pl H' c5 lK)
  rw[aL ar]at ax;obtain⟨a3,ah⟩:=lK;exact eR (eL (by lia)) ⟨x,_,_,_,_,Y,ah,T.cO.1,T.jF,Y,gd,Aa ee λdV au eQ hd=>bJ (n+k) ax dV au (c5.trans (df.of eQ)) hd⟩
 refine Bf (λaN H'=>∃k d gc,aN=[B (.ref x),B (.int (lo:Int)),B (.int (hi:Int)),B (.int ((d:Nat):Int)),gc]/\qm lo hi b n k d/\df x H H'/\hP a H' x aD (n+k))
  (λ_ H'=>((b.length:Int)-l4 H' x).toNat) ⟨0,0,aa,Y,qm.start aH,df.of (aw.refl H),ri⟩ (λaN H' bI=>?_) (λaN H' _ _ m h=>?_)
 .obtain⟨k,d,gc,rfl,N,c5,lK⟩:=bI;have so:=c5 _ _ bV fm;have eN:=N.pl;obtain⟨a3,ah⟩:=id lK;refine⟨x,_,_,Y,ah,Y,x,aD,b,n+k,Y,⟨lK,so,N.pl⟩,_,Y,_,Y,?_⟩;cases d3:xC (mS b (n+k))with
  |false=>refine gF (fin gc H' k d N c5 lK ?_);unfold Tf.more;rw[xH];cases a0:b[n+k]? with|none=>rfl|some y=>dsimp only;rw[aL];intro z;rw[(HH b (n+k)).mpr ⟨y,a0,z.1⟩]at d3;cases d3
  |true=>
   obtain⟨y,a0,bl⟩:=(HH b (n+k)).mp d3;have c6:=(ei.mp a0).1;have adq:mS b (n+k)=((y.toNat:Nat):Int):=by unfold mS;rw[a0]
   have alc:48<=y.toNat:=by unfold Jt at bl;rw[j3]at bl;exact e7 bl.1
   have ald:d<100000:=lR N.le bT;refine hM ⟨_,_,Y,Y,.inr dQ,x,_,_,Y,ah,Y,x,aD,b,n+k,Y,⟨lK,so,N.pl⟩,_,_,Y,Y,_,Y,Y,_,_,Y,Y,?_⟩;have ads:(((n2 "0").cps.getD 0 0:Nat):Int)=48:=by decide+kernel
   have iS:(d:Int)*10+mS b (n+k)-(((n2 "0").cps.getD 0 0:Nat):Int)=((10*d+(y.toNat-48):Nat):Int):=by
    rw[adq,ads]
    lia
   show mJ 4 (V.int ((d:Int)*10+mS b (n+k)-(((n2 "0").cps.getD 0 0:Nat):Int))) _ _ _;rw[iS];refine⟨10*d+(y.toNat-48),lo,hi,Y,IX bT dQ,_,Y,?_⟩;cases hq:tr lo hi (10*d+(y.toNat-48))with
   |false=>refine hM (fin _ H' k d N c5 lK ?_);unfold Tf.more;rw[xH,a0];dsimp only;rw[aL];intro z;rw[hq]at z;exact absurd z.2 dQ
   |true=>
    have adt:Tf.more lo hi d (cE b (n+k))=B (10*d+(y.toNat-48)):=by unfold Tf.more;rw[xH,a0];dsimp only;rw[aZ ⟨bl,hq⟩]
    refine gF ⟨x,_,_,_,_,Y,ah,T.cO.1,T.jF,Y,_,_,Y,Y,a3,_,ah,sO,⟨k+1,_,_,Y,N.step bT adt,df.upd c5,a3,?_⟩,?_⟩
    .rw[b3];rfl
    have O:l4 H' x=((n+k:Nat):Int):=Ab lK;have a5:l4 (av H' x (.ins a.Reader a3 (gN "place" (.int (((n+k:Nat):Int)+1)) (sm aD (n+k))))) x=((n+k+1:Nat):Int):=Ab (a:=a) (aD:=aD) ⟨a3,by rw[b3];rfl⟩;show((b.length:Int)-l4 _ x).toNat<_;rw[a5,O]
    lia
 dsimp only[o7,k2,ha,jb,p0,iR,ed]at h ⊢;obtain⟨u,e,eT,dV,h6,aO,aT,e1,eG,D8,b2,cS,hN,kA,i,mj,q,lL,h⟩:=nf h;exact o_ e ⟨eT,dV,h6,aO,aT,e1,eG,D8,b2,cS,hN,kA,i,mj,q,lL,m _ _ h⟩
abbrev nI(y:UInt8):Bool:=EK y||Tafl.isDigit y
structure qn (b:aS) (n k:Nat):Prop where
 aO:(oV nI 16 (cE b n)).1=(b.drop n).take k++(oV nI (16-k) (cE b (n+k))).1
 aT:(oV nI 16 (cE b n)).2=(oV nI (16-k) (cE b (n+k))).2
 le:k<=16
 pl:n+k<=b.length
def qn.start(h:n<=b.length):qn b n 0:=⟨by simp,by simp,dQ,h⟩
def qn.step(N:qn b n k)(aA:k<16){x:UInt8}(ah:b[n+k]? =B x)(aq:nI x=a9):qn b n (k+1):=by
 have e:16-k=(16-(k+1))+1:=by lia
 have st:=a5A (p:=nI) (n:=16-(k+1)) (c:=cE b (n+k)) (by rw[xH];exact ah) aq;rw[vE]at st;refine⟨?_,?_,aA,?_⟩
 .rw[N.aO,e,st];dsimp only;rw[ue,AB,ah];simp[a0R]
 .rw[N.aT,e,st];rfl
 have:=(ei.mp ah).1
 lia
def qn.stop(N:qn b n k)(h:k=16∨∀x,b[n+k]? =B x->nI x=aK):oV nI 16 (cE b n)=((b.drop n).take k,cE b (n+k)):=by
 have z:oV nI (16-k) (cE b (n+k))=([],cE b (n+k)):=by
  by_cases aA:k=16
  .subst aA;rfl
  have hq:=N.le;rw[show 16-k=(15-k)+1 by lia];exact a5B λx ah=>(h.resolve_left aA) x (by rw[xH]at ah;exact ah)
 refine Prod.ext ?_ ?_
 .rw[N.aO,z];simp
 rw[N.aT,z]
def adu(b:aS)(n:Nat):qB (cE b n)=if ql (mS b n)=a9 then .ok (oV nI 16 (cE b n))else .error n:=by
 unfold qB;rw[xH];cases a0:b[n]? with
 |none=>
  rw[aL]
  .rfl
  intro z;obtain⟨x,h,_⟩:=(D7 b n).mp z;rw[a0]at h;cases h
 |some x=>
  dsimp only;by_cases ar:EK x=a9
  .rw[aZ ar,aZ ((D7 b n).mpr ⟨x,a0,ar⟩)]
  rw[aL ar,aL]
  .rfl
  intro z;obtain⟨y,h,a5⟩:=(D7 b n).mp z;rw[a0]at h;cases h;exact ar a5
def adv(b:aS)(n:Nat):Prop:=∃y,b[n]? =B y/\nI y=a9
def Ac(t:TT):Prop:=∀(G:L2.St)(H:ag)(Q e9:Bool->ag->Prop),(∀b ai,Q b ai->e9 b ai)->t G H Q->t G H e9
def NW{t u:TT}(b9:Ac t)(bx:Ac u):Ac (JK t u):=λG H Q _ m h=>b9 G H _ _ (λc ai z=>by
 cases c
 .exact gF (m _ _ (by simpa using z))
 exact hM (bx G ai _ _ m (by simpa using z))) h
def adw{t u:TT}(b9:Ac t)(bx:Ac u):Ac (JL t u):=λG H Q _ m h=>b9 G H _ _ (λc ai z=>by
 cases c
 .exact gF (bx G ai _ _ m (by simpa using z))
 exact hM (m _ _ (by simpa using z))) h
def NX(a:b4):bN:=λvs H Q E=>kg λx aD b n=>jE (vs=[.ref x]) (fg a H x aD b n) ((∀k,qn b n k->qB (cE b n)=.ok ((b.drop n).take k,cE b (n+k))->∀l H',H l=aa->df x H H'->hP a H' x aD (n+k)->H' l=B (.lst (cA ((b.drop n).take k)))->Q (.ref l) H')) ((qB (cE b n)=.error n->oG a H x n E))
def HI(T:Txt K a6 a):fT P w K a6 base (pE P w) 3 a.Reader "name" ["self"] (NX a):=by
 refine T.abx.kI X2 ?_;rintro f bU A _ s H _ Q _ _ ak ⟨x,aD,b,n,rfl,eu,cK,bJ⟩;have O:dp 1 (A.deeper (fH "Reader.name" (bh MU) s⁻¹ f bU)):=ak.mono;refine⟨_,aC (cz (i:=1) X2.bj (bg (J 0) Y)) (aC (d4 (wo (js (cw (XR T) O Y bu (ao (gb (D4 T) (J 0) T.cO.1 O bu) az)))) (aX (x8 (zH (D3 T) ak Y T.tM bu (ao (J 1) az)) Y d_)) d9) (aC (wt AP (jq.pt (nX (d1 pa (de o4 (bg (J 0) Y) (J 1)) (cL T.aa9 Y) (cu _)) (p_ (jq.pt (EZ (js (cw (XR T) O Y bu (ao (gb (D4 T) (J 0) T.cO.1 O bu) az))) (JM (js (cw (XQ T) O Y bu (ao (gb (D4 T) (J 0) T.cO.1 O bu) az))))))))) (aX (yR (J 0) cg yS))) (aX (bF (t5 uN (bg (J 0) Y) (nq (J 1)) (nq (bg (J 0) Y))))))),?_⟩;obtain⟨_,_,ee,_⟩:=T.r7;obtain⟨ri,fm,aH⟩:=id eu;have bV:=vD ri fm;obtain⟨_,ah⟩:=id ri;have lF:=adu b n;refine⟨x,_,_,_,_,Y,ah,T.cO.1,T.jF,Y,x,_,_,Y,ah,Y,x,aD,b,n,Y,eu,_,Y,_,Y,?_⟩;cases di:ql (mS b n)with
 |false=>rw[di,aL dQ]at lF;exact hM ⟨gd,Aa ee λdV au eQ hd=>bJ lF dV au (df.of eQ) hd⟩
 |true=>
  rw[di,aZ Y]at lF;refine gF (Bf (λaN H'=>aN=[B (.ref x),B (.int (n:Int))]/\∃k,qn b n k/\df x H H'/\hP a H' x aD (n+k)) (λ_ H'=>((b.length:Int)-l4 H' x).toNat) ⟨Y,0,qn.start aH,df.of (aw.refl H),ri⟩ (λaN H' bI=>?_) (λaN H' xD xE m h=>?_))
  .obtain⟨rfl,k,N,c5,lK⟩:=bI;have so:=c5 _ _ bV fm;obtain⟨dV,k9⟩:=id lK;have ob:(k=16∨∀y,b[n+k]? =B y->nI y=aK)->p3 (Fj (Fn K) (ha K (dc 0) "source") (wF (dc 1)) (wF (ha K (dc 0) "place"))) {c8:=λ_ H'=>Q .bR H',iw:=Q} [B (.ref x),B (.int (n:Int))] H':=λz=>by
    refine⟨x,_,_,_,_,Y,k9,T.cO.1,T.r8,Y,_,Y,x,_,_,_,_,Y,k9,T.cO.1,T.jF,Y,_,Y,aD,_,Y,bo.of so,λq aQ=>?_⟩;have D9:q≠x:=λz=>by rw[z,k9]at aQ;cases aQ
    have NY:H q=aa:=by cases e:H q with|none=>rfl|some u=>have:=c5 _ _ D9 e;rw[aQ]at this;cases this
    refine cK k N (by rw[lF,N.stop z]) q _ NY (df.XT c5 aQ) ⟨dV,by rw[aM (ej D9)];exact k9⟩ ?_;rw[b3,show((n+k:Nat):Int)=(n:Int)+(k:Int) by lia,A7]
   refine⟨x,_,_,_,_,Y,k9,T.cO.1,T.jF,Y,_,_,Y,Y,_,_,Y,Y,_,Y,?_⟩;have body:adv b (n+k)->k<16->Rj K (dc 0) (iP (.int 1)) Rk "place" {c8:=λaN xI=>(aN=[B (.ref x),B (.int (n:Int))]/\∃k,qn b n k/\df x H xI/\hP a xI x aD (n+k))/\((b.length:Int)-l4 xI x).toNat<((b.length:Int)-l4 H' x).toNat,dX:=λaN xI=>(aN=[B (.ref x),B (.int (n:Int))]/\∃k,qn b n k/\df x H xI/\hP a xI x aD (n+k))/\((b.length:Int)-l4 xI x).toNat<((b.length:Int)-l4 H' x).toNat,gK:=p3 (Fj (Fn K) (ha K (dc 0) "source") (wF (dc 1)) (wF (ha K (dc 0) "place"))) {c8:=λ_ H'=>Q .bR H',iw:=Q},iw:=Q} [B (.ref x),B (.int (n:Int))] H':=λ⟨y,bl,aq⟩ aA=>by
    refine⟨x,_,_,_,_,Y,k9,T.cO.1,T.jF,Y,_,_,Y,Y,dV,_,k9,sO,⟨Y,k+1,N.step aA bl aq,df.upd c5,dV,?_⟩,?_⟩
    .rw[b3];rfl
    have O:l4 H' x=((n+k:Nat):Int):=Ab lK;have a5:l4 (av H' x (.ins a.Reader dV (gN "place" (.int (((n+k:Nat):Int)+1)) (sm aD (n+k))))) x=((n+k+1:Nat):Int):=Ab (a:=a) (aD:=aD) ⟨dV,by rw[b3];rfl⟩;have:=(ei.mp bl).1;show((b.length:Int)-l4 _ x).toNat<_;rw[a5,O]
    lia
   by_cases aA:k<16
   .refine eR (eL (by show((n+k:Nat):Int)-(n:Int)<16;lia)) ⟨x,_,_,Y,k9,Y,x,aD,b,n+k,Y,⟨lK,so,N.pl⟩,_,Y,_,Y,?_⟩;cases NZ:ql (mS b (n+k))with
    |true=>obtain⟨y,bl,aq⟩:=(D7 b (n+k)).mp NZ;exact hM (hM (body ⟨y,bl,by unfold nI;rw[aq];rfl⟩ aA))
    |false=>
     refine gF ⟨x,_,_,Y,k9,Y,x,aD,b,n+k,Y,⟨lK,so,N.pl⟩,_,Y,_,Y,?_⟩;cases d3:xC (mS b (n+k))with
     |true=>obtain⟨y,bl,aq⟩:=(HH b (n+k)).mp d3;exact hM (body ⟨y,bl,by unfold nI;rw[aq,Pz]⟩ aA)
     |false=>
      refine gF (ob (.inr λy bl=>?_));cases z:nI y with
      |false=>rfl
      |true=>
       obtain z|z:=sE _ _ ▸ z
       .rw[(D7 b (n+k)).mpr ⟨y,bl,z⟩]at NZ;cases NZ
       rw[(HH b (n+k)).mpr ⟨y,bl,z⟩]at d3;cases d3
   have e:k=16:=by have:=N.le;lia
   exact ec (by show¬decide (((n+k:Nat):Int)-(n:Int)<16)=a9;simp;lia) (gF (ob (.inl e)))
  refine NW (λG H Q e9 m h=>?_) (adw (λG H Q e9 m h=>?_) λG H Q e9 m h=>?_) aN H' xD xE m h
  .dsimp only[o7,k2,ha,jb,p0,iR,ed]at h ⊢;obtain⟨u,e,eT,C,dV,h6,kR,aO,aT,e1,hN,kA,h⟩:=nf h;obtain⟨_,mj,i,j,lL,pP,g9,adx,rf,xJ,q,Dc,h⟩:=nf h;exact o_ e ⟨eT,C,dV,h6,kR,aO,aT,e1,hN,kA,o_ mj ⟨i,j,lL,pP,g9,adx,rf,xJ,q,Dc,m _ _ h⟩⟩
  .dsimp only[o7,k2,ha,jb,p0,iR,ed]at h ⊢;obtain⟨u,e,eT,dV,h6,aO,aT,e1,eG,D8,b2,cS,hN,kA,i,mj,q,lL,h⟩:=nf h;exact o_ e ⟨eT,dV,h6,aO,aT,e1,eG,D8,b2,cS,hN,kA,i,mj,q,lL,m _ _ h⟩
  dsimp only[o7,k2,ha,jb,p0,iR,ed]at h ⊢;obtain⟨u,e,eT,dV,h6,aO,aT,e1,eG,D8,b2,cS,hN,kA,i,mj,q,lL,h⟩:=nf h;exact o_ e ⟨eT,dV,h6,aO,aT,e1,eG,D8,b2,cS,hN,kA,i,mj,q,lL,m _ _ h⟩
def ady(a:b4):bN:=λvs H Q _=>kg λx aD b n=>il (vs=[.ref x]) (fg a H x aD b n) (∀l H' k,H l=aa->aw H H'->H' l=B (.lst (cA ((b.drop n).take k)))->k<=(b.drop n).length->(∀y∈(b.drop n).take k,y≠10)->(∀y,(b.drop n)[k]? =B y->y=10)->Q (.ref l) H')
def adz(y:UInt8):decide (V.int (y.toNat:Int)=V.int 10)=(y==10):=by
 rw[hT,mE,i9];constructor
 .intro z;have z:=V.int.inj z;exact a26.mp (by show y.toNat=10;lia)
 rintro rfl;rfl
def adA(T:Txt K a6 a):fT P w K a6 base cp 1 a.Reader "line_ahead" ["self"] (ady a):=by
 refine T.abv.ok N6 ?_;rintro _ _ _ _ _ H _ Q _ _ _ ⟨x,aD,b,n,rfl,⟨⟨a3,ah⟩,fm,aH⟩,k⟩;refine⟨_,aC (cz (i:=1) N6.bj (bg (J 0) Y)) (aC (wt oQ (jq.pt (nX (d1 pa (J 1) (fj jc Y T.i3 iu (ao (bg (J 0) Y) az)) (cu _)) (p_ (d1 o6 (dZ hL (bg (J 0) Y) (J 1) (λ_ _=>rfl)) (cL T.aaa Y) (cu _))))) (aX (wq (i:=1) N6.bj Y (v' Y) cg F7))) (aX (bF (t5 uN (bg (J 0) Y) (nq (bg (J 0) Y)) (nq (J 1)))))),x,_,_,_,_,Y,ah,T.cO.1,T.jF,Y,?_⟩;refine Bf (λaN H'=>H'=H/\∃j,aN=[B (.ref x),B (.int ((n+j:Nat):Int))]/\n+j<=b.length/\∀y∈(b.drop n).take j,y≠10)
  (λ(aN:L2.St) _=>match aN[1]? with|some (B (V.int i))=>((b.length:Int)-i).toNat|_=>0) ⟨Y,0,Y,aH,λy bl=>nomatch bl⟩ (λaN H' bI=>?_) (λaN H' xD xE m h=>?_)
 .obtain⟨rfl,j,rfl,_,iE⟩:=bI;have ob:(∀y,(b.drop n)[j]? =B y->y=10)->p3 (Fj (Fn K) (ha K (dc 0) "source") (wF (ha K (dc 0) "place")) (wF (dc 1))) {c8:=λ_ H'=>Q .bR H',iw:=Q} [B (.ref x),B (.int ((n+j:Nat):Int))] H':=λz=>by refine⟨x,_,_,_,_,Y,ah,T.cO.1,T.r8,Y,x,_,_,_,_,Y,ah,T.cO.1,T.jF,Y,_,Y,_,Y,aD,_,Y,bo.of fm,λq aQ=>?_⟩;refine k q _ j aQ (aw.upd (aw.refl _) aQ) ?_ (by rw[m_];lia) iE z;rw[b3,show((n+j:Nat):Int)=(n:Int)+(j:Int) by lia,A7]
  refine⟨x,_,_,_,_,Y,ah,T.cO.1,T.r8,Y,aD,_,Y,.inl (bo.of fm),_,_,Y,Y,_,Y,?_⟩;rw[iI];by_cases c6:n+j<b.length
  .refine eR (eL (by lia)) ?_;have aI:b[n+j]? =B b[n+j]:=ff c6;have ke:ho (cA b) ((n+j:Nat):Int)=B (.int (b[n+j].toNat:Int)):=gw (by unfold cA;rw[fW,aI];rfl);refine⟨x,_,_,_,_,Y,ah,T.cO.1,T.r8,Y,aD,_,_,_,Y,Y,bo.of fm,ke,Y,_,Y,?_⟩;have hd:(b.drop n)[j]? =B b[n+j]:=by rw[AB];exact aI
   show if(!decide (V.int (b[n+j].toNat:Int)=V.int 10))=a9 then _ else _
   rw[adz];by_cases e:b[n+j]=10
   .refine ec (by rw[e];decide) (ob λy bl=>?_);rw[hd]at bl;cases bl;exact e
   refine eR (by simpa using e) ⟨_,_,Y,Y,⟨Y,j+1,?_,by lia,λy bl=>?_⟩,?_⟩
   .show _=[B (V.ref x),B (V.int ((n+(j+1):Nat):Int))];rw[show((n+(j+1):Nat):Int)=((n+j:Nat):Int)+1 by lia];rfl
   .rw[take_snoc hd]at bl;obtain z|z:=kN.mp bl
    .exact iE y z
    rw[jY.mp z];exact e
   show((b.length:Int)-(((n+j:Nat):Int)+1)).toNat<((b.length:Int)-((n+j:Nat):Int)).toNat
   lia
  refine ec (λz=>c6 (by have:=e7 z;lia)) (ob λy bl=>?_);rw[AB,qx (by lia)]at bl;cases bl
 refine NW (λG H Q e9 m h=>?_) (λG H Q e9 m h=>?_) aN H' xD xE m h
 .dsimp only[o7,k2,ha,jb,p0,iR,ed]at h ⊢;obtain⟨u,e,h⟩:=nf h;obtain⟨gR,e0,eT,C,dV,h6,kR,aO,aT,e1,hN,kA,fS,ys,mj,lL,i,j,pP,rf,q,xJ,h⟩:=nf h;exact o_ e (o_ e0 ⟨eT,C,dV,h6,kR,aO,aT,e1,hN,kA,fS,ys,mj,lL,i,j,pP,rf,q,xJ,m _ _ h⟩)
 dsimp only[o7,k2,ha,jb,p0,iR,ed]at h ⊢;obtain⟨u,e,eT,C,dV,h6,kR,aO,aT,e1,hN,kA,h⟩:=nf h;obtain⟨gR,e0,fS,ys,i,z,mj,lL,pP,rf,xJ,q,Dc,h⟩:=nf h;exact o_ e ⟨eT,C,dV,h6,kR,aO,aT,e1,hN,kA,o_ e0 ⟨fS,ys,i,z,mj,lL,pP,rf,xJ,q,Dc,m _ _ h⟩⟩
def adB:bN:=λvs H Q _=>sf λaD b=>il (vs=[.ref aD]) (H aD=B (.lst (cA b))) (∀H',aw H H'->Q (.c3 (rG b)) H')
def XX(ax:H aD=B (.lst (cA b)))(ah:H x=aa)(hd:H a3=aa)(bV:a3≠x):aw H (av (av H a3 (.own x)) x (.ins a.Reader a3 (sm aD 0)))/\fg a (av (av H a3 (.own x)) x (.ins a.Reader a3 (sm aD 0))) x aD b 0:=by have s:aw H (av (av H a3 (.own x)) x (.ins a.Reader a3 (sm aD 0))):=aw.upd (aw.new hd) (by rw[aM (ej bV)];exact ah);exact⟨s,⟨a3,b3⟩,s _ _ ax,es _⟩
def adC{m:aS}(h:qB (cE b 0)=.ok (m,cE b k)):rG b=decide (b.length<=k):=by unfold rG;rw[show(⟨b,0⟩:eV)=cE b 0 from Y,h];show(b.drop k).isEmpty=_;rw[hT,mE,List.isEmpty_iff,aiH]
def adD(h:qB (cE b 0)=.error k):rG b=aK:=by unfold rG;rw[show(⟨b,0⟩:eV)=cE b 0 from Y,h]
def XY(T:Txt K a6 a):dH P w K a6 base cp 4 "is_name" ["source"] adB:=by
 refine T.aaQ.ok WV ?_;rintro _ _ _ _ _ H _ _ _ _ ak ⟨aD,b,rfl,fm,k⟩;obtain⟨_,_,ee,_⟩:=id T.r7;refine⟨_,aC (cz (i:=1) WV.bj (pK (NQ T) ak.mono Y T.cO.2 bu (ao (J 0) az))) (aC (a8I (t:=1) (E1:=λcls _ H'=>cls=.ref a.mg/\aw H H'/\rG b=aK) (th:=p3 (iP (.c3 aK))) Y Y Y T.tM ee (λc_ bL c=>aC (ea (gb (HI T) (J 1) T.cO.1 ak c.passes)) (aX (ea (gb (NR T) (J 1) T.cO.1 ak c.passes)))) (λe c_ bL=>aX (bF qF))) (aX (bF qF))),?_⟩;refine(λx a3 ah hd bV=>⟨x,a3,aD,Y,b3,Y,?_⟩);rw[j5];obtain⟨s1,oJ⟩:=XX (a:=a) fm ah hd bV;generalize av (av H a3 (.own x)) x (.ins a.Reader a3 (sm aD 0))=ai at s1 oJ ⊢;obtain⟨_,ma⟩:=id oJ.1;have keep:∀H',df x ai H'->aw H H':=λH' c5 c u q=>c5 c u (cV q ah) (s1 _ _ q);refine⟨?_,λcls _ H' fb=>⟨fb.1,?_⟩⟩
 .refine⟨x,_,_,Y,ma,Y,x,aD,b,0,Y,oJ,λn N bQ l au _ c5 j0 _=>?_,λadE mi au c5 _=>⟨Y,keep au c5,adD adE⟩⟩;rw[a10]at bQ j0;have e:=adC bQ;obtain⟨mi,hF⟩:=id j0;have hq:=N.pl;refine⟨x,_,_,Y,hF,Y,x,aD,b,n,Y,⟨j0,c5 _ _ (vD oJ.1 oJ.2.1) oJ.2.1,(by lia)⟩,λaH=>?_,λaH _ bc oK _=>⟨Y,keep bc (c5.trans oK),?_⟩⟩
  .have c9:=k au (keep au c5);rw[e,eL aH]at c9;exact c9
  rw[e,gW (by lia)]
 have c9:=k H' fb.2.1;rw[fb.2.2]at c9;exact c9
structure mU where
 adF:I
 wide:Nat
 high:Nat
 ground:a8
 rj:a8
 first:Nat
 slides:Nat
 armed:Nat
 four:Nat
 passed:Nat
 seat:Nat
 exits:Nat
 goal:Nat
 thrice:Nat
 limit:Nat
noncomputable def hQ(v:mU):sl (a8×V):=[("own_name",.ref v.adF),("wide",.int (v.wide:Int)),("high",.int (v.high:Int)),("ground",.str v.ground),("board",.str v.rj),("first",.int (v.first:Int)),("slides",.int (v.slides:Int)),("armed",.int (v.armed:Int)),("four",.int (v.four:Int)),("passed",.int (v.passed:Int)),("seat",.int (v.seat:Int)),("exits",.int (v.exits:Int)),("goal",.int (v.goal:Int)),("thrice",.int (v.thrice:Int)),("limit",.int (v.limit:Int))]
def mV(a:b4)(H:ag)(p:I)(v:mU):Prop:=∃a3,H p=B (.ins a.Rules a3 (hQ v))
def X_:a8:=dC (hV 169 46)
def ht(n:I)(w h:Nat):mU:=⟨n,w,h,X_,X_,0,0,0,0,0,0,0,0,0,1⟩
def adG(a:b4):bN:=λvs H Q _=>kJ λx a3 n (wd aI:Nat)=>il (vs=[.ref x,.ref n,.int (wd:Int),.int (aI:Int)]) (H x=B (.ins a.Rules a3 [])) (Q .bR (av H x (.ins a.Rules a3 (hQ (ht n wd aI)))))
noncomputable def X'(c:Nat)(s:Nat)(p:Nat):sl (a8×V):=[("cell",.int (c:Int)),("sign",.str ⟨#[s]⟩),("place",.int (p:Int))]
def ml(a:b4)(H:ag)(m:I)(x:Nat×Nat×Nat):Prop:=∃a3,H m=B (.ins a.Mark a3 (X' x.1 x.2.1 x.2.2))
def adH(a:b4):bN:=λvs H Q _=>kJ λx a3 u v w=>il (vs=[.ref x,u,v,w]) (H x=B (.ins a.Mark a3 [])) (Q .bR (av H x (.ins a.Mark a3 [("cell",u),("sign",v),("place",w)])))
noncomputable def iq(p:I)(len:Nat)(g s:I)(lD:Nat):sl (a8×V):=[("rules",.ref p),("length",.int (len:Int)),("ground_marks",.ref g),("start_marks",.ref s),("goal_place",.int (lD:Int))]
def adI(a:b4):bN:=λvs H Q _=>kg λx a3 p (len:Nat)=>il (vs=[.ref x,.ref p,.int (len:Int)]) (H x=B (.ins a.g_ a3 [])) (∀g s,H g=aa->H s=aa->g≠s->∀H',(∀b o,b≠x->H b=B o->H' b=B o)->H' g=B (.lst [])->H' s=B (.lst [])->H' x=B (.ins a.g_ a3 (iq p len g s 0))->Q .bR H')
def adJ(T:Txt K a6 a):ox P w K a6 base cp 1 a.Rules ["self","own_name","wide","high"] (adG a):=by refine T.abm.ok a9C ?_;rintro _ _ _ _ _ _ _ _ _ _ _ ⟨x,a3,n,wd,aI,rfl,ah,k⟩;refine⟨_,aC (e2 (J 0) (J 1) Y) (aC (e2 (J 0) (J 2) Y) (aC (e2 (J 0) (J 3) Y) (aC (e2 (J 0) (de UY (e' T.Nj Y) (cL T.Nf Y)) Y) (aC (e2 (J 0) (de UY (e' T.zW Y) (cL T.Nf Y)) Y) (aC (e2 (J 0) (cL T.H7 Y) Y) (aC (e2 (J 0) cg Y) (aC (e2 (J 0) cg Y) (aC (e2 (J 0) cg Y) (aC (e2 (J 0) cg Y) (aC (e2 (J 0) cg Y) (aC (e2 (J 0) cg Y) (aC (e2 (J 0) cg Y) (aC (e2 (J 0) cg Y) (aX (e2 (J 0) cg Y))))))))))))))),?_⟩;have Y0:(V.str ".")=V.str ⟨#[46]⟩:=g5 V.str (oD .none).symm;refine⟨x,_,_,_,Y,ah,T.dm.1,T.Nl,dQ,x,_,_,_,Y,b3,T.dm.1,T.zX,qE,x,_,_,_,Y,b3,T.dm.1,T.xt,sO,46,169,Y0,Y,dQ,dQ,x,_,_,_,Y,b3,T.dm.1,T.oB,Qy,46,169,Y0,Y,dQ,dQ,x,_,_,_,Y,b3,T.dm.1,T.CT,Qz,x,_,_,_,Y,b3,T.dm.1,T.Nm,B2,x,_,_,_,Y,b3,T.dm.1,T.Nn,Jx,x,_,_,_,Y,b3,T.dm.1,T.CU,(by show 7<1000;decide),x,_,_,_,Y,b3,T.dm.1,T.Np,(by show 8<1000;decide),x,_,_,_,Y,b3,T.dm.1,T.Ha,(by show 9<1000;decide),x,_,_,_,Y,b3,T.dm.1,T.Hb,(by show 10<1000;decide),x,_,_,_,Y,b3,T.dm.1,T.Nq,(by show 11<1000;decide),x,_,_,_,Y,b3,T.dm.1,T.CV,(by show 12<1000;decide),x,_,_,_,Y,b3,T.dm.1,T.Nr,(by show 13<1000;decide),x,_,_,_,Y,b3,T.dm.1,T.Nt,(by show 14<1000;decide),?_⟩;simp only[j5];exact k
def adK(T:Txt K a6 a):ox P w K a6 base cp 1 a.Mark ["self","cell","sign","place"] (adH a):=by refine T.abL.ok a9S ?_;rintro _ _ _ _ _ _ _ _ _ _ _ ⟨x,a3,u,v,w,rfl,ah,k⟩;refine⟨_,aC (e2 (J 0) (J 1) Y) (aC (e2 (J 0) (J 2) Y) (aX (e2 (J 0) (J 3) Y))),x,_,_,_,Y,ah,T.pM.1,T.Hi,dQ,x,_,_,_,Y,b3,T.pM.1,T.Hj,qE,x,_,_,_,Y,b3,T.pM.1,T.Hk,sO,?_⟩;simp only[j5];exact k
def adL(T:Txt K a6 a):ox P w K a6 base cp 1 a.g_ ["self","rules","length"] (adI a):=by
 refine T.abM.ok a9T ?_;rintro _ _ _ _ _ _ _ _ _ _ _ ⟨x,a3,p,len,rfl,ah,k⟩;refine⟨_,aC (e2 (J 0) (J 1) Y) (aC (e2 (J 0) (J 2) Y) (aC (e2 (J 0) (fC az) Y) (aC (e2 (J 0) (fC az) Y) (aX (e2 (J 0) cg Y))))),x,_,_,_,Y,ah,T.jG.1,T.zZ,dQ,x,_,_,_,Y,b3,T.jG.1,T.Xn,qE,es _,λg aI=>?_⟩;have Dd:g≠x:=λz=>by rw[z,b3]at aI;cases aI
 rw[j5]at aI ⊢;rw[aM Dd]at aI;refine⟨x,_,_,_,Y,(by rw[aM (ej Dd),b3]),T.jG.1,T.Hl,(by show 2<1000;decide),es _,λt b9=>?_⟩;have De:t≠x:=λz=>by rw[z,b3]at b9;cases b9
 rw[aM De]at b9;have N_:t≠g:=λz=>by rw[z,b3]at b9;cases b9
 rw[aM N_,aM De]at b9;refine⟨x,_,_,_,Y,(by rw[aM (ej De),b3]),T.jG.1,T.z_,(by show 3<1000;decide),x,_,_,_,Y,b3,T.jG.1,T.Hm,(by show 4<1000;decide),?_⟩;refine k g t aI b9 (ej N_) _ (λb o a0 q=>?_) ?_ ?_ ?_
 .rw[aM a0,aM a0,aM (cV q b9),aM a0,aM (cV q aI),aM a0];exact q
 .rw[aM Dd,aM Dd,aM (ej N_),aM Dd,b3]
 .rw[aM De,aM De,b3]
 rw[b3];rfl
abbrev hg:=Nat×Nat×Nat
inductive fN (a:b4) (H:ag) (l:I) (cv:sl hg):Prop
 |mk:∀cY:sl I,H l=B (.lst (cY.map V.ref))->cY.length=cv.length->(∀(i:Nat) m x,cY[i]? =B m->cv[i]? =B x->ml a H m x)->fN a H l cv
def ml.same{m:I}{x:hg}(h:ml a H m x)(s:aw H H'):ml a H' m x:=let⟨a3,q⟩:=h;⟨a3,s _ _ q⟩
def fN.same{l:I}{cv:sl hg}(h:fN a H l cv)(s:aw H H'):fN a H' l cv:=let⟨cY,O,a5,aG⟩:=h;⟨cY,s _ _ O,a5,λi m x q r=>(aG i m x q r).same s⟩
def rk(cv:sl hg):sl Nat:=cv.foldl (λl m=>l.set m.1 m.2.1) (hV 169 46)
def Y1(cv:sl hg)(l:sl Nat):(cv.foldl (λl m=>l.set m.1 m.2.1) l).length=l.length:=by induction cv generalizing l with|nil=>rfl|cons m cv ih=>rw[vX,ih,qy]
def adM(cv:sl hg):(rk cv).length=169:=by unfold rk;rw[Y1,Ea]
def adN(a:b4):bN:=λvs H Q _=>sf λl cv=>jE (vs=[.ref l]) (fN a H l cv) ((∀m∈cv,m.1<169)) (∀H',aw H H'->Q (.str (dC (rk cv))) H')
def Ad{cY:sl I}{v:V}(h:(cY.map V.ref)[i]? =B v):∃m,cY[i]? =B m/\v=.ref m:=by rw[fW]at h;cases e:cY[i]? with|none=>rw[e]at h;cases h|some m=>rw[e]at h;cases h;exact⟨m,Y,Y⟩
def Y2(T:Txt K a6 a):dH P w K a6 base cp 1 "laid_out" ["marks"] (adN a):=by
 refine T.abd.ok N2 ?_;rintro _ _ _ _ _ H _ _ _ _ _ ⟨l,cv,rfl,hm,a7,k⟩;refine⟨_,aC (cz (i:=1) N2.bj (de a3K (fC (ao ek az)) (cL T.Nf Y))) (aC (n_ oQ Y (nZ (J 0)) (h8 (i:=2) N2.bj) (aX (F0 (bg (J 2) Y) (E' (J 1) (bg (J 2) Y) Fm)))) (aX (bF (BP ek (J 1))))),gd,λny Df=>⟨ny,_,_,Y,Y,b3,dQ,dQ,(by show 1*169<=cN;decide),λcl f9=>?_⟩⟩;have Y3:aw H (av H ny (.lst [.str "."])):=aw.new Df;have adO:H cl=aa:=Y3.free f9;have s1:aw H (av (av H ny (.lst [.str "."])) cl (.lst (hV (169:Int).toNat [V.str "."]).flatten)):=aw.upd Y3 f9;obtain⟨cY,O,a5,aG⟩:=id hm;have e0:(hV (169:Int).toNat [V.str "."]).flatten=pO (hV 169 46):=by rw[List.flatten_replicate_singleton];unfold pO;rw[List.map_replicate,show(⟨#[46]⟩:a8)="." from oD .none];rfl
 refine⟨l,Y,⟨_,bo.of (s1 _ _ O)⟩,yO (xs:=cY.map V.ref) (λi aN H'=>∃v,aN=[B (.ref l),B (.ref cl),v]/\aw H H'/\H' cl=B (.lst (pO ((cv.take i).foldl (λl m=>l.set m.1 m.2.1) (hV 169 46))))) ⟨aa,Y,s1,?_⟩ (λi aN H' _ bI=>?_) (λi v aN H' hi bI=>?_) λaN H' bI=>?_⟩
 .rw[b3,e0];rfl
 .obtain⟨v,rfl,aE,_⟩:=bI;exact bo.of (aE _ _ O)
 .obtain⟨GW,rfl,aE,a0⟩:=bI;obtain⟨m,Dg,rfl⟩:=Ad hi;have c6:i<cv.length:=by rw[<-a5];exact(ei.mp Dg).1
  have ah:=ff c6;obtain⟨_,hd⟩:=(aG i m _ Dg ah).same aE;have EV:=a7 _ (n0 ah);refine⟨m,_,_,_,_,Y,hd,T.pM.1,T.Hj,Y,m,_,_,_,_,Y,hd,T.pM.1,T.Hi,Y,cl,_,_,cv[i].1,Y,Y,a0,?_,_,Y,?_,?_⟩
  .unfold pO;rw[cX,Y1,Ea];exact HB EV
  .exact λb o z=>by rw[aM (cV z adO)];exact aE _ _ z
  rw[b3,take_snoc ah,HC,a0E];rfl
 obtain⟨GW,rfl,aE,a0⟩:=bI;rw[cX,a5,jl]at a0;refine⟨⟨_,Y⟩,"",cl,(rk cv).map λ(c:Nat)=>(⟨#[c]⟩:a8),Y,Y,.inl (bo.of (a0.trans ?_)),?_,?_⟩
 .unfold pO rk;rw[iL];rfl
 .rw[XH,cX,adM];show 169+169*0<=_;decide
 rw[XG];exact k H' aE
def HJ{w:aS}(h:du w b=a9):w.length<=b.length:=by rw[<-(pC w b).mp h];exact SY b w
variable{Q:c2}{ls:sl String}
section
variable{wd:bG}{w:aS}{v:V}
def HK(eu:Hg.fg a H x aD b n)(e:z=cm w)(ar:w.length<=1000)(O:∀m,eD w (cE b n)=.ok (cE b m)->m<=b.length->xG a H x aD .bR m Q)(a5:∀k,eD w (cE b n)=.error k->oG a H x k E):D6 a [.ref x,.str z] H Q E:=by
 have ax:=F' w (cE b n);rw[show(cE b n).rest=b.drop n from Y]at ax;refine⟨x,aD,b,n,w,by rw[e],eu,ar,λaq=>?_,λaq=>?_⟩
 .rw[aZ aq,vE]at ax;have:=HJ aq;have aH:=eu.2.2;exact O _ ax (by rw[m_]at this;omega)
 rw[aL (by rw[aq];decide)]at ax;exact a5 _ ax
def nJ(ls:sl String):sl (Nat×aS):=(eI ls.length).map λ(i:Nat)=>(i,hx (ls.getD i ""))
def Dh(ls:sl String):(nJ ls).map (·.2)=ls.map hx:=by
 unfold nJ;rw[iL];refine IK λi=>?_;rw[fW,fW];by_cases h:i<ls.length
 .rw[aiM h,ff h];show B (hx (ls.getD i ""))=B (hx ls[i]);rw[ua,ff h];rfl
 rw[qx (by simpa using h),qx (by simpa using h)];rfl
def Y4{u:Nat×aS}(h:(nJ ls)[i]? =B u):u.1=i/\(ls.map hx)[i]? =B u.2:=by
 have a5:((nJ ls).map (·.2))[i]? =B u.2:=by rw[fW,h];rfl
 rw[Dh]at a5;refine⟨?_,a5⟩;unfold nJ at h;rw[fW]at h;cases e:(eI ls.length)[i]? with|none=>rw[e]at h;cases h|some j=>rw[e]at h;cases h;have:=ei.mp e;obtain⟨O,a5⟩:=this;simpa using a5.symm
def adP{u:aS}(h:(ls.map hx)[i]? =B u):(nJ ls)[i]? =B (i,u):=by rw[<-Dh,fW]at h;cases e:(nJ ls)[i]? with|none=>rw[e]at h;cases h|some q=>rw[e]at h;cases h;rw[<-(Y4 e).1]
def adQ(Di:uX (nJ ls))(ne:ls≠[])(ar:∀u∈ls.map hx,u.length<16)(c:eV):(∀i u,(ls.map hx)[i]? =B u->du u c.rest=a9->(∀j t,j<i->(ls.map hx)[j]? =B t->du t c.rest=aK)->n7 ls c=.ok (i,kD c u.length))/\((∀u∈ls.map hx,du u c.rest=aK)->n7 ls c=.error (c.at_+mT (ls.map hx) c.rest)):=by
 have ax:n7 ls c=_:=T6 16 (nJ ls) c Di (λe=>ne (by have:=g5 ub e;unfold nJ at this;simpa using this)) (λu bx=>ar u.2 (by rw[<-Dh];exact a0L bx));refine⟨λi u hi aq bY=>?_,λaH=>?_⟩
 .have hf:(nJ ls).find? (λw=>du w.2 c.rest)=B (i,u):=by
   rw[aiK];have XS:=adP hi;obtain⟨bw,cy⟩:=ei.mp XS;refine⟨aq,i,bw,cy,λj xK=>?_⟩;have U':j<(nJ ls).length:=by omega
   have:=Y4 (ff U');rw[bY j _ xK this.2];rfl
  rw[ax,hf]
 have hf:(nJ ls).find? (λw=>du w.2 c.rest)=aa:=y2.mpr λu bx=>by rw[aH u.2 (by rw[<-Dh];exact a0L bx)];decide
 rw[ax,hf];dsimp only;unfold tq mT;rw[<-Dh,iL];rfl
def adR(eu:Hg.fg a H x aD b n)(bk:∀H',aw H H'->Holds K H' v (oH (ls.map hx)))(Di:uX (nJ ls))(ne:ls≠[])(ar:∀u∈ls.map hx,u.length<16)(O:∀i m,n7 ls (cE b n)=.ok (i,cE b m)->m<=b.length->xG a H x aD (.int ((i:Nat):Int)) m Q)(a5:∀k,n7 ls (cE b n)=.error k->oG a H x k E):HG K a [.ref x,v] H Q E:=by obtain⟨s1,s2⟩:=adQ Di ne ar (cE b n);refine⟨x,aD,b,n,v,ls.map hx,Y,eu,.inl bk,λu bx=>hv (IX (ar u bx) dQ),λi u hi aq bY=>?_,λaH=>a5 _ (s2 aH)⟩;have:=HJ aq;have aH:=eu.2.2;have z:=s1 i u hi aq bY;rw[vE]at z;exact O i _ z (by rw[m_]at this;omega)
end
structure Dj {br:Type} (S:a8) (ep:UInt8->Iw br) (d6:br->Nat) (dk:sl aS):Prop where
 hold:(S.cps.toList.map λ(c:Nat)=>V.str ⟨#[c]⟩)=oH dk
 one:∀(i:Nat) u,dk[i]? =B u->∃c k,u=[c]/\ep c=B k/\ho S.cps.toList (i:Int)=B (d6 k)
 none:∀c,(∀u∈dk,u≠[c])->ep c=none
def adS:Dj (".SX#" :a8) Qs Tf.eo [[46],[83],[88],[35]]:=by
 refine⟨dQ,λi u h=>?_,λc h=>?_⟩
 .match i,h with
  |0,h=>cases h;exact⟨46,.plain,Y,Y,dQ⟩
  |1,h=>cases h;exact⟨83,.seat,Y,Y,dQ⟩
  |2,h=>cases h;exact⟨88,.exit,Y,Y,dQ⟩
  |3,h=>cases h;exact⟨35,.wall,Y,Y,dQ⟩
  |i+4,h=>simp at h
 simp only[dz,rv,qD,ne_eq,forall_eq_or_imp,forall_eq,a0z,and_true]at h;unfold Qs;rw[aL (λz=>h.1 z.symm),aL (λz=>h.2.1 z.symm),aL (λz=>h.2.2.1 z.symm),aL (λz=>h.2.2.2 z.symm)]
def adT:Dj (".hmK" :a8) Qu Tf.pc [[46],[104],[109],[75]]:=by
 refine⟨dQ,λi u h=>?_,λc h=>?_⟩
 .match i,h with
  |0,h=>cases h;exact⟨46,.none,Y,Y,dQ⟩
  |1,h=>cases h;exact⟨104,.hunter,Y,Y,dQ⟩
  |2,h=>cases h;exact⟨109,.man,Y,Y,dQ⟩
  |3,h=>cases h;exact⟨75,.king,Y,Y,dQ⟩
  |i+4,h=>simp at h
 simp only[dz,rv,qD,ne_eq,forall_eq_or_imp,forall_eq,a0z,and_true]at h;unfold Qu;rw[aL (λz=>h.1 z.symm),aL (λz=>h.2.1 z.symm),aL (λz=>h.2.2.1 z.symm),aL (λz=>h.2.2.2 z.symm)]
def Y5{c:UInt8}:du [c] (b.drop n)=a9↔b[n]? =B c:=by
 have:(b.drop n).head? =b[n]?:=by simp
 rw[<-this];cases b.drop n with|nil=>simp[du]|cons y t=>simp[du];exact⟨λh=>h.symm,λh=>h.symm⟩
def Y6{b:aS}:∀{dk:sl aS},(∀u∈dk,cj b u=0)->mT dk b=0
 |[],_=>rfl
 |u::dk,h=>by have:=Y6 λt b9=>h t (eH u b9);unfold mT at this ⊢;rw[ir,a0F,h u (by simp),this];rfl
def adU{S:a8}{ep:UInt8->Iw br}{d6:br->Nat}{dk:sl aS}(aj:Dj S ep d6 dk)(h:∀u∈dk,du u (b.drop n)=aK):b[n]?.bind ep=aa/\mT dk (b.drop n)=0:=by
 have one:∀u∈dk,∃c,u=[c]:=λu bx=>by obtain⟨i,hi⟩:=AD bx;obtain⟨c,k,e,_⟩:=aj.one i u hi;exact⟨c,e⟩
 constructor
 .cases e:b[n]? with|none=>rfl|some c=>refine aj.none c λu bx z=>?_;have:=h u bx;rw[z,Y5.mpr e]at this;cases this
 have:∀u∈dk,cj (b.drop n) u=0:=λu bx=>by
  obtain⟨c,rfl⟩:=one u bx;have O:=Tf.zc (b.drop n) [c];have a5:=h [c] bx;have aG:cj (b.drop n) [c]≠[c].length:=λz=>by rw[(pC [c] (b.drop n)).mpr z]at a5;cases a5
  simp at O aG;omega
 exact Y6 this
def jX{GP d':I}{h6:sl (a8×V)}(h:H x=B (.ins C d fs))(h':H p=B (.ins GP d' h6))(n:fs.length≠h6.length):x≠p:=λz=>by subst z;rw[h]at h';cases h4 h';exact n Y
def f3{l:I}{vs:sl V}(h:H l=B (.lst vs))(h':H p=B (.ins C d fs)):l≠p:=λz=>by rw[z,h']at h;cases h
variable{v:mU}
section
variable{l m:I}{y:hg}{cv:sl hg}
def mV.ne(h:mV a H p v)(r:hP a H x aD n):p≠x:=by obtain⟨d,h⟩:=h;obtain⟨e,r⟩:=r;exact jX h r (by show(15:Nat)≠2;decide)
def mV.rl(h:mV a H p v)(r:hP a H x aD n)(s:df x H H'):mV a H' p v:=let q:=h.ne r;let⟨d,z⟩:=h;⟨d,s _ _ q z⟩
def ml.ne(h:ml a H m y)(r:hP a H x aD n):m≠x:=by obtain⟨d,h⟩:=h;obtain⟨e,r⟩:=r;exact jX h r (by show(3:Nat)≠2;decide)
def ml.rl(h:ml a H m y)(r:hP a H x aD n)(s:df x H H'):ml a H' m y:=let q:=h.ne r;let⟨d,z⟩:=h;⟨d,s _ _ q z⟩
def fN.rl(h:fN a H l cv)(r:hP a H x aD n)(s:df x H H'):fN a H' l cv:=by obtain⟨cY,O,a5,aG⟩:=h;obtain⟨_,ah⟩:=id r;exact⟨cY,s _ _ (f3 O ah) O,a5,λi m y bw cy=>(aG i m y bw cy).rl r s⟩
def fN.nil{l:I}(h:H l=B (.lst [])):fN a H l []:=⟨[],h,Y,λi m y q=>by simp at q⟩
def fN.more{cY:sl I}(O:H l=B (.lst (cY.map V.ref)))(a5:cY.length=cv.length)(aG:∀(i:Nat) m x,cY[i]? =B m->cv[i]? =B x->ml a H m x)(hm:H m=aa)(hd:H d=aa)(bV:d≠m):fN a (av (av (av H d (.own m)) m (.ins a.Mark d (X' y.1 y.2.1 y.2.2))) l (.lst (cY.map V.ref++[.ref m]))) l (cv++[y]):=by
 have adV:m≠l:=λz=>by rw[z,O]at hm;cases hm
 refine⟨cY++[m],by rw[b3,fO];rfl,by simp[a5],λi m' r' bw cy=>?_⟩;by_cases hi:i<cY.length
 .rw[l9 hi]at bw;rw[l9 (by lia)]at cy;obtain⟨a3,ah⟩:=aG i m' r' bw cy;have e3:m'≠l:=λz=>by rw[z,O]at ah;cases ah
  exact⟨a3,by rw[aM e3,aM (cV ah hm),aM (cV ah hd)];exact ah⟩
 rw[pR (by lia)]at bw;rw[pR (by lia)]at cy;obtain⟨j,e⟩:∃j,i-cY.length=j:=⟨_,Y⟩;rw[<-a5,e]at cy;rw[e]at bw;cases j with|zero=>cases bw;cases cy;exact⟨d,by rw[aM adV,b3]⟩|succ j=>simp at bw
end
def Y7(d6:br->Nat)(d:br)(high i p:Nat)(row:sl br):(qW d6 d high i p row).length<=row.length:=by unfold qW;exact dE (PI ..) (by rw[IS];exact cP _)
def N'(d6:br->Nat)(d:br)(high w:Nat)(cH:sl (sl br))(fK:sl Nat)(h:∀r∈cH,r.length=w):(k_ d6 d high cH fK).length<=cH.length*w:=by
 unfold k_;rw[List.length_flatMap];have:∀(l:sl Nat)(f:Nat->Nat),(∀i∈l,f i<=w)->(l.map f).sum<=l.length*w:=by
  intro l f;induction l with
  |nil=>intro _;simp
  |cons x l ih=>
   intro hf;have O:=hf x (by simp);have a5:=ih λi hi=>hf i (eH _ hi);rw[ir,IV,fX,IW]
   lia
 have z:=this (eI cH.length) (λi=>(qW d6 d high i (fK.getD i 0) (cH.getD i [])).length) λi hi=>by have hi:=fY.mp hi;refine dE (Y7 ..) ?_;rw[ua,ff hi];exact AJ (h _ (aiP ..))
 rw[IS]at z;exact z
def adW:("\n" :a8)=cm [10]:=by decide+kernel
def adX{S:a8}{ep:UInt8->Iw br}{d6:br->Nat}{dk:sl aS}(aj:Dj S ep d6 dk):S.length=dk.length:=by have:=g5 ub aj.hold;unfold oH at this;rw[cX,cX]at this;rw[<-this];rfl
inductive Y8 (a:b4) (vs:sl V) (H:ag) (Q:c2) (E:cW):Prop
 |mk:∀(br:Type)(S:a8)(ep:UInt8->Iw br)(d6:br->Nat)(d:br)(dk:sl aS)(x aD:I)(b:aS)(n:Nat)(p:I)(v:mU),(vs=[.ref x,.ref p,.str S])->Dj S ep d6 dk->dk.length<=1000->fg a H x aD b n->mV a H p v->v.wide<=13->v.high<=13->(∀l H' cH fK m,H l=aa->df x H H'->hP a H' x aD m->m<=b.length->oU ep v.wide v.high (cE b n)=.ok (cH,fK,cE b m)->fN a H' l (k_ d6 d v.high cH fK)->Q (.ref l) H')->(∀k,oU ep v.wide v.high (cE b n)=.error k->oG a H x k E)->Y8 a vs H Q E
def Y9(T:Txt K a6 a):dH P w K a6 base (pE P w) 5 "read_marks" ["reader","rules","signs"] (Y8 a):=by
 refine T.abc.kI zR ?_;rintro _ _ _ _ s H _ _ _ _ ak ⟨br,S,ep,d6,d,dk,x,aD,b,n,p,v,rfl,aj,adY,eu,bk,adZ,ale,cK,bJ⟩;refine⟨_,aC (cz (i:=3) zR.bj (fC az)) (aC (n_ AP Y (Bc Y T.z' (ao (bg (J 1) Y) az)) (h8 (i:=4) zR.bj) (aC (n_ AP Y (Bc Y T.z' (ao (bg (J 1) Y) az)) (h8 (i:=5) zR.bj) (aC (cz (i:=6) zR.bj (bg (J 0) Y)) (aC (cz (i:=7) zR.bj (dZ nr (J 2) (dR (rh T) (J 0) T.cO.1 ak.mono d_.passes (ao (J 2) az)) (λ_ _=>rfl))) (aX (d4 (d1 o6 (J 7) ek (cu _)) (aX (ea (q1 oP uf w3 t8 (J 3) (ao (pK (adK T) ak.mono Y T.pM.2 bu (ao (de o3 (de wB (cL T.qh Y) (de o4 (de o4 (bg (J 1) Y) cg) (J 4))) (J 5)) (ao (J 7) (ao (J 6) az)))) az)))) d9))))) (aX (ea (dR (jJ T) (J 0) T.cO.1 ak d_.passes (ao ek az)))))) (aX (bF (J 3)))),?_⟩;obtain⟨ri,fm,aH⟩:=id eu;have bV:=vD ri fm;have ae0:S.length<=cN:=by rw[adX aj];exact dE adY dQ
 refine⟨es _,λl ar=>?_⟩;have s1:aw H (av H l (.lst [])):=aw.new ar;obtain⟨_,O0⟩:=id (bk.rl ri (df.of s1));refine⟨p,_,_,_,_,Y,O0,T.dm.1,T.xt,Y,((v.high:Nat):Int),Y,(by lia),(by lia),?_⟩;refine R2 (lo:=0) (n:=v.high) (λi aN H'=>∃gc fE i4 nK cH fK m,aN=[B (.ref x),B (.ref p),B (.str S),B (.ref l),gc,fE,i4,nK]/\df x H H'/\hP a H' x aD m/\m<=b.length/\zi ep v.wide b n i cH fK m/\fN a H' l (k_ d6 d v.high cH fK))
  ⟨aa,aa,aa,aa,[],[],n,Y,df.of s1,(eu.same s1).1,aH,a6l _ _,fN.nil b3⟩ (λi aN H' _ bI=>?_) λaN H' bI=>?_
 .obtain⟨gc,fE,i4,nK,cH,fK,m,rfl,c5,l5,hm,Ae,xM⟩:=bI;have l2:(0:Int)+(i:Int)=(i:Int):=by lia
  rw[l2];obtain⟨je,ae1,ae2,_⟩:=id Ae;obtain⟨_,ae3⟩:=id (bk.rl ri c5);refine⟨p,_,_,_,_,Y,ae3,T.dm.1,T.zX,Y,((v.wide:Nat):Int),Y,(by lia),(by lia),?_⟩;refine R2 (lo:=0) (n:=v.wide) (λj aN H'=>∃fE i4 nK row,aN=[B (.ref x),B (.ref p),B (.str S),B (.ref l),B (.int (i:Int)),fE,i4,nK]/\df x H H'/\hP a H' x aD (m+j)/\m+j<=b.length/\zh ep b m j row/\fN a H' l (k_ d6 d v.high cH fK++qW d6 d v.high i m row))
   ⟨fE,i4,nK,[],Y,c5,l5,hm,a6i _,(by rw[show qW d6 d v.high i m []=[]from Y,hU];exact xM)⟩ (λj aN H' _ bI=>?_) λaN H' bI=>?_
  .obtain⟨fE,i4,nK,row,rfl,c5,oJ,md,tS,xM⟩:=bI;have rg:(0:Int)+(j:Int)=(j:Int):=by lia
   rw[rg];obtain⟨a3,ah⟩:=id oJ;have so:=c5 _ _ bV fm;refine⟨x,_,_,_,_,Y,ah,T.cO.1,T.jF,Y,x,_,_,Y,ah,Y,x,aD,b,m+j,.str S,dk,Y,⟨oJ,so,md⟩,.inl λ_ _=>.inr ⟨S,Y,aj.hold.symm⟩,λu bx=>?_,λc u bx aq _ au sq j0=>?_,λiE=>?_⟩
   .obtain⟨c,a7⟩:=AD bx;obtain⟨z,k,e,_⟩:=aj.one c u a7;rw[e];show 1<=1000;decide
   .obtain⟨z,k,rfl,aA,ke⟩:=aj.one c u bx;have aR:=Y5.mp aq;have Ya:=a6j tS aR aA;have eY:=(ei.mp aR).1;have oK:=c5.trans sq;have Yb:=xM.rl oJ sq;obtain⟨_,bw,cy,h9⟩:=id Yb;obtain⟨_,ae4⟩:=id (bk.rl ri oK);refine⟨S,_,_,Y,Y,ae0,ke,Y,_,Y,?_⟩;have b5:=a6o d6 d v.high i m row k;by_cases HL:d6 k=46
    .refine ec ?_ ⟨_,_,_,row++[k],Y,oK,j0,eY,Ya,?_⟩
     .rw[HL,show(⟨#[46]⟩:a8)="." from oD .none];simp
     rw[b5,aZ HL,hU];exact Yb
    have uW:(!decide (V.str ⟨#[d6 k]⟩=V.str "."))=a9:=by have:¬V.str ⟨#[d6 k]⟩=V.str "." :=λz=>HL (by have z:=V.str.inj z;rw[show("." :a8)=⟨#[46]⟩from(oD .none).symm]at z;have:=g5 (λ(s:a8)=>s.cps.toList) z;simpa using this);rw[gW this];rfl
    refine eR uW ⟨.inl ⟨Y,_,bo.of bw⟩,?_⟩;have j0:hP a au x aD (m+(j+1)):=j0;obtain⟨mi,hF⟩:=id j0;have ae5:l≠x:=f3 bw hF;refine⟨p,_,_,_,_,Y,ae4,T.dm.1,T.xt,Y,_,_,Y,Y,_,_,Y,Y,_,_,Y,Y,.inl ⟨dQ,dQ⟩,_,_,Y,Y,λmk Yc HM HN ae6=>⟨mk,Yc,_,_,_,Y,b3,Y,?_⟩⟩;rw[j5];have ae7:l≠mk:=cV bw HM;have ae8:l≠Yc:=cV bw HN;refine⟨l,_,_,Y,Y,(by rw[aM ae7,aM ae8];exact bw),?_,?_⟩
    .rw[cX,cy,dh];have O:=N' d6 d v.high v.wide cH fK ae2;have a5:=Y7 d6 d v.high i m row;have aG:row.length=j:=tS.1;have cJ:cH.length*v.wide<=13*13:=a0X (by lia) adZ;exact gE (by lia)
    refine⟨_,_,_,row++[k],Y,λc u a7 q=>?_,⟨mi,?_⟩,eY,Ya,?_⟩
    .have z:=oK c u a7 q;rw[aM (cV q ar),aM (cV z HM),aM (cV z HN)];exact z
    .rw[aM (ej ae5),aM (cV hF HM),aM (cV hF HN)];exact hF
    rw[b5,aL HL,<-lP];have aO:(13:Int)*(((v.high:Nat):Int)-1-(i:Int))+(j:Int)=((13*(v.high-1-i)+row.length:Nat):Int):=by have:=tS.1;lia
    have aT:((m+j:Nat):Int)=((m+row.length:Nat):Int):=by rw[tS.1]
    have z:=fN.more (y:=(13*(v.high-1-i)+row.length,d6 k,m+row.length)) bw cy h9 HM HN ae6
    skip
    rw[aO,aT];exact z
   obtain⟨hK,g8⟩:=adU aj iE;have aO:=a6k tS hK (v.wide-j-1);rw[show j+(v.wide-j-1+1)=v.wide by lia]at aO;have aT:=TC Ae aO (v.high-i-1);rw[show i+(v.high-i-1+1)=v.high by lia]at aT;rw[g8];exact λdV bc oK hd=>bJ (m+j) aT dV bc (c5.trans oK) hd
  obtain⟨fE,i4,nK,row,rfl,c5,oJ,md,tS,xM⟩:=bI;obtain⟨a3,ah⟩:=id oJ;have so:=c5 _ _ bV fm;refine⟨x,_,_,Y,ah,Y,HK ⟨oJ,so,md⟩ adW dQ (λm' h ae9 au sq j0=>?_) (λk h=>?_)⟩
  .have O1:nS ep v.wide (hO b m)=.ok (row,hO b m'):=(TB tS).trans (by rw[show eD [lg] (hO b (m+v.wide))=_ from h];rfl);refine⟨_,_,_,_,cH++[row],fK++[m],m',Y,c5.trans sq,j0,ae9,a6m Ae O1 tS.1,?_⟩;rw[a6p _ _ _ _ _ _ _ (ae1.trans je.symm),je];exact xM.rl oJ sq
  have O1:nS ep v.wide (hO b m)=.error k:=(TB tS).trans (by rw[show eD [lg] (hO b (m+v.wide))=_ from h];rfl);have aT:=TC Ae O1 (v.high-i-1);rw[show i+(v.high-i-1+1)=v.high by lia]at aT;exact λdV bc oK hd=>bJ k aT dV bc (c5.trans oK) hd
 obtain⟨gc,fE,i4,nK,cH,fK,m,rfl,c5,l5,hm,Ae,xM⟩:=bI;exact(cK l H' cH fK m ar c5 l5 hm (a6n Ae) xM)
def hh(S:sl I)(H H':ag):Prop:=∀c u,c∉S->H c=B u->H' c=B u
def hh.refl(S:sl I)(H:ag):hh S H H:=λ_ _ _ q=>q
variable{S:sl I}
def hh.trans(s:hh S H ai)(t:hh S ai au):hh S H au:=λc u n q=>t c u n (s c u n q)
def hh.nL(s:hh S H ai)(ah:x∈S)(t:df x ai au):hh S H au:=λc u n q=>t c u (λz=>n (z ▸ ah)) (s c u n q)
def hh.put(s:hh S H ai)(aq:p∈S):hh S H (av ai p o):=λc u n q=>by rw[aM (λz:c=p=>n (by rw[z];exact aq))];exact s c u n q
def Dk(a:b4)(H:ag)(S:sl I)(n:Nat)(E:cW):Prop:=∀a3 H',hh S H H'->H' a3=B (gs a3 [("place",.int (n:Int))])->E (.ref a.mg) (B a3) H'
structure mm (a:b4) (H0:ag) (S:sl I) (x aD:I) (b:aS) (p:I) (k3:sl (I×dA)) (m:Nat) (v:mU) (H:ag):Prop where
 cI:hh S H0 H
 cF:Hg.fg a H x aD b m
 cB:mV a H p v
 xs:x∈S
 aJ:p∈S
 cG:∀q∈k3,q.1≠x/\q.1≠p/\H q.1=B q.2
variable{H0:ag}{k3:sl (I×dA)}{m':Nat}
section
variable{kR:mU}
def mm.go(D:mm a H0 S x aD b p k3 m v H)(s:df x H H')(r:hP a H' x aD m')(hm:m'<=b.length):mm a H0 S x aD b p k3 m' v H':=
 ⟨D.cI.nL D.xs s,⟨r,s _ _ (vD D.cF.1 D.cF.2.1) D.cF.2.1,hm⟩,D.cB.rl D.cF.1 s,D.xs,D.aJ,λq aQ=>⟨(D.cG q aQ).1,(D.cG q aQ).2.1,s _ _ (D.cG q aQ).1 (D.cG q aQ).2.2⟩⟩
def mm.put(D:mm a H0 S x aD b p k3 m v H){dv:I}(kR:mU):mm a H0 S x aD b p k3 m kR (av H p (.ins a.Rules dv (hQ kR))):=by
 have e3:=D.cB.ne D.cF.1;obtain⟨_,b8⟩:=D.cB;have cS:aD≠p:=λz=>by have:=D.cF.2.1;rw[z,b8]at this;cases this
 obtain⟨⟨a3,ah⟩,ax,hm⟩:=D.cF;exact⟨D.cI.put D.aJ,⟨⟨a3,by rw[aM (ej e3)];exact ah⟩,by rw[aM cS];exact ax,hm⟩,⟨dv,b3⟩,D.xs,D.aJ,λq aQ=>⟨(D.cG q aQ).1,(D.cG q aQ).2.1,by rw[aM (D.cG q aQ).2.1];exact(D.cG q aQ).2.2⟩⟩
end
structure tT (ls:sl String) (vs:sl V):Prop where
 hold:oH (ls.map hx)=vs:=by decide+kernel
 Di:uX (nJ ls):=by unfold uX;decide+kernel
 ne:ls≠[]:=by decide
 ar:∀u∈ls.map hx,u.length<16:=by decide+kernel
def aea:tT ["hunters","king"] [.str "hunters",.str "king"]:={}
def aeb:tT ["steps","slides"] [.str "steps",.str "slides"]:={}
def aec:tT ["bare","armed"] [.str "bare",.str "armed"]:={}
def aed:tT ["two","four"] [.str "two",.str "four"]:={}
def aee:tT ["barred","passed"] [.str "barred",.str "passed"]:={}
def Yd:tT a20 [.str "quiet",.str "hunters",.str "men",.str "all"]:={}
def aef:tT ["edge","exits"] [.str "edge",.str "exits"]:={}
def aeg:tT ["drawn","hunters","king"] [.str "drawn",.str "hunters",.str "king"]:={}
variable{k':Type}
section
variable{t:I}{w:aS}{aj:Except Nat k'}
def qp{f:eV->Except Nat k'}(D:mm a H0 S x aD b p k3 m v H)(aY:aj=(eD w (cE b m)>>=f))(e:z=cm w)(ar:w.length<=1000)(ok:∀m' au,mm a H0 S x aD b p k3 m' v au->aj=f (cE b m')->Q .bR au)(mn:∀k,aj=.error k->Dk a H0 S k E):D6 a [.ref x,.str z] H Q E:=
 HK D.cF e ar (λm' h hm au c5 ak=>ok m' au (D.go c5 ak hm) (aY.trans (nA h))) λk h a3 au c5 hd=>mn k (aY.trans (m9 h)) a3 au (D.cI.nL D.xs c5) hd
def tU{vs:sl V}{f:Nat×eV->Except Nat k'}(D:mm a H0 S x aD b p k3 m v H)(aY:aj=(n7 ls (cE b m)>>=f))(W:tT ls vs)(b9:∀H,dt K H t vs)(ok:∀(i m':Nat) au,i<ls.length->mm a H0 S x aD b p k3 m' v au->aj=f (i,cE b m')->Q (.int (i:Int)) au)(mn:∀k,aj=.error k->Dk a H0 S k E):HG K a [.ref x,.ref t] H Q E:=
 adR D.cF (λH' _=>.inl ⟨t,Y,by rw[W.hold];exact b9 H'⟩) W.Di W.ne W.ar (λi m' h hm au c5 ak=>ok i m' au (zd h) (D.go c5 ak hm) (aY.trans (nA h))) λk h a3 au c5 hd=>mn k (aY.trans (m9 h)) a3 au (D.cI.nL D.xs c5) hd
def aeh{f:Nat×eV->Except Nat k'}(D:mm a H0 S x aD b p k3 m v H)(aY:aj=(uz lo hi (cE b m)>>=f))(bT:hi<100000)(ok:∀(i m':Nat) au,mm a H0 S x aD b p k3 m' v au->aj=f (i,cE b m')->Q (.int (i:Int)) au)(mn:∀k,aj=.error k->Dk a H0 S k E):NU a [.ref x,.int (lo:Int),.int (hi:Int)] H Q E:=
 ⟨x,aD,b,m,lo,hi,Y,D.cF,bT,λi m' h hm au c5 ak=>ok i m' au (D.go c5 ak hm) (aY.trans (nA h)),λk h a3 au c5 hd=>mn k (aY.trans (m9 h)) a3 au (D.cI.nL D.xs c5) hd⟩
end
noncomputable def O2(v:mU)(k:C1):mU:={v with first:=k.f,slides:=k.cK,armed:=k.bJ,four:=k.eh,passed:=k.s1,seat:=k.s2,exits:=k.x}
structure Ye (k:C1):Prop where
 cK:k.cK<2
 bJ:k.bJ<2
 eh:k.eh<2
 s1:k.s1<2
def aei(a:b4):bN:=λvs H Q E=>jD λx aD b n p v=>mQ (vs=[.ref x,.ref p]) (fg a H x aD b n) (mV a H p v) ((∀k m H',zl (cE b n)=.ok (k,cE b m)->Ye k->hh [x,p] H H'->fg a H' x aD b m->mV a H' p (O2 v k)->Q .bR H')) ((∀k,zl (cE b n)=.error k->Dk a H [x,p] k E))
def aej(T:Txt K a6 a):dH P w K a6 base (pE P w) 5 "read_customs" ["reader","rules"] (aei a):=by refine T.abe.kI a9z ?_;rintro f bU A _ s H _ _ _ _ ak ⟨x,aD,b,n,p,v,rfl,eu,bk,cK,bJ⟩;have aG:dp 3 (A.deeper (fH "read_customs" (bh MR) s⁻¹ f bU)):=ak.mono;refine⟨_,aC (ea (dR (jJ T) (J 0) T.cO.1 ak d_.passes (ao ek az))) (aC (e2 (J 1) (dR (rh T) (J 0) T.cO.1 aG d_.passes (ao (mf T.Cy.1 Y) az)) Y) (aC (ea (dR (jJ T) (J 0) T.cO.1 ak d_.passes (ao ek az))) (aC (e2 (J 1) (dR (rh T) (J 0) T.cO.1 aG d_.passes (ao (mf T.Cz.1 Y) az)) Y) (aC (ea (dR (jJ T) (J 0) T.cO.1 ak d_.passes (ao ek az))) (aC (e2 (J 1) (dR (rh T) (J 0) T.cO.1 aG d_.passes (ao (mf T.CA.1 Y) az)) Y) (aC (ea (dR (jJ T) (J 0) T.cO.1 ak d_.passes (ao ek az))) (aC (e2 (J 1) (dR (rh T) (J 0) T.cO.1 aG d_.passes (ao (mf T.CB.1 Y) az)) Y) (aC (ea (dR (jJ T) (J 0) T.cO.1 ak d_.passes (ao ek az))) (aC (e2 (J 1) (dR (rh T) (J 0) T.cO.1 aG d_.passes (ao (mf T.CC.1 Y) az)) Y) (aC (ea (dR (jJ T) (J 0) T.cO.1 ak d_.passes (ao ek az))) (aC (e2 (J 1) (dR (rh T) (J 0) T.cO.1 aG d_.passes (ao (mf T.xr.1 Y) az)) Y) (aC (ea (dR (jJ T) (J 0) T.cO.1 ak d_.passes (ao ek az))) (aC (e2 (J 1) (dR (rh T) (J 0) T.cO.1 aG d_.passes (ao (mf T.xr.1 Y) az)) Y) (aX (ea (dR (jJ T) (J 0) T.cO.1 ak d_.passes (ao ek az))))))))))))))))),?_⟩;have D:mm a H [x,p] x aD b p [] n v H:=⟨hh.refl _ _,eu,bk,by simp,by simp,λq aQ=>nomatch aQ⟩;have aY:zl (cE b n)=zl (cE b n):=rfl;obtain⟨a3,ah⟩:=id D.cF.1;refine⟨x,_,_,Y,ah,Y,qp (w:=hx "first ") D aY dQ dQ (λhA ai D aY=>?_) bJ⟩;obtain⟨a3,ah⟩:=id D.cF.1;refine⟨x,_,_,Y,ah,Y,tU D aY aea T.Cy.2 (λdU hA ai _ D aY=>?_) bJ⟩;obtain⟨dv,bk⟩:=id D.cB;refine⟨p,_,_,_,Y,bk,T.dm.1,T.Nm,pY,?_⟩;have D:=D.put (dv:=dv) {v with first:=dU};obtain⟨a3,ah⟩:=id D.cF.1;refine⟨x,_,_,Y,ah,Y,qp (w:=hx "\nking ") D aY dQ dQ (λhA ai D aY=>?_) bJ⟩;obtain⟨a3,ah⟩:=id D.cF.1;refine⟨x,_,_,Y,ah,Y,tU D aY aeb T.Cz.2 (λf2 hA ai Yf D aY=>?_) bJ⟩;obtain⟨dv,bk⟩:=id D.cB;refine⟨p,_,_,_,Y,bk,T.dm.1,T.Nn,pY,?_⟩;have D:=D.put (dv:=dv) {v with first:=dU,slides:=f2};obtain⟨a3,ah⟩:=id D.cF.1;refine⟨x,_,_,Y,ah,Y,qp (w:=[32]) D aY dQ dQ (λhA ai D aY=>?_) bJ⟩;obtain⟨a3,ah⟩:=id D.cF.1;refine⟨x,_,_,Y,ah,Y,tU D aY aec T.CA.2 (λdx hA ai HO D aY=>?_) bJ⟩;obtain⟨dv,bk⟩:=id D.cB;refine⟨p,_,_,_,Y,bk,T.dm.1,T.CU,pY,?_⟩;have D:=D.put (dv:=dv) {v with first:=dU,slides:=f2,armed:=dx};obtain⟨a3,ah⟩:=id D.cF.1;refine⟨x,_,_,Y,ah,Y,qp (w:=[32]) D aY dQ dQ (λhA ai D aY=>?_) bJ⟩;obtain⟨a3,ah⟩:=id D.cF.1;refine⟨x,_,_,Y,ah,Y,tU D aY aed T.CB.2 (λfh hA ai aek D aY=>?_) bJ⟩;obtain⟨dv,bk⟩:=id D.cB;refine⟨p,_,_,_,Y,bk,T.dm.1,T.Np,pY,?_⟩;have D:=D.put (dv:=dv) {v with first:=dU,slides:=f2,armed:=dx,four:=fh};obtain⟨a3,ah⟩:=id D.cF.1;refine⟨x,_,_,Y,ah,Y,qp (w:=hx "\nseat ") D aY dQ dQ (λhA ai D aY=>?_) bJ⟩;obtain⟨a3,ah⟩:=id D.cF.1;refine⟨x,_,_,Y,ah,Y,tU D aY aee T.CC.2 (λfi hA ai Af D aY=>?_) bJ⟩;obtain⟨dv,bk⟩:=id D.cB;refine⟨p,_,_,_,Y,bk,T.dm.1,T.Ha,pY,?_⟩;have D:=D.put (dv:=dv) {v with first:=dU,slides:=f2,armed:=dx,four:=fh,passed:=fi};obtain⟨a3,ah⟩:=id D.cF.1;refine⟨x,_,_,Y,ah,Y,qp (w:=[32]) D aY dQ dQ (λhA ai D aY=>?_) bJ⟩;obtain⟨a3,ah⟩:=id D.cF.1;refine⟨x,_,_,Y,ah,Y,tU D aY Yd T.xr.2 (λO3 hA ai _ D aY=>?_) bJ⟩;obtain⟨dv,bk⟩:=id D.cB;refine⟨p,_,_,_,Y,bk,T.dm.1,T.Hb,pY,?_⟩;have D:=D.put (dv:=dv) {v with first:=dU,slides:=f2,armed:=dx,four:=fh,passed:=fi,seat:=O3};obtain⟨a3,ah⟩:=id D.cF.1;refine⟨x,_,_,Y,ah,Y,qp (w:=hx "\nexits ") D aY dQ dQ (λhA ai D aY=>?_) bJ⟩;obtain⟨a3,ah⟩:=id D.cF.1;refine⟨x,_,_,Y,ah,Y,tU D aY Yd T.xr.2 (λAg hA ai _ D aY=>?_) bJ⟩;obtain⟨dv,bk⟩:=id D.cB;refine⟨p,_,_,_,Y,bk,T.dm.1,T.Nq,pY,?_⟩;have D:=D.put (dv:=dv) {v with first:=dU,slides:=f2,armed:=dx,four:=fh,passed:=fi,seat:=O3,exits:=Ag};obtain⟨a3,ah⟩:=id D.cF.1;refine⟨x,_,_,Y,ah,Y,qp (w:=[10]) D aY dQ dQ (λhA ai D aY=>?_) bJ⟩;exact cK ⟨dU,f2,dx,fh,fi,O3,Ag⟩ hA ai aY ⟨Yf,HO,aek,Af⟩ D.cI D.cF D.cB
def mm.dput{cn:I}(D:mm a H0 S x aD b p [(cn,o)] m v H)(hd:cn∈S)(ax:aD≠cn)(h5:dA):mm a H0 S x aD b p [(cn,h5)] m v (av H cn h5):=by
 obtain⟨e3,cS,h⟩:=D.cG (cn,o) (by simp);obtain⟨⟨a3,ah⟩,ael,hm⟩:=D.cF;obtain⟨dv,bk⟩:=D.cB;exact⟨D.cI.put hd,⟨⟨a3,by rw[aM (ej e3)];exact ah⟩,by rw[aM ax];exact ael,hm⟩,⟨dv,by rw[aM (ej cS)];exact bk⟩,D.xs,D.aJ,λq aQ=>by
  have e:q=(cn,h5):=by simpa using aQ
  rw[e];exact⟨e3,cS,b3⟩⟩
noncomputable def O4(v:mU)(e:Tf.Ends):mU:={v with goal:=e.o,thrice:=e.t,limit:=e.l}
inductive Yg (a:b4) (vs:sl V) (H:ag) (Q:c2) (E:cW):Prop
 |mk x aD b n p v cn dd len g s lD:vs=[.ref x,.ref cn]->fg a H x aD b n->mV a H p v->H cn=B (.ins a.g_ dd (iq p len g s lD))->(∀e m H',x2 (cE b n)=.ok (e,cE b m)->hh [x,p,cn] H H'->fg a H' x aD b m->mV a H' p (O4 v e)->H' cn=B (.ins a.g_ dd (iq p len g s e.p))->Q .bR H')->(∀k,x2 (cE b n)=.error k->Dk a H [x,p,cn] k E)->Yg a vs H Q E
def aem(T:Txt K a6 a):dH P w K a6 base (pE P w) 5 "read_ends" ["reader","draft"] (Yg a):=by
 refine T.abf.kI W_ ?_;rintro f bU A _ s H _ _ _ _ ak ⟨x,aD,b,n,p,v,cn,dd,len,g,st,lD,rfl,eu,bk,dS,cK,bJ⟩;have aG:dp 3 (A.deeper (fH "read_ends" (bh MS) s⁻¹ f bU)):=ak.mono;refine⟨_,aC (cz (i:=2) W_.bj (bg (J 1) Y)) (aC (ea (dR (jJ T) (J 0) T.cO.1 ak d_.passes (ao ek az))) (aC (e2 (J 1) (bg (J 0) Y) Y) (aC (e2 (J 2) (dR (rh T) (J 0) T.cO.1 aG d_.passes (ao (mf T.CD.1 Y) az)) Y) (aC (ea (dR (jJ T) (J 0) T.cO.1 ak d_.passes (ao ek az))) (aC (e2 (J 2) (dR (rh T) (J 0) T.cO.1 aG d_.passes (ao (mf T.CE.1 Y) az)) Y) (aC (ea (dR (jJ T) (J 0) T.cO.1 ak d_.passes (ao ek az))) (aC (e2 (J 2) (dR (NV T) (J 0) T.cO.1 aG d_.passes (ao cg (ao (cL T.aag Y) az))) Y) (aX (ea (dR (jJ T) (J 0) T.cO.1 ak d_.passes (ao ek az))))))))))),?_⟩;obtain⟨dv,O0⟩:=id bk;obtain⟨a3,ah⟩:=id eu.1;have e3:cn≠x:=jX dS ah (by show(5:Nat)≠2;decide);have cS:cn≠p:=jX dS O0 (by show(5:Nat)≠15;decide);have gg:aD≠cn:=λz=>by have:=eu.2.1;rw[z,dS]at this;cases this
 have D:mm a H [x,p,cn] x aD b p [(cn,.ins a.g_ dd (iq p len g st lD))] n v H:=⟨hh.refl _ _,eu,bk,by simp,by simp,λq aQ=>by
  have e:q=(cn,.ins a.g_ dd (iq p len g st lD)):=by simpa using aQ
  rw[e];exact⟨e3,cS,dS⟩⟩
 have aY:x2 (cE b n)=x2 (cE b n):=rfl;refine⟨cn,_,_,_,_,Y,dS,T.jG.1,T.zZ,Y,x,_,_,Y,ah,Y,qp (w:=hx "goal ") D aY dQ dQ (λia ai D aY=>?_) bJ⟩;obtain⟨a3,ah⟩:=id D.cF.1;obtain⟨_,_,dS⟩:=D.cG _ (jY.mpr Y);refine⟨x,_,_,_,_,Y,ah,T.cO.1,T.jF,Y,cn,_,_,_,Y,dS,T.jG.1,T.Hm,B2,?_⟩;have D:=D.dput (by simp) gg (.ins a.g_ dd (iq p len g st ia));obtain⟨a3,ah⟩:=id D.cF.1;refine⟨x,_,_,Y,ah,Y,tU D aY aef T.CD.2 (λdU hA ai _ D aY=>?_) bJ⟩;obtain⟨dv,bk⟩:=id D.cB;refine⟨p,_,_,_,Y,bk,T.dm.1,T.CV,pY,?_⟩;have D:=D.put (dv:=dv) {v with goal:=dU};obtain⟨a3,ah⟩:=id D.cF.1;refine⟨x,_,_,Y,ah,Y,qp (w:=hx "\nthrice ") D aY dQ dQ (λhA ai D aY=>?_) bJ⟩;obtain⟨a3,ah⟩:=id D.cF.1;refine⟨x,_,_,Y,ah,Y,tU D aY aeg T.CE.2 (λf2 hA ai _ D aY=>?_) bJ⟩;obtain⟨dv,bk⟩:=id D.cB;refine⟨p,_,_,_,Y,bk,T.dm.1,T.Nr,pY,?_⟩;have D:=D.put (dv:=dv) {v with goal:=dU,thrice:=f2};obtain⟨a3,ah⟩:=id D.cF.1;refine⟨x,_,_,Y,ah,Y,qp (w:=hx "\nlimit ") D aY dQ dQ (λhA ai D aY=>?_) bJ⟩;obtain⟨a3,ah⟩:=id D.cF.1;refine⟨x,_,_,Y,ah,Y,aeh (lo:=1) (hi:=60000) D aY dQ (λdx hA ai D aY=>?_) bJ⟩;obtain⟨dv,bk⟩:=id D.cB;refine⟨p,_,_,_,Y,bk,T.dm.1,T.Nt,pY,?_⟩;have D:=D.put (dv:=dv) {v with goal:=dU,thrice:=f2,limit:=dx};obtain⟨a3,ah⟩:=id D.cF.1;refine⟨x,_,_,Y,ah,Y,qp (w:=[10]) D aY dQ dQ (λhA ai D aY=>?_) bJ⟩;exact cK ⟨dU,ia,f2,dx⟩ hA ai aY D.cI D.cF D.cB (D.cG _ (jY.mpr Y)).2.2
def vF(b:Bool):Nat:=if b=a9 then 1 else 0
def HP(h:k<2):vF (k==1)=k:=by
 match k,h with
 |0,_=>rfl
 |1,_=>rfl
def tV(n:I)(r:f5):mU:=⟨n,r.wide,r.high,dC (Tf.fa r),dC (Tf.gT r),r.first,vF r.slides,vF r.armed,vF r.four,vF r.passed,r.seat,r.exits,r.goal,r.thrice,r.limit⟩
variable{nl:I}
def aen{nm:aS}{w h:Nat}{g:sl (sl EF)}{lD:sl Nat}{s:sl (sl lh)}{sp:sl Nat}{k:C1}{e:Tf.Ends}(Dl:r=Ge nm w h g lD s sp k e)(aj:hc r)(C:Ye k):O4 (O2 {ht nl w h with ground:=dC (rk (k_ Tf.eo EG h g lD)),rj:=dC (rk (k_ Tf.pc EH h s sp))} k) e=tV nl r:=by have aO:=a6r aj;have aT:=a6s aj;unfold tV;rw[<-aO,<-aT];subst Dl;unfold O4 O2 Ge ht;dsimp only;rw[HP C.cK,HP C.bJ,HP C.eh,HP C.s1];rfl
def O5{d6:br->Nat}{d:br}{high w:Nat}{cH:sl (sl br)}{fK:sl Nat}(ar:cH.length=high)(hw:∀r∈cH,r.length=w)(O:high<=13)(a5:w<=13):∀m∈k_ d6 d high cH fK,m.1<169:=by
 intro m hm;rw[M3 d6 d ar hw,v_]at hm;obtain⟨q,aQ,e⟩:=hm;obtain⟨i,hi,aQ⟩:=AG.mp aQ;obtain⟨y,bl,rfl⟩:=fG.mp aQ;have hi:=fY.mp hi;have bl:=fY.mp bl;split at e
 .cases e
 cases e;show 13*(high-1-i)+y<169;omega
def Dm(a:b4)(H:ag)(n:Nat)(E:cW):Prop:=∀a3 H',aw H H'->H' a3=B (gs a3 [("place",.int (n:Int))])->E (.ref a.mg) (B a3) H'
def vG{l:I}{vs:sl V}(h:hP a H x aD n)(a5:H l=B (.lst vs)):l≠x:=λz=>by obtain⟨_,h⟩:=h;rw[z,h]at a5;cases a5
structure lM (a:b4) (H0:ag) (x aD:I) (b:aS) (m:Nat) (L:sl (I×sl V)) (H:ag):Prop where
 aE:aw H0 H
 cF:Hg.fg a H x aD b m
 fr:H0 x=aa
 ls:∀q∈L,H q.1=B (.lst q.2)
section
variable{w:aS}{aj:Except Nat k'}{L:sl (I×sl V)}
def aw.nL(s:aw H0 H)(h:H0 x=aa)(t:df x H H'):aw H0 H':=λc u q=>t c u (cV q h) (s c u q)
def lM.go(D:lM a H0 x aD b m L H)(s:df x H H')(r:hP a H' x aD m')(hm:m'<=b.length):lM a H0 x aD b m' L H':=⟨aw.nL D.aE D.fr s,⟨r,s _ _ (vD D.cF.1 D.cF.2.1) D.cF.2.1,hm⟩,D.fr,λq aQ=>s _ _ (vG D.cF.1 (D.ls q aQ)) (D.ls q aQ)⟩
def lM.same(D:lM a H0 x aD b m L H)(s:aw H H'):lM a H0 x aD b m L H':=⟨D.aE.trans s,D.cF.same s,D.fr,λq aQ=>s _ _ (D.ls q aQ)⟩
def Dn{f:eV->Except Nat k'}(D:lM a H0 x aD b m L H)(aY:aj=(eD w (cE b m)>>=f))(e:z=cm w)(ar:w.length<=1000)(ok:∀m' au,lM a H0 x aD b m' L au->df x H au->aj=f (cE b m')->Q .bR au)(mn:∀k,aj=.error k->Dm a H0 k E):D6 a [.ref x,.str z] H Q E:=
 HK D.cF e ar (λm' h hm au c5 ak=>ok m' au (D.go c5 ak hm) c5 (aY.trans (nA h))) λk h a3 au c5 hd=>mn k (aY.trans (m9 h)) a3 au (aw.nL D.aE D.fr c5) hd
def Yh{f:Nat×eV->Except Nat k'}(D:lM a H0 x aD b m L H)(aY:aj=(uz lo hi (cE b m)>>=f))(bT:hi<100000)(ok:∀(i m':Nat) au,lo<=i/\i<=hi->lM a H0 x aD b m' L au->aj=f (i,cE b m')->Q (.int (i:Int)) au)(mn:∀k,aj=.error k->Dm a H0 k E):NU a [.ref x,.int (lo:Int),.int (hi:Int)] H Q E:=
 ⟨x,aD,b,m,lo,hi,Y,D.cF,bT,λi m' h hm au c5 ak=>ok i m' au (G3 bT h) (D.go c5 ak hm) (aY.trans (nA h)),λk h a3 au c5 hd=>mn k (aY.trans (m9 h)) a3 au (aw.nL D.aE D.fr c5) hd⟩
def aeo{f:aS×eV->Except Nat k'}(D:lM a H0 x aD b m L H)(aY:aj=(qB (cE b m)>>=f))(ok:∀(nm:aS)(m':Nat) nl au,H0 nl=aa->lM a H0 x aD b m' ((nl,cA nm)::L) au->df x H au->aj=f (nm,cE b m')->Q (.ref nl) au)(mn:∀k,aj=.error k->Dm a H0 k E):NX a [.ref x] H Q E:=
 ⟨x,aD,b,m,Y,D.cF,λk N h l au ar c5 ak hp=>ok _ _ l au (D.aE.free ar) (let d5:=D.go c5 ak N.pl;⟨d5.aE,d5.cF,d5.fr,λq aQ=>by
  obtain e|z:=dz.mp aQ
  .rw[e];exact hp
  exact d5.ls q z⟩) c5 (aY.trans (nA h)),λh a3 au c5 hd=>mn m (aY.trans (m9 h)) a3 au (aw.nL D.aE D.fr c5) hd⟩
end
section
variable{cn l s dd:I}{len lD:Nat}{cv:sl hg}
def fN.Yi(h:fN a H l cv)(ar:l∉S)(hm:∀m y,ml a H m y->m∉S)(t:hh S H H'):fN a H' l cv:=by obtain⟨cY,O,a5,aG⟩:=h;refine⟨cY,t _ _ ar O,a5,λi m y bw cy=>?_⟩;have z:=aG i m y bw cy;have s8:=hm m y z;obtain⟨d,e⟩:=z;exact⟨d,t _ _ s8 e⟩
def fN.Yj(h:fN a H l cv)(r:hP a H x aD n)(cB:mV a H p v)(t:hh [x,p] H H'):fN a H' l cv:=by
 obtain⟨_,O,_⟩:=id h;obtain⟨_,ah⟩:=id r;obtain⟨_,bk⟩:=cB;refine h.Yi ?_ (λm y hm=>?_) t
 .have:=f3 O ah;have:=f3 O bk;simp[*]
 have hK:=hm.ne r;obtain⟨d,e⟩:=hm;have:=jX e bk (by show(3:Nat)≠15;decide);simp[*]
def fN.Yk(h:fN a H l cv)(r:hP a H x aD n)(cB:mV a H p v)(hd:H cn=B (.ins a.g_ dd (iq p len g s lD)))(t:hh [x,p,cn] H H'):fN a H' l cv:=by
 obtain⟨_,O,_⟩:=id h;obtain⟨_,ah⟩:=id r;obtain⟨_,bk⟩:=cB;refine h.Yi ?_ (λm y hm=>?_) t
 .have:=f3 O ah;have:=f3 O bk;have:=f3 O hd;simp[*]
 have hK:=hm.ne r;obtain⟨d,e⟩:=hm;have:=jX e bk (by show(3:Nat)≠15;decide);have:=jX e hd (by show(3:Nat)≠5;decide);simp[*]
def fN.put(h:fN a H l cv)(aq:H p=B (.ins C dd fs))(hf:fs.length≠3):fN a (av H p o) l cv:=by obtain⟨cY,O,a5,aG⟩:=h;refine⟨cY,by rw[aM (f3 O aq)];exact O,a5,λi m y bw cy=>?_⟩;obtain⟨d,e⟩:=aG i m y bw cy;exact⟨d,by rw[aM (jX e aq (λz=>hf z.symm))];exact e⟩
def fg.put(h:Hg.fg a H x aD b m)(aq:H p=B (.ins C dd fs))(hf:fs.length≠2):Hg.fg a (av H p o) x aD b m:=by obtain⟨⟨a3,ah⟩,ax,hm⟩:=h;exact⟨⟨a3,by rw[aM (jX ah aq (λz=>hf z.symm))];exact ah⟩,by rw[aM (f3 ax aq)];exact ax,hm⟩
end
inductive Ah (a:b4) (H:ag) (cn:I) (p:I×I) (len:Nat) (r:f5):Prop
 |mk g s dd:H cn=B (.ins a.g_ dd (iq p.1 len g s r.goalAt))->mV a H p.1 (tV p.2 r)->fN a H g (oq r)->fN a H s (Tf.aE r)->Ah a H cn p len r
def O6(a:b4)(H:ag)(cn:I)(len:Nat)(r:f5):Prop:=∃p,Ah a H cn p len r
def aep(a:b4):bN:=λvs H Q E=>sf λaD b=>jE (vs=[.ref aD]) (H aD=B (.lst (cA b))) ((∀r cn p H',pV b=.ok r->H p.1=aa->H p.2=aa->aw H H'->Ah a H' cn p b.length r->H' p.2=B (.lst (cA r.name))->Q (.ref cn) H')) ((∀k,pV b=.error k->Dm a H k E))
def lM.put{dd:I}{L:sl (I×sl V)}(D:lM a H0 x aD b m L H)(b8:H0 p=aa)(aq:H p=B (.ins C dd fs))(hf:fs.length≠2):lM a H0 x aD b m L (av H p o):=
 ⟨λc u q=>by rw[aM (cV q b8)];exact D.aE c u q,D.cF.put aq hf,D.fr,λq aQ=>by rw[aM (f3 (D.ls q aQ) aq)];exact D.ls q aQ⟩
def aw.HQ(s:aw H0 H)(h:∀c∈S,H0 c=aa)(t:hh S H H'):aw H0 H':=λc u q=>t c u (λz=>by rw[h c z]at q;cases q) (s c u q)
def aeq(T:Txt K a6 a):dH P w K a6 base (pE P w) 6 "read_draft" ["source"] (aep a):=by
 refine T.abb.kI xq ?_;rintro f bU A _ s H _ _ _ _ ak ⟨aD,b,rfl,fm,cK,bJ⟩;have cJ:dp 4 (A.deeper (fH "read_draft" (bh zM) s⁻¹ f bU)):=ak.mono;have aG:dp 3 (A.deeper (fH "read_draft" (bh zM) s⁻¹ f bU)):=ak.mono;have O:dp 1 (A.deeper (fH "read_draft" (bh zM) s⁻¹ f bU)):=ak.mono;have a5:dp 2 (A.deeper (fH "read_draft" (bh zM) s⁻¹ f bU)):=ak.mono;refine⟨_,aC (cz (i:=1) xq.bj (pK (NQ T) a5 Y T.cO.2 bu (ao (J 0) az))) (aC (ea (dR (jJ T) (J 1) T.cO.1 cJ d_.passes (ao ek az))) (aC (cz (i:=2) xq.bj (gb (HI T) (J 1) T.cO.1 aG d_.passes)) (aC (ea (dR (jJ T) (J 1) T.cO.1 cJ d_.passes (ao ek az))) (aC (cz (i:=3) xq.bj (dR (NV T) (J 1) T.cO.1 aG d_.passes (ao (cL T.Xd Y) (ao (cL T.Xe Y) az)))) (aC (ea (dR (jJ T) (J 1) T.cO.1 cJ d_.passes (ao ek az))) (aC (cz (i:=4) xq.bj (dR (NV T) (J 1) T.cO.1 aG d_.passes (ao (cL T.Xd Y) (ao (cL T.Xe Y) az)))) (aC (cz (i:=5) xq.bj (pK (adJ T) a5 Y T.dm.2 bu (ao (J 2) (ao (J 3) (ao (J 4) az))))) (aC (cz (i:=6) xq.bj (pK (adL T) a5 Y T.jG.2 bu (ao (J 5) (ao (fj jc Y T.i3 iu (ao (J 0) az)) az)))) (aC (ea (dR (jJ T) (J 1) T.cO.1 cJ d_.passes (ao ek az))) (aC (e2 (J 6) (cw (Y9 T) ak Y d_.passes (ao (J 1) (ao (J 5) (ao (e' T.aat Y) az)))) Y) (aC (ea (dR (jJ T) (J 1) T.cO.1 cJ d_.passes (ao ek az))) (aC (e2 (J 6) (cw (Y9 T) ak Y d_.passes (ao (J 1) (ao (J 5) (ao (e' T.aau Y) az)))) Y) (aC (e2 (J 5) (cw (Y2 T) O Y bu (ao (bg (J 6) Y) az)) Y) (aC (e2 (J 5) (cw (Y2 T) O Y bu (ao (bg (J 6) Y) az)) Y) (aC (ea (cw (aej T) ak Y d_.passes (ao (J 1) (ao (J 5) az)))) (aC (ea (cw (aem T) ak Y d_.passes (ao (J 1) (ao (J 6) az)))) (aC (ea (gb (NR T) (J 1) T.cO.1 aG d_.passes)) (aX (bF (J 6)))))))))))))))))))),?_⟩;have aY:=a6M b;refine(λx a3 mN HR bV=>⟨x,a3,aD,Y,b3,Y,?_⟩);rw[j5];have s1:aw H (av (av H a3 (.own x)) x (.ins a.Reader a3 (sm aD 0))):=aw.upd (aw.new HR) (by rw[aM (ej bV)];exact mN);have D:lM a H x aD b 0 [] _:=⟨s1,⟨⟨a3,b3⟩,s1 _ _ fm,es _⟩,mN,λq aQ=>nomatch aQ⟩;obtain⟨a3,ah⟩:=id D.cF.1;refine⟨x,_,_,Y,ah,Y,Dn (w:=hx "tafl ") D aY dQ dQ (λm ai D _ aY=>?_) bJ⟩;obtain⟨a3,ah⟩:=id D.cF.1;refine⟨x,_,_,Y,ah,Y,?_⟩;unfold gi;simp only[hU];refine aeo D aY (λnm m nl ai tW D _ aY=>?_) bJ;obtain⟨a3,ah⟩:=id D.cF.1;refine⟨x,_,_,Y,ah,Y,Dn (w:=[32]) D aY dQ dQ (λm ai D _ aY=>?_) bJ⟩;obtain⟨a3,ah⟩:=id D.cF.1;refine⟨x,_,_,Y,ah,Y,Yh (lo:=5) (hi:=13) D aY dQ (λwd m ai tR D aY=>?_) bJ⟩;obtain⟨a3,ah⟩:=id D.cF.1;refine⟨x,_,_,Y,ah,Y,Dn (w:=[32]) D aY dQ dQ (λm ai D _ aY=>?_) bJ⟩;obtain⟨a3,ah⟩:=id D.cF.1;refine⟨x,_,_,Y,ah,Y,Yh (lo:=5) (hi:=13) D aY dQ (λaI m ai HS D aY=>?_) bJ⟩;refine(λp eF Dp aer aes=>⟨p,eF,nl,wd,aI,Y,b3,Y,?_⟩);rw[j5];have Yl:aw ai (av (av ai eF (.own p)) p (.ins a.Rules eF (hQ (ht nl wd aI)))):=aw.upd (aw.new aer) (by rw[aM (ej aes)];exact Dp);have Dq:H p=aa:=D.aE.free Dp;have aq:(av (av ai eF (.own p)) p (.ins a.Rules eF (hQ (ht nl wd aI)))) p=B (.ins a.Rules eF (hQ (ht nl wd aI))):=b3;generalize av (av ai eF (.own p)) p (.ins a.Rules eF (hQ (ht nl wd aI)))=au at Yl aq ⊢;have D:=D.same Yl;refine⟨aD,_,Y,.inl (bo.of D.cF.2.1),λcn dd O7 aet _=>⟨cn,dd,p,b.length,by rw[iI];rfl,b3,λg st _ _ _ bc aA _ _ dS=>⟨Y,?_⟩⟩⟩;have O8:H cn=aa:=D.aE.free O7;have bE:aw au bc:=λc o q=>aA c o (cV q O7) (by rw[aM (cV q O7),aM (cV q aet)];exact q);have aq:=bE _ _ aq;have D:=D.same bE;obtain⟨a3,ah⟩:=id D.cF.1;have vH:p≠x:=jX aq ah (by show(15:Nat)≠2;decide);have Dr:cn≠x:=jX dS ah (by show(5:Nat)≠2;decide);have Ds:cn≠p:=jX dS aq (by show(5:Nat)≠15;decide);refine⟨x,_,_,Y,ah,Y,Dn (w:=hx "\nground\n") D aY dQ dQ (λm _ D c5 aY=>?_) bJ⟩;have aq:=c5 _ _ vH aq;have dS:=c5 _ _ Dr dS;refine⟨EF,".SX#",Qs,Tf.eo,.wall,[[46],[83],[88],[35]],x,aD,b,m,p,ht nl wd aI,Y,adS,dQ,D.cF,⟨eF,aq⟩,tR.2,HS.2,λl c' cH fK m' _ c5 ak hm Ym gS=>?_,λk h a3 c' c5 hd=>bJ k (aY.trans (m9 h)) a3 c' (aw.nL D.aE D.fr c5) hd⟩;have aY:=aY.trans (nA Ym);have D:=D.go c5 ak hm;have aq:=c5 _ _ vH aq;have dS:=c5 _ _ Dr dS;refine⟨cn,_,_,_,Y,dS,T.jG.1,T.Hl,B2,?_⟩;rw[show gN ("ground_marks" :a8) (V.ref l) (iq p b.length g st 0)=iq p b.length l st 0 from Y];have D:=D.put (o:=.ins a.g_ dd (iq p b.length l st 0)) O8 dS (by show(5:Nat)≠2;decide);have gS:=gS.put (o:=.ins a.g_ dd (iq p b.length l st 0)) dS (by show(5:Nat)≠3;decide);have aq:(av c' cn (.ins a.g_ dd (iq p b.length l st 0))) p=B (.ins a.Rules eF (hQ (ht nl wd aI))):=(aM (ej Ds)).trans aq;have dS:(av c' cn (.ins a.g_ dd (iq p b.length l st 0))) cn=B (.ins a.g_ dd (iq p b.length l st 0)):=b3;generalize av c' cn (.ins a.g_ dd (iq p b.length l st 0))=fQ at D gS aq dS ⊢;obtain⟨a3,ah⟩:=id D.cF.1;have aeu:=D.cF.1;refine⟨x,_,_,Y,ah,Y,Dn (w:=hx "start\n") D aY dQ dQ (λm _ D c5 aY=>?_) bJ⟩;have aq:=c5 _ _ vH aq;have dS:=c5 _ _ Dr dS;have gS:=gS.rl aeu c5;refine⟨lh,".hmK",Qu,Tf.pc,.none,[[46],[104],[109],[75]],x,aD,b,m,p,ht nl wd aI,Y,adT,dQ,D.cF,⟨eF,aq⟩,tR.2,HS.2,λgD q4 O9 Oa m' _ c5 ak hm Yn ki=>?_,λk h a3 c' c5 hd=>bJ k (aY.trans (m9 h)) a3 c' (aw.nL D.aE D.fr c5) hd⟩;have aY:=aY.trans (nA Yn);have gS:=gS.rl D.cF.1 c5;have D:=D.go c5 ak hm;have aq:=c5 _ _ vH aq;have dS:=c5 _ _ Dr dS;refine⟨cn,_,_,_,Y,dS,T.jG.1,T.z_,B2,?_⟩;rw[show gN ("start_marks" :a8) (V.ref gD) (iq p b.length l st 0)=iq p b.length l gD 0 from Y];have D:=D.put (o:=.ins a.g_ dd (iq p b.length l gD 0)) O8 dS (by show(5:Nat)≠2;decide);have gS:=gS.put (o:=.ins a.g_ dd (iq p b.length l gD 0)) dS (by show(5:Nat)≠3;decide);have ki:=ki.put (o:=.ins a.g_ dd (iq p b.length l gD 0)) dS (by show(5:Nat)≠3;decide);have aq:(av q4 cn (.ins a.g_ dd (iq p b.length l gD 0))) p=B (.ins a.Rules eF (hQ (ht nl wd aI))):=(aM (ej Ds)).trans aq;have dS:(av q4 cn (.ins a.g_ dd (iq p b.length l gD 0))) cn=B (.ins a.g_ dd (iq p b.length l gD 0)):=b3;generalize av q4 cn (.ins a.g_ dd (iq p b.length l gD 0))=oc at D gS ki aq dS ⊢;obtain⟨jC,_,m8,_⟩:=BY _ _ Ym;obtain⟨gQ,_,t3,_⟩:=BY _ _ Yn;refine⟨cn,_,_,_,_,Y,dS,T.jG.1,T.Hl,Y,l,_,Y,gS,O5 jC m8 HS.2 tR.2,λHV aE=>?_⟩;have D:=D.same aE;have aq:=aE _ _ aq;have dS:=aE _ _ dS;have gS:=gS.same aE;have ki:=ki.same aE;refine⟨p,_,_,_,Y,aq,T.dm.1,T.oB,pY,?_⟩;generalize zt:dC (rk (k_ Tf.eo EG (ht nl wd aI).high cH fK))=l6;rw[show gN ("ground" :a8) (V.str l6) (hQ (ht nl wd aI))=hQ {ht nl wd aI with ground:=l6}from Y];have D:=D.put (o:=.ins a.Rules eF (hQ {ht nl wd aI with ground:=l6})) Dq aq (by show(15:Nat)≠2;decide);have gS:=gS.put (o:=.ins a.Rules eF (hQ {ht nl wd aI with ground:=l6})) aq (by show(15:Nat)≠3;decide);have ki:=ki.put (o:=.ins a.Rules eF (hQ {ht nl wd aI with ground:=l6})) aq (by show(15:Nat)≠3;decide);have dS:(av HV p (.ins a.Rules eF (hQ {ht nl wd aI with ground:=l6}))) cn=B (.ins a.g_ dd (iq p b.length l gD 0)):=(aM Ds).trans dS;have aq:(av HV p (.ins a.Rules eF (hQ {ht nl wd aI with ground:=l6}))) p=B (.ins a.Rules eF (hQ {ht nl wd aI with ground:=l6})):=b3;generalize av HV p (.ins a.Rules eF (hQ {ht nl wd aI with ground:=l6}))=alm at D gS ki aq dS ⊢;refine⟨cn,_,_,_,_,Y,dS,T.jG.1,T.z_,Y,gD,_,Y,ki,O5 gQ t3 HS.2 tR.2,λOb aE=>?_⟩;have D:=D.same aE;have aq:=aE _ _ aq;have dS:=aE _ _ dS;have gS:=gS.same aE;have ki:=ki.same aE;refine⟨p,_,_,_,Y,aq,T.dm.1,T.CT,pY,?_⟩;generalize Oc:dC (rk (k_ Tf.pc EH (ht nl wd aI).high O9 Oa))=bt;rw[show gN ("board" :a8) (V.str bt) (hQ {ht nl wd aI with ground:=l6})=hQ {ht nl wd aI with ground:=l6,rj:=bt}from Y];have D:=D.put (o:=.ins a.Rules eF (hQ {ht nl wd aI with ground:=l6,rj:=bt})) Dq aq (by show(15:Nat)≠2;decide);have gS:=gS.put (o:=.ins a.Rules eF (hQ {ht nl wd aI with ground:=l6,rj:=bt})) aq (by show(15:Nat)≠3;decide);have ki:=ki.put (o:=.ins a.Rules eF (hQ {ht nl wd aI with ground:=l6,rj:=bt})) aq (by show(15:Nat)≠3;decide);have dS:(av Ob p (.ins a.Rules eF (hQ {ht nl wd aI with ground:=l6,rj:=bt}))) cn=B (.ins a.g_ dd (iq p b.length l gD 0)):=(aM Ds).trans dS;have aq:(av Ob p (.ins a.Rules eF (hQ {ht nl wd aI with ground:=l6,rj:=bt}))) p=B (.ins a.Rules eF (hQ {ht nl wd aI with ground:=l6,rj:=bt})):=b3;generalize av Ob p (.ins a.Rules eF (hQ {ht nl wd aI with ground:=l6,rj:=bt}))=aln at D gS ki aq dS ⊢;have f2:∀c∈[x,p],H c=aa:=λc a7=>by
  obtain e|a7:=dz.mp a7
  .rw[e];exact D.fr
  rw[jY.mp a7];exact Dq
 have dx:∀c∈[x,p,cn],H c=aa:=λc a7=>by
  obtain e|a7:=dz.mp a7
  .rw[e];exact D.fr
  obtain e|a7:=dz.mp a7
  .rw[e];exact Dq
  rw[jY.mp a7];exact O8
 refine⟨x,aD,b,_,p,_,Y,D.cF,⟨eF,aq⟩,λk hA Yo aA aev cI cF cB=>?_,λk h a3 c' cI hd=>bJ k (aY.trans (m9 h)) a3 c' (aw.HQ D.aE f2 cI) hd⟩;have aY:=aY.trans (nA aA);have gS:=gS.Yj D.cF.1 ⟨eF,aq⟩ cI;have ki:=ki.Yj D.cF.1 ⟨eF,aq⟩ cI;have dS:=cI _ _ (by simp[Dr,Ds]) dS;have di:∀q∈[(nl,cA nm)],Yo q.1=B (.lst q.2):=λq aQ=>cI _ _ (by have z:=D.ls q aQ;have e3:=vG D.cF.1 z;have cS:=f3 z aq;simp only[dz,rv,qD,yC];exact⟨e3,cS⟩) (D.ls q aQ);have D:lM a H x aD b hA [(nl,cA nm)] Yo:=⟨aw.HQ D.aE f2 cI,cF,D.fr,di⟩;refine⟨x,aD,b,hA,p,_,cn,dd,b.length,l,gD,0,Y,cF,cB,dS,λe nV HW aF cI Od aew aex=>?_,λk h a3 c' cI hd=>bJ k (aY.trans (m9 h)) a3 c' (aw.HQ D.aE dx cI) hd⟩;have aY:=aY.trans (nA aF);have gS:=gS.Yk cF.1 cB dS cI;have ki:=ki.Yk cF.1 cB dS cI;have di:∀q∈[(nl,cA nm)],HW q.1=B (.lst q.2):=λq aQ=>cI _ _ (by have z:=D.ls q aQ;have e3:=vG cF.1 z;obtain⟨_,bk⟩:=id cB;have cS:=f3 z bk;have gg:=f3 z dS;simp only[dz,rv,qD,yC];exact⟨e3,cS,gg⟩) (D.ls q aQ);have D:lM a H x aD b nV [(nl,cA nm)] HW:=⟨aw.HQ D.aE dx cI,Od,D.fr,di⟩;obtain⟨a3,ah⟩:=id Od.1;have aY:pV b=if(cE b nV).rest=[]then .ok (Ge nm wd aI cH fK O9 Oa k e)else .error nV:=aY
 refine⟨x,_,_,Y,ah,Y,x,aD,b,nV,Y,Od,λhq=>?_,λ_ dV c' c5 hd=>bJ nV ?_ dV c' (aw.nL D.aE D.fr c5) hd⟩
 .rw[aZ (show(cE b nV).rest=[]from E7 hq)]at aY;have aey:=LW aY;refine(cK _ cn (p,nl) HW aY Dq tW D.aE ⟨l,gD,dd,aex,?_,gS,ki⟩ (D.ls (nl,cA nm) (by simp)));have zt:dC (rk (k_ Tf.eo EG aI cH fK))=l6:=zt;have Oc:dC (rk (k_ Tf.pc EH aI O9 Oa))=bt:=Oc;show mV a HW p (tV nl _);rw[<-aen Y aey aev,zt,Oc];exact aew
 rw[aY,aL];intro z;have:=g5 ub (show b.drop nV=[]from z);rw[m_]at this;simp at this
 lia
def Ai(c d:Nat):decide (V.str ⟨#[c]⟩=V.str ⟨#[d]⟩)=(c==d):=by rw[hT,mE,i9];exact⟨λz=>by have:=g5 (λ(s:a8)=>s.cps.toList) (V.str.inj z);simpa using this,λz=>by rw[z]⟩
def Yp:("S" :a8)=⟨#[83]⟩:=by decide+kernel
def Yq:("X" :a8)=⟨#[88]⟩:=by decide+kernel
def aez:("#" :a8)=⟨#[35]⟩:=by decide+kernel
def aeA:("." :a8)=⟨#[46]⟩:=by decide+kernel
def Dt:("K" :a8)=⟨#[75]⟩:=by decide+kernel
def aeB:("h" :a8)=⟨#[104]⟩:=by decide+kernel
def fN.add{af m:I}{cY:sl I}{cv:sl hg}{y:hg}(O:H af=B (.lst (cY.map V.ref)))(a5:cY.length=cv.length)(aG:∀(i:Nat) m x,cY[i]? =B m->cv[i]? =B x->ml a H m x)(hm:ml a H m y):fN a (av H af (.lst (cY.map V.ref++[.ref m]))) af (cv++[y]):=by
 have key:∀m y,ml a H m y->ml a (av H af (.lst (cY.map V.ref++[.ref m]))) m y:=λm y ⟨d,e⟩=>⟨d,by rw[aM (λz=>f3 O e z.symm)];exact e⟩;have Yr:∀m' y,ml a H m' y->ml a (av H af (.lst (cY.map V.ref++[.ref m]))) m' y:=λm' y ⟨d,e⟩=>⟨d,by rw[aM (λz=>f3 O e z.symm)];exact e⟩;refine⟨cY++[m],by rw[b3,fO];rfl,by simp[a5],λi m' r' bw cy=>?_⟩;by_cases hi:i<cY.length
 .rw[l9 hi]at bw;rw[l9 (by lia)]at cy;exact Yr m' r' (aG i m' r' bw cy)
 rw[pR (by lia)]at bw;rw[pR (by lia)]at cy;obtain⟨j,e⟩:∃j,i-cY.length=j:=⟨_,Y⟩;rw[<-a5,e]at cy;rw[e]at bw;cases j with|zero=>cases bw;cases cy;exact Yr m y hm|succ j=>simp at bw
def aeC(s:Nat)(l:sl hg)(y:hg):Tf.signed s (l++[y])=Tf.signed s l++(if(y.2.1==s)=a9 then[y]else[]):=by unfold Tf.signed;rw[Ay,qw,IP]
def Du(s:Nat)(l:sl hg):(Tf.signed s l).length<=l.length:=vY ..
def aeD(a:b4):bN:=λvs H Q _=>kg λl cv s z=>mQ (vs=[.ref l,.str z]) (z=⟨#[s]⟩) (fN a H l cv) (cv.length<=1000) (∀af H',aw H H'->fN a H' af (Tf.signed s cv)->Q (.ref af) H')
def aeE:bN:=λvs H Q _=>kg λg p y z=>jE (vs=[.str y,.str z]) (y=⟨#[g]⟩) (z=⟨#[p]⟩) (Q (.c3 (zj g p)) H)
def Oe(T:Txt K a6 a):dH P w K a6 base cp 1 "with_sign" ["marks","sign"] (aeD a):=by
 refine T.abh.ok N3 ?_;rintro _ _ _ _ _ H _ _ _ _ _ ⟨l,cv,hG,z,rfl,rfl,hm,eY,k⟩;refine⟨_,aX (bF (te (tt:=o7 (k2 K0 (ha K (dc 2) "sign") (dc 1))) Y N3.bj (nZ (J 0)) (og (own:=[("mark",2)]) Y) (λ_ _ _ _ _=>h8 (i:=2) N3.bj) (λ_ _ _ _ _=>KS (d1 dB (bg (J 2) Y) (J 1) (cu _))) (λ_ _ _ _ _=>J 2))),?_⟩;obtain⟨cY,O,a5,aG⟩:=id hm;refine⟨l,Y,⟨_,bo.of O⟩,λaf d3=>?_⟩;have l3:aw H (av H af (.lst [])):=aw.new d3;refine uS (K:=K) (a:=l) (xs:=cY.map V.ref) (λj bc=>aw H bc/\fN a bc af (Tf.signed hG (cv.take j))) ⟨l3,fN.nil b3⟩ (λj bc _ z=>bo.of (z.1 _ _ O)) (λj x bc bY aR=>?_) λbc aR=>?_
 .obtain⟨fy,Dv⟩:=aR;obtain⟨m,vI,rfl⟩:=Ad bY;have c6:j<cv.length:=by rw[<-a5];exact(ei.mp vI).1
  have ah:=ff c6;have Ys:=(aG j m _ vI ah).same fy;obtain⟨_,hd⟩:=id Ys;refine⟨Y,m,_,_,_,_,Y,hd,T.pM.1,T.Hj,Y,Y,_,Y,?_⟩;rw[take_snoc ah,aeC];obtain⟨_,bw,cy,h9⟩:=id Dv;cases e:(cv[j].2.1==hG)with
  |true=>
   refine eR (by rw[Ai];exact e) ⟨_,bw,?_,?_,?_⟩
   .rw[cX,cy];have:=Du hG (cv.take j);have:(cv.take j).length<=cv.length:=by rw[ko];exact Ef _ _
    exact gE (by lia)
   .exact λb o va=>by rw[aM (cV va d3)];exact fy _ _ va
   exact fN.add bw cy h9 Ys
  |false=>refine ec (by rw[Ai,e];decide) ⟨fy,?_⟩;rw[aL dQ,hU];exact Dv
 obtain⟨fy,Dv⟩:=aR;rw[cX,a5,jl]at Dv;exact k af bc fy Dv
def aeF(T:Txt K a6 a):dH P w K a6 base cp 1 "is_misplaced" ["ground_sign","piece"] aeE:=by
 refine T.abi.ok a9A ?_;rintro _ _ _ _ _ _ _ _ _ X _ ⟨g,p,y,z,rfl,rfl,rfl,k⟩;refine⟨_,aC (d4 (d1 dB (J 1) (e' T.qi Y) (cu _)) (aX (bF (p1 (gM dB (J 0) (e' T.Xh Y) (cu _)) (p' (gM dB (J 0) (e' T.CR Y) (cu _)))))) d9) (aX (bF (gM o6 (J 0) (e' T.Nj Y) (cu _)))),Y,_,Y,?_⟩;unfold zj at k;by_cases aq:p=75
 .rw[aZ aq]at k;refine eR (by rw[aq,Dt];exact eL Y) ⟨Y,_,Y,?_⟩;have aO:decide (V.str ⟨#[g]⟩=V.str "#")=(g==35):=by rw[aez,Ai]
  have aT:decide (V.str ⟨#[g]⟩=V.str "X")=(g==88):=by rw[Yq,Ai]
  refine gq (λO=>?_) λO=>?_
  .have O:decide (V.str ⟨#[g]⟩=V.str "#")=a9:=O;rw[aO]at O;rw[O]at k;exact k
  have O:¬decide (V.str ⟨#[g]⟩=V.str "#")=a9:=O;rw[aO]at O;rw[nT O,E4,<-aT]at k;exact⟨Y,k⟩
 rw[aL aq]at k;refine ec (λz=>aq ?_) ⟨Y,?_⟩
 .rw[Dt,Ai]at z;simpa using z
 have e1:(!decide (V.str ⟨#[g]⟩=V.str "."))=(g !=46):=by rw[aeA,Ai];rfl
 rw[<-e1]at k;exact k
def aeG(xs:sl V):m1 xs (B 1) aa=xs.drop 1:=by unfold m1;rw[show HT.eA xs.length 0 (B (1:Int))=min 1 xs.length from HT.uM xs.length 0 1,show HT.eA xs.length xs.length aa=xs.length from Y];cases xs with|nil=>rfl|cons x xs=>rw[y7 (by simp)];exact lQ (by simp)
def fN.Yt{l q:I}{cv:sl hg}(h:fN a H l cv)(aQ:H q=aa){cY:sl I}(O:H l=B (.lst (cY.map V.ref))):fN a (av H q (.lst (m1 (cY.map V.ref) (B 1) aa))) q (cv.drop 1):=by
 obtain⟨Yu,uU,a5,aG⟩:=h;rw[O]at uU;have e:Yu=cY:=by have:=dA.lst.inj (h4 uU);exact((List.map_inj_right (λx y z=>V.ref.inj z)).mp this).symm
 subst e;refine⟨Yu.drop 1,by rw[b3,aeG,IT],by simp[a5],λi m y bw cy=>?_⟩;rw[AB]at bw cy;exact(aG _ m y bw cy).same (aw.new aQ)
def vJ(k:Nat)(m:hg):Nat×Nat:=(m.2.2,k)
def aeH(a:b4):bN:=λvs H Q _=>qf λcn len r=>jE (vs=[.ref cn]) (O6 a H cn len r) (hc r) (∀af H',aw H H'->fe H' af (C0 r)->Q (.ref af) H')
def aeI(a:b4):bN:=λvs H Q _=>qf λcn len r=>jE (vs=[.ref cn]) (O6 a H cn len r) (hc r) (∀af H',aw H H'->fe H' af (tu r)->Q (.ref af) H')
def aeJ(a:b4):bN:=λvs H Q _=>qf λcn len r=>jE (vs=[.ref cn]) (O6 a H cn len r) (hc r) (∀af H',aw H H'->fe H' af (w' len r)->Q (.ref af) H')
def Yv(g:hc r):(oq r).length<=169:=by refine dE (N' Tf.eo _ r.high r.wide r.ground r.groundAt g.Tp) ?_;rw[g.gl];exact a0X g.c0.q9 g.c0.pw
def Of(g:hc r):(Tf.aE r).length<=169:=by refine dE (N' Tf.pc _ r.high r.wide r.start r.startAt g.LV) ?_;rw[g.aV];exact a0X g.c0.q9 g.c0.pw
def aeK(g:hc r):∀m∈Tf.aE r,m.1<169:=O5 g.aV g.LV g.c0.q9 g.c0.pw
def Ah.same{cn:I}{p:I×I}{len:Nat}(h:Ah a H cn p len r)(s:aw H H'):Ah a H' cn p len r:=by obtain⟨g,st,dd,O,⟨dv,a5⟩,aG,cJ⟩:=h;exact⟨g,st,dd,s _ _ O,⟨dv,s _ _ a5⟩,aG.same s,cJ.same s⟩
variable{G:L2.St}
def aeL{t u:bZ}{b1 b2:Bool}(b9:∀e9:c2,e9 (.c3 b1) H->t G H e9)(bx:b1=aK->∀e9:c2,e9 (.c3 b2) H->u G H e9)(k:Q (.c3 (b1||b2)) H):QQ t u G H Q:=b9 _ ⟨b1,Y,by
 cases b1
 .exact gF (bx Y Q (by simpa using k))
 exact hM (by simpa using k)⟩
def Yw{t u:TT}{Q:Bool->ag->Prop}{b1 b2:Bool}(b9:∀e9:Bool->ag->Prop,e9 b1 H->t G H e9)(bx:b1=aK->∀e9:Bool->ag->Prop,e9 b2 H->u G H e9)(k:Q (b1||b2) H):JL t u G H Q:=b9 _ (by
 cases b1
 .exact gF (bx Y Q (by simpa using k))
 exact hM (by simpa using k))
def Dw{t u:TT}{Q:Bool->ag->Prop}{b1 b2:Bool}(b9:∀e9:Bool->ag->Prop,e9 b1 H->t G H e9)(bx:b1=a9->∀e9:Bool->ag->Prop,e9 b2 H->u G H e9)(k:Q (b1&&b2) H):JK t u G H Q:=b9 _ (by
 cases b1
 .exact gF (by simpa using k)
 exact hM (bx Y Q (by simpa using k)))
def fe.one{t af:I}{m:Nat×Nat}(d3:(av H t (.tup [.int (m.1:Int),.int (m.2:Int)])) af=aa):fe (av (av H t (.tup [.int (m.1:Int),.int (m.2:Int)])) af (.lst [.ref t])) af [m]:=by
 have Hz:t≠af:=λz=>by rw[<-z,b3]at d3;cases d3
 refine⟨[t],b3,Y,λi _ _ x y=>?_⟩;cases i with|zero=>cases x;cases y;rw[aM Hz,b3]|succ i=>simp at x
def aeM(b:Bool):decide (V.int ((vF b:Nat):Int)=V.int 0)=!b:=by cases b<;>decide
def Aj(l:sl Nat):(dC l).cps.toList=l:=by unfold dC;simp
def Yx(n:I)(r:f5):(tV n r).rj.cps.toList=Tf.gT r:=Aj _
def Yy(n:I)(r:f5):(tV n r).ground.cps.toList=Tf.fa r:=Aj _
def aeN(a:b4):bN:=λvs H Q _=>kg λp r c n=>jE (vs=[.ref p,.int ((c:Nat):Int)]) (mV a H p (tV n r)) (dj r) (Q (.c3 (r.onEdge (c%13,c/13))) H)
def aeO(T:Txt K a6 a):dH P w K a6 base cp 1 "on_edge" ["rules","cell"] (aeN a):=by
 refine T.Xj.ok zO ?_;rintro _ _ _ _ _ H _ Q _ _ _ ⟨p,r,c,n,rfl,⟨gI,aq⟩,ax,k⟩;refine⟨_,aC (cz (i:=2) zO.bj (de F6 (J 1) (cL T.qh Y))) (aC (cz (i:=3) zO.bj (de F5 (J 1) (cL T.qh Y))) (aX (bF (p1 (gM dB (J 2) cg (cu _)) (p1 (gM dB (J 3) cg (cu _)) (p1 (gM dB (J 2) (de o4 (bg (J 0) Y) cg) (cu _)) (p' (gM dB (J 3) (de o4 (bg (J 0) Y) cg) (cu _))))))))),?_⟩;have f7:=ax.wN;have iV:=ax.f7;have aO:decide (V.int ((c:Int)%13)=V.int 0)=(c%13==0):=by rw[o5];apply hT.mpr;simp only[i9];lia
 have aT:decide (V.int ((c:Int)/13)=V.int 0)=(c/13==0):=by rw[o5];apply hT.mpr;simp only[i9];lia
 have e1:decide (V.int ((c:Int)%13)=V.int ((r.wide:Int)-1))=(c%13+1==r.wide):=by rw[o5];apply hT.mpr;simp only[i9];lia
 have hN:decide (V.int ((c:Int)/13)=V.int ((r.high:Int)-1))=(c/13+1==r.high):=by rw[o5];apply hT.mpr;simp only[i9];lia
 have k:Q (.c3 ((c%13==0)||(c/13==0)||(c%13+1==r.wide)||(c/13+1==r.high))) H:=k;rw[<-aO,<-aT,<-e1,<-hN]at k;refine⟨_,_,rfl,rfl,(by show(0:Int)<13;decide),_,_,rfl,rfl,⟨(by show(0:Int)<13;decide),(by show(13:Int)<1073741824;decide)⟩,rfl,_,rfl,gq (λO=>?_) λO=>?_⟩
 .rw[show decide (V.int ((c:Int)%13)=V.int 0)=a9 from O]at k;exact k
 rw[show decide (V.int ((c:Int)%13)=V.int 0)=aK from nT O]at k;refine⟨Y,_,Y,gq (λa5=>?_) λa5=>?_⟩
 .rw[show decide (V.int ((c:Int)/13)=V.int 0)=a9 from a5]at k;exact k
 rw[show decide (V.int ((c:Int)/13)=V.int 0)=aK from nT a5]at k;refine⟨p,_,_,_,_,Y,aq,T.dm.1,T.zX,Y,_,_,Y,Y,Y,_,Y,gq (λaG=>?_) λaG=>?_⟩
 .rw[show decide (V.int ((c:Int)%13)=V.int ((r.wide:Int)-1))=a9 from aG]at k;exact k
 rw[show decide (V.int ((c:Int)%13)=V.int ((r.wide:Int)-1))=aK from nT aG]at k;refine⟨p,_,_,_,_,Y,aq,T.dm.1,T.xt,Y,_,_,Y,Y,Y,?_⟩;exact k
def aeP(T:Txt K a6 a):dH P w K a6 base cp 1 "missing_faults" ["draft"] (aeJ a):=by
 refine T.abk.ok N5 ?_;rintro _ _ _ _ _ H _ Q _ _ _ ⟨cn,len,r,rfl,⟨p,g,st,dd,dS,⟨dv,bk⟩,aI,ax⟩,aj,k⟩;refine⟨_,aC (cz (i:=1) N5.bj (bg (J 0) Y)) (aC (cz (i:=2) N5.bj (p1 (gM dB (bg (J 1) Y) cg (cu _)) (p' (gM rS (bg (J 1) Y) cg (cu _))))) (aC (d4 (jq.pt (EZ (d1 FF (e' T.qi Y) (bg (J 1) Y) Y) (EZ (d1 FF (e' T.CS Y) (bg (J 1) Y) Y) (JM (jq.pt (nX (js (J 2)) (p_ (d1 FF (e' T.H9 Y) (bg (J 1) Y) Y)))))))) (aX (bF (fC (ao (sZ (ao (bg (J 0) Y) (ao cg az))) az)))) d9) (aX (bF (fC az))))),cn,_,_,_,_,Y,dS,T.jG.1,T.zZ,Y,?_⟩;dsimp only[mJ,nY,p6];refine aeL (b1:=!r.passed) (b2:=decide (((r.seat:Nat):Int)>0)) (λe9 q=>⟨p.1,_,_,_,_,Y,bk,T.dm.1,T.Ha,Y,Y,?_⟩) (λ_ e9 q=>⟨p.1,_,_,_,_,Y,bk,T.dm.1,T.Hb,Y,_,_,Y,Y,q⟩) ?_
 .show e9 (.c3 (decide (V.int ((vF r.passed:Nat):Int)=V.int 0))) H;rw[aeM];exact q
 refine Yw (b1:=!decide (75∈Tf.gT r)) (b2:=(!decide (104∈Tf.gT r)||((!r.passed||decide (((r.seat:Nat):Int)>0))&&!decide (83∈Tf.fa r)))) (λe9 q=>⟨p.1,_,_,_,_,Y,bk,T.dm.1,T.CT,Y,75,_,g5 V.str Dt,Y,_,Y,?_⟩) (λ_ e9 q=>Yw (b1:=!decide (104∈Tf.gT r)) (b2:=((!r.passed||decide (((r.seat:Nat):Int)>0))&&!decide (83∈Tf.fa r))) (λe9 q=>⟨p.1,_,_,_,_,Y,bk,T.dm.1,T.CT,Y,104,_,g5 V.str aeB,Y,_,Y,?_⟩) (λ_ e9 q=>Dw (b1:=(!r.passed||decide (((r.seat:Nat):Int)>0))) (b2:=!decide (83∈Tf.fa r)) (λe9 q=>⟨_,Y,q⟩) (λ_ e9 q=>⟨p.1,_,_,_,_,Y,bk,T.dm.1,T.oB,Y,83,_,g5 V.str Yp,Y,_,Y,?_⟩) q) q) ?_
 .rw[Yx];exact q
 .rw[Yx];exact q
 .rw[Yy];exact q
 have e:(!decide (75∈Tf.gT r)||(!decide (104∈Tf.gT r)||((!r.passed||decide (((r.seat:Nat):Int)>0))&&!decide (83∈Tf.fa r))))=a9↔(75∉Tf.gT r∨104∉Tf.gT r∨((r.passed=aK∨r.seat>0)/\83∉Tf.fa r)):=by simp
 refine gq (λh=>?_) λh=>?_
 .have k:∀af H',aw H H'->fe H' af [(len,6)]->Q (.ref af) H':=by unfold w' at k;rw[aZ (e.mp h)]at k;exact k
  refine⟨cn,_,_,_,_,Y,dS,T.jG.1,T.Xn,Y,nU,λt b9=>⟨gd,λaf d3=>k af _ (aw.upd (aw.new b9) d3) (fe.one (m:=(len,6)) d3)⟩⟩
 have k:∀af H',aw H H'->fe H' af []->Q (.ref af) H':=by unfold w' at k;rw[aL λz=>h (e.mpr z)]at k;exact k
 exact⟨es _,λaf d3=>k af _ (aw.new d3) (fe.nil b3)⟩
def fe.two{l b q:I}{ns:sl (Nat×Nat)}{zs:sl V}(h:fe H l cv)(h':fe H b ns)(ex:H l=B (.lst xs))(NL:H b=B (.lst zs))(aQ:H q=aa):fe (av H q (.lst (xs++zs))) q (cv++ns):=by
 obtain⟨ts,dr,dy,eB⟩:=h;obtain⟨us,b1,b2,m6⟩:=h';rw[ex]at dr;cases dr;rw[NL]at b1;cases b1;refine⟨ts++us,by rw[b3,fO],by simp[dy,b2],λi t m x y=>?_⟩;have key:H t=B (.tup [.int (m.1:Int),.int (m.2:Int)]):=by
  by_cases hi:i<ts.length
  .rw[l9 hi]at x;rw[l9 (by omega)]at y;exact eB i t m x y
  rw[pR (by omega)]at x;rw[pR (by omega)]at y;rw[<-dy]at y;exact m6 _ t m x y
 rw[aM (cV key aQ)];exact key
def aeQ(T:Txt K a6 a):dH P w K a6 base cp 2 "goal_faults" ["draft"] (aeI a):=by
 refine T.abj.ok N4 ?_;rintro _ _ _ _ _ H _ Q _ _ ak ⟨cn,len,r,rfl,d3,aj,k⟩;refine⟨_,aC (cz (i:=1) N4.bj (bg (J 0) Y)) (aC (cz (i:=2) N4.bj (cw (Oe T) ak Y bu (ao (bg (J 0) Y) (ao (e' T.qi Y) az)))) (aC (d4 (jq.pt (nX (d1 dB (bg (J 1) Y) (cL T.aa6 Y) (cu _)) (p_ (d1 FF (e' T.CR Y) (bg (J 1) Y) Y)))) (aX (bF (fC (ao (sZ (ao (bg (J 0) Y) (ao cg az))) az)))) d9) (aC (d4 (jq.pt (nX (d1 dB (bg (J 1) Y) (cL T.X8 Y) (cu _)) (nX (d1 rS (fj jc Y T.i3 iu (ao (J 2) az)) cg (cu _)) (p_ (js (cw (aeO T) ak Y bu (ao (J 1) (ao (bg (dZ hL (J 2) cg (λ_ _=>rfl)) Y) az)))))))) (aX (bF (fC (ao (sZ (ao (bg (J 0) Y) (ao cg az))) az)))) d9) (aX (bF (fC az)))))),?_⟩;obtain⟨p,g,st,_,dS,⟨dv,bk⟩,_,ax⟩:=id d3;refine⟨cn,_,_,_,_,Y,dS,T.jG.1,T.zZ,Y,cn,_,_,_,_,Y,dS,T.jG.1,T.z_,Y,st,_,75,_,Y,Dt,ax,dE (Of aj) dQ,λaf ai aE gS=>?_⟩;have dS:=aE _ _ dS;have bk:=aE _ _ bk;have tell:∀au t lN,au t=aa->(av au t (.tup [.int ((r.goalAt:Nat):Int),.int 5])) lN=aa->aw H au->tu r=[(r.goalAt,5)]->Q (.ref lN) (av (av au t (.tup [.int ((r.goalAt:Nat):Int),.int 5])) lN (.lst [.ref t])):=λau t lN O a5 eQ e=>k lN _ (aw.upd (aw.upd eQ O) a5) (by rw[e];exact fe.one (m:=(r.goalAt,5)) a5);have aO:decide (V.int ((r.goal:Nat):Int)=V.int 1)=decide (r.goal=1):=by rw[o5,hT,i9,mE];omega
 have e0:decide (V.int ((r.goal:Nat):Int)=V.int 0)=decide (r.goal=0):=by rw[o5,hT,i9,mE];omega
 dsimp only[mJ,nY,p6];refine Dw (b1:=decide (r.goal=1)) (b2:=!decide (88∈Tf.fa r)) (λe9 q=>⟨p.1,_,_,_,_,Y,bk,T.dm.1,T.CV,Y,Y,_,Y,?_⟩) (λ_ e9 q=>⟨p.1,_,_,_,_,Y,bk,T.dm.1,T.oB,Y,88,_,g5 V.str Yq,Y,_,Y,?_⟩) ?_
 .show e9 (decide (V.int ((r.goal:Nat):Int)=V.int 1)) ai;rw[aO];exact q
 .rw[Yy];exact q
 have eO:(decide (r.goal=1)&&!decide (88∈Tf.fa r))=a9↔(r.goal=1/\88∉Tf.fa r):=by simp
 refine gq (λO=>?_) λO=>?_
 .refine⟨cn,_,_,_,_,Y,dS,T.jG.1,T.Hm,Y,nU,λt b9=>⟨gd,λlN sr=>tell ai t lN b9 sr aE ?_⟩⟩;unfold tu;rw[aZ (eO.mp O)]
 have jC:tu r=if r.goal=0/\∃m,(Tf.signed 75 (Tf.aE r))[0]? =B m/\s6 r m.1=a9 then[(r.goalAt,5)]else[]:=by unfold tu;rw[aL λz=>O (eO.mpr z)]
 obtain⟨cY,hA,_,Og⟩:=id gS;let lH:Bool:=match(Tf.signed 75 (Tf.aE r))[0]? with
  |some m=>s6 r m.1
  |none=>aK
 dsimp only[B9,nY,JN];refine Dw (b1:=decide (r.goal=0)) (b2:=decide (((cY.length:Nat):Int)>0)&&lH) (λe9 q=>⟨p.1,_,_,_,_,Y,bk,T.dm.1,T.CV,Y,Y,_,Y,?_⟩)
  (λ_ e9 q=>Dw (b1:=decide (((cY.length:Nat):Int)>0)) (b2:=lH) (λe9 q=>⟨af,_,Y,.inl (bo.of hA),_,_,Y,Y,_,Y,?_⟩) (λa0 e9 q=>?_) q) ?_
 .show e9 (decide (V.int ((r.goal:Nat):Int)=V.int 0)) ai;rw[e0];exact q
 .rw[cX];exact q
 .have a0:=e7 a0;have ar:0<cY.length:=by omega
  have hp:0<(Tf.signed 75 (Tf.aE r)).length:=by omega
  have ah:=ff hp;obtain⟨_,hd⟩:=Og 0 _ _ (ff ar) ah;have aeR:lH=s6 r (Tf.signed 75 (Tf.aE r))[0].1:=by show(match(Tf.signed 75 (Tf.aE r))[0]? with|some m=>s6 r m.1|none=>aK)=_;rw[ah]
  rw[aeR]at q;refine⟨af,_,_,.ref cY[0],Y,Y,bo.of hA,?_,cY[0],_,_,_,_,Y,hd,T.pM.1,T.Hi,Y,p.1,r,_,p.2,Y,⟨dv,bk⟩,aj.c0,_,Y,q⟩;refine gw (j:=0) ?_;rw[fW,ff ar];rfl
 have gm:(decide (r.goal=0)&&(decide (((cY.length:Nat):Int)>0)&&lH))=a9↔(r.goal=0/\∃m,(Tf.signed 75 (Tf.aE r))[0]? =B m/\s6 r m.1=a9):=by
  cases e:(Tf.signed 75 (Tf.aE r))[0]? with
  |none=>simp[lH,e]
  |some m=>
   have:=(ei.mp e).1;have:0<cY.length:=by omega
   simp[lH,e,this]
 refine gq (λa5=>?_) λa5=>?_
 .refine⟨cn,_,_,_,_,Y,dS,T.jG.1,T.Hm,Y,nU,λt b9=>⟨gd,λlN sr=>tell ai t lN b9 sr aE ?_⟩⟩;rw[jC,aZ (gm.mp a5)]
 rw[aL λz=>a5 (gm.mpr z)]at jC;exact⟨es _,λlN sr=>k lN _ (aw.upd aE sr) (by rw[jC];exact fe.nil b3)⟩
def Yz{l:sl hg}{j:Nat}(h:l.length<=n):((l.take j).map (vJ k)).length<=n:=by rw[cX,ko];exact dE (Ef _ _) h
def aeS(f:br->Bool)(l:sl br)(y:br):(l++[y]).filter f=l.filter f++(if f y=a9 then[y]else[]):=by rw[Ay,qw,IP]
def aeT(T:Txt K a6 a):dH P w K a6 base cp 2 "mark_faults" ["draft"] (aeH a):=by
 refine T.abg.ok vo ?_;rintro _ _ _ _ _ _ _ _ _ _ ak ⟨cn,len,r,rfl,aeU,aj,k⟩;refine⟨_,aC (cz (i:=1) vo.bj (cw (Oe T) ak Y bu (ao (bg (J 0) Y) (ao (e' T.H9 Y) az)))) (aC (cz (i:=2) vo.bj (cw (Oe T) ak Y bu (ao (bg (J 0) Y) (ao (e' T.qi Y) az)))) (aC (Fx (i:=3) (b_:=Kf (ed (ha K (dc 4) "place") (ed (iP (.int 2)) gi))) Y vo.bj Y Y (Fy Y Y Y Y) (nZ (t5 uN (J 1) (nq cg) Kq)) (og (own:=[("mark",4)]) Y) (λ_ _ _ _ _=>h8 (i:=4) vo.bj) (λ_ _ _ _ _=>qN) (λ_ _ _ _ _=>sZ (ao (bg (J 4) Y) (ao cg az)))) (aC (n_ oQ Y (nZ (bg (J 0) Y)) (h8 (i:=4) vo.bj) (aX (d4 (js (cw (aeF T) ak Y bu (ao (dZ nr (bg (bg (J 0) Y) Y) (bg (J 4) Y) (λ_ _=>rfl)) (ao (bg (J 4) Y) az)))) (aX (ea (q1 oP uf w3 t8 (J 3) (ao (sZ (ao (bg (J 4) Y) (ao cg az))) az)))) d9))) (aX (bF (de oa (J 3) (te (b_:=Kf (ed (ha K (dc 4) "place") (ed (iP (.int 4)) gi))) Y vo.bj (nZ (t5 uN (J 2) (nq cg) Kq)) (og (own:=[("mark",4)]) Y) (λ_ _ _ _ _=>h8 (i:=4) vo.bj) (λ_ _ _ _ _=>qN) (λ_ _ _ _ _=>sZ (ao (bg (J 4) Y) (ao cg az)))))))))),?_⟩;obtain⟨p,g,st,_,dS,⟨_,bk⟩,aI,ax⟩:=id aeU;have gl:=Yv aj;have aV:=Of aj;refine⟨cn,_,_,_,_,Y,dS,T.jG.1,T.Hl,Y,g,_,83,_,Y,Yp,aI,dE gl dQ,λxN _ qj HX=>?_⟩;refine⟨cn,_,_,_,_,Y,qj _ _ dS,T.jG.1,T.z_,Y,st,_,75,_,Y,Dt,ax.same qj,dE aV dQ,λlN au eQ ki=>?_⟩;have HX:=HX.same eQ;have HY:=qj.trans eQ;obtain⟨cY,bw,_,_⟩:=id HX;refine⟨_,Y,xN,_,Y,bo.of bw,λq aQ=>?_⟩;have YA:=HX.Yt aQ bw;have Oh:aw au (av au q (.lst (m1 (cY.map V.ref) (B 1) aa))):=aw.new aQ;generalize av au q (.lst (m1 (cY.map V.ref) (B 1) aa))=bc at YA Oh ⊢;obtain⟨aeV,cx,dT,sX⟩:=id YA;refine⟨q,Y,⟨_,bo.of cx⟩,λaf d3=>?_⟩;have iX:((Tf.signed 83 (oq r)).drop 1).length<=169:=by rw[m_];have:=Du 83 (oq r);lia
 have gD:((Tf.signed 75 (Tf.aE r)).drop 1).length<=169:=by rw[m_];have:=Du 75 (Tf.aE r);lia
 have l3:aw bc (av bc af (.lst [])):=aw.new d3;refine uS (K:=K) (a:=q) (xs:=aeV.map V.ref) (λj cU=>aw bc cU/\fe cU af ((((Tf.signed 83 (oq r)).drop 1).take j).map (vJ 2))) ⟨l3,fe.nil b3⟩ (λj cU _ z=>bo.of (z.1 _ _ cx)) (λj x cU bY aR=>?_) λcU aR=>?_
 .obtain⟨Dx,Dy⟩:=aR;obtain⟨m,vI,rfl⟩:=Ad bY;have c6:j<((Tf.signed 83 (oq r)).drop 1).length:=by rw[<-dT];exact(ei.mp vI).1
  have ah:=ff c6;obtain⟨a3,hd⟩:=(sX j m _ vI ah).same Dx;obtain⟨ys,sa,xe⟩:=Dy.list;refine⟨Y,m,_,_,_,_,Y,hd,T.pM.1,T.Hk,Y,nU,λlI l1=>?_⟩;obtain⟨hK,g8⟩:=Dy.snoc (m:=vJ 2 ((Tf.signed 83 (oq r)).drop 1)[j]) sa l1;refine⟨ys,hK,?_,λb o z=>?_,?_⟩
  .rw[xe];exact gE (dE (Yz iX) dQ)
  .rw[aM (cV z d3),aM (cV (Dx _ _ z) l1)];exact Dx _ _ z
  rw[take_snoc ah,fO];exact g8
 obtain⟨Dx,Dy⟩:=aR;rw[cX,dT,jl]at Dy;have sr:au af=aa:=Oh.free d3;obtain⟨c7,s1,s2,bE⟩:=id (ax.same HY);have YB:=HY _ _ dS;have aeW:=HY _ _ bk;have Oi:aw au cU:=Oh.trans Dx;refine⟨cn,_,_,_,_,Y,Oi _ _ YB,T.jG.1,T.z_,Y,st,Y,⟨_,bo.of (Oi _ _ s1)⟩,yO (xs:=c7.map V.ref) (λi aN H'=>∃v,aN=[B (.ref cn),B (.ref xN),B (.ref lN),B (.ref af),v]/\aw au H'/\fe H' af (((Tf.signed 83 (oq r)).drop 1).map (vJ 2)++(((Tf.aE r).take i).filter (qY r)).map (vJ 3))) ⟨aa,Y,Oi,(by simpa using Dy)⟩ (λi aN H' _ bI=>?_) (λi x aN H' hi bI=>?_) λaN H' bI=>?_⟩
 .obtain⟨v,rfl,aE,_⟩:=bI;exact bo.of (aE _ _ s1)
 .obtain⟨v,rfl,aE,lA⟩:=bI;obtain⟨m,Dg,rfl⟩:=Ad hi;have c6:i<(Tf.aE r).length:=by rw[<-s2];exact(ei.mp Dg).1
  have ah:=ff c6;obtain⟨a3,hd⟩:=(bE i m _ Dg ah).same aE;have a7:=aeK aj _ (n0 ah);have GB:(Tf.fa r)[(Tf.aE r)[i].1]? =B ((Tf.fa r).getD (Tf.aE r)[i].1 0):=by rw[ua,ff (by rw[LQ];exact a7)];rfl
  refine⟨cn,_,_,_,_,Y,aE _ _ YB,T.jG.1,T.zZ,Y,p.1,_,_,_,_,Y,aE _ _ aeW,T.dm.1,T.oB,Y,m,_,_,_,_,Y,hd,T.pM.1,T.Hi,Y,_,_,_,Y,Y,A1 _ (LQ r),Ci GB,m,_,_,_,_,Y,hd,T.pM.1,T.Hj,Y,_,_,_,_,Y,Y,Y,_,Y,?_⟩;rw[take_snoc ah,aeS];obtain⟨xs,eM,eG⟩:=lA.list;cases e:qY r (Tf.aE r)[i]with
  |true=>
   refine eR e ⟨.inl ⟨Y,_,bo.of eM⟩,m,_,_,_,_,Y,hd,T.pM.1,T.Hk,Y,nU,λlI l1=>?_⟩;obtain⟨hK,g8⟩:=lA.snoc (m:=vJ 3 (Tf.aE r)[i]) eM l1;refine⟨af,_,_,Y,Y,hK,?_,_,Y,λb o z=>?_,?_⟩
   .rw[eG,dh,cX,cX];have O:=vY (qY r) ((Tf.aE r).take i);have a5:((Tf.aE r).take i).length<=(Tf.aE r).length:=by rw[ko];exact Ef _ _
    exact gE (by lia)
   .rw[aM (cV z sr),aM (cV (aE _ _ z) l1)];exact aE _ _ z
   rw[aZ Y,fO,<-lP];exact g8
  |false=>refine ec (by rw[show zj ((Tf.fa r).getD (Tf.aE r)[i].1 0) (Tf.aE r)[i].2.1=aK from e];decide) ⟨_,Y,aE,?_⟩;rw[aL dQ,hU];exact lA
 obtain⟨v,rfl,aE,lA⟩:=bI;rw[cX,s2,jl]at lA;have Dz:=ki.same aE;obtain⟨iw,gQ,_,_⟩:=id Dz;refine⟨_,Y,lN,_,Y,bo.of gQ,λyP YC=>?_⟩;have Dz:=Dz.Yt YC gQ;have Oj:aw H' (av H' yP (.lst (m1 (iw.map V.ref) (B 1) aa))):=aw.new YC;generalize av H' yP (.lst (m1 (iw.map V.ref) (B 1) aa))=c' at Dz Oj ⊢;obtain⟨hk,jg,gR,om⟩:=id Dz;refine⟨yP,Y,⟨_,bo.of jg⟩,λvK DA=>?_⟩;have aeX:aw c' (av c' vK (.lst [])):=aw.new DA;refine uS (K:=K) (a:=yP) (xs:=hk.map V.ref) (λj fQ=>aw c' fQ/\fe fQ vK ((((Tf.signed 75 (Tf.aE r)).drop 1).take j).map (vJ 4))) ⟨aeX,fe.nil b3⟩ (λj fQ _ z=>bo.of (z.1 _ _ jg)) (λj x fQ bY aR=>?_) λfQ aR=>?_
 .obtain⟨Ak,Al⟩:=aR;obtain⟨m,vI,rfl⟩:=Ad bY;have c6:j<((Tf.signed 75 (Tf.aE r)).drop 1).length:=by rw[<-gR];exact(ei.mp vI).1
  have ah:=ff c6;obtain⟨a3,hd⟩:=(om j m _ vI ah).same Ak;obtain⟨ys,sa,xe⟩:=Al.list;refine⟨Y,m,_,_,_,_,Y,hd,T.pM.1,T.Hk,Y,nU,λlI l1=>?_⟩;obtain⟨hK,g8⟩:=Al.snoc (m:=vJ 4 ((Tf.signed 75 (Tf.aE r)).drop 1)[j]) sa l1;refine⟨ys,hK,?_,λb o z=>?_,?_⟩
  .rw[xe];exact gE (dE (Yz gD) dQ)
  .rw[aM (cV z DA),aM (cV (Ak _ _ z) l1)];exact Ak _ _ z
  rw[take_snoc ah,fO];exact g8
 obtain⟨Ak,Al⟩:=aR;rw[cX,gR,jl]at Al;have YD:=(lA.same Oj).same Ak;obtain⟨xs,eM,eG⟩:=YD.list;obtain⟨zs,lV,oZ⟩:=Al.list;refine⟨af,vK,xs,zs,Y,Y,eM,lV,?_,λaeY HZ=>k aeY _ (aw.upd (((HY.trans aE).trans Oj).trans Ak) HZ) (fe.two YD Al eM lV HZ)⟩;rw[eG,oZ,dh,cX,cX,cX];have O:=vY (qY r) (Tf.aE r);exact hv (gE (by lia))
inductive DB (P:bP) (w:bG) (K:bb) (a6:a8->Iw ae) (base:bq) (k:Nat) (C:I) (cT aJ:sl a8) (sp:bN):Prop
 |mk f fd:kc K C f cT->GU P w K a6 base k f fd aJ sp->Binds K fd aJ []->DB P w K a6 base k C cT aJ sp
def tI.YE(L:tI K C bX cT st)(S:b' N aJ (bh st))(a0:∀(f:I)(bU:ae)(A:da)(outer:sl eC)(s:ay)(H:ag)(vs:sl V)(Q:c2)(E:cW),sp vs H Q E->∃t,ix (xk P w K a6 base N bX (bh st) f bU A outer s H E) (jR st) t/\t {c8:=λ_ H'=>Q .bR H',iw:=Q} (start N vs) H)(d:tJ sp "__init__" bX st aJ:=by exact{}):DB P w K a6 base (k+1) C cT aJ sp:=
 let⟨f,fd,hm,F⟩:=L;⟨f,fd,hm,a8E F S d.len λbU A outer s H vs Q E h=>a0 f bU A outer s H vs Q E h,F.binds d.bd⟩
def Ol{x:a8}{p:Pos}{t:gA}(af:DB X.prog X.w X.K X.a6 X.base k C cT aJ sp)(ak:kf (k+1) X.A)(aI:hJ X x)(hm:X.a6 x=B (.ref C))(bf:hI X (e::b5) t)(gj:kV x:=by decide)(aF:o9 X e b5:=by rfl)(eN:lx X pos b5:=by rfl):bS X (.Call (.Name x p) (e::b5) [] pos) (x7 C sp E t):=by obtain⟨f,_,ee,F,a0⟩:=af;exact a8G ee F ak aI hm a0 bf gj aF eN
def H_(C:I)(f g:a8):bN:=λvs H Q _=>qf λx u v=>il (vs=[.ref x,u,v]) (H x=B (dW x C aa 0)) (∀a3,H a3=aa->a3≠x->Q .bR (av (av (av H a3 (gs a3 [(f,u)])) x (dW x C (B a3) 0)) a3 (gs a3 [(f,u),(g,v)])))
def I0{a:I}{f g:a8}{u v:V}(bf:H a=aa)(fL:(av H a (dW a C aa 0)) a3=aa)(bV:a3≠a):aw H (av (av (av (av (av H a (dW a C aa 0)) a3 (gs a3 [(f,u)])) a (dW a C (B a3) 0)) a3 (gs a3 [(f,u),(g,v)])) a (dW a C (B a3) m))/\(av (av (av (av (av H a (dW a C aa 0)) a3 (gs a3 [(f,u)])) a (dW a C (B a3) 0)) a3 (gs a3 [(f,u),(g,v)])) a (dW a C (B a3) m)) a3=B (gs a3 [(f,u),(g,v)]):=by
 have vC:H a3=aa:=by rw[aM bV]at fL;exact fL
 refine⟨λc o q=>?_,by rw[aM bV,b3]⟩;have O:c≠a:=cV q bf;have a5:c≠a3:=cV q vC;rw[aM O,aM a5,aM O,aM a5,aM O];exact q
def aeZ{gH:I}{f g:a8}{u v:V}{pF:cW}(ee:kc K C gH cT)(h:∀a3 H',aw H H'->H' a3=B (gs a3 [(f,u),(g,v)])->E (.ref C) (B a3) H'):∀a,H a=aa->H_ C f g [.ref a,u,v] (av H a (dW a C aa 0)) (λw au=>w=.bR/\GI K E (.ref a) au) pF:=λa bf=>⟨a,u,v,Y,b3,λa3 fL bV=>⟨Y,a,C,a3,gH,cT,Y,by rw[aM (ej bV),b3],ee,h a3 _ (I0 bf fL bV).1 (I0 bf fL bV).2⟩⟩
def af0{gH e0 qe gI:I}{f g:a8}{u v:V}{pF:cW}(ee:kc K C gH cT)(b8:H e0=B (dW e0 qe (B gI) 1))(h:∀a3 H',aw H H'->H' a3=B (gs a3 [(f,u),(g,v)])->E (.ref C) (B a3) H'):∀a,H a=aa->H_ C f g [.ref a,u,v] (av H a (dW a C aa 0)) (λw au=>w=.bR/\GJ K e0 E (.ref a) au) pF:=λa bf=>⟨a,u,v,Y,b3,λa3 fL bV=>⟨Y,a,C,a3,gH,cT,qe,gI,Y,by rw[aM (ej bV),b3],ee,by
  have vC:H a3=aa:=by rw[aM bV]at fL;exact fL
  have O:e0≠a:=cV b8 bf;have a5:e0≠a3:=cV b8 vC;rw[aM a5,aM O,aM a5,aM O];exact b8,cV b8 bf,h a3 _ (I0 bf fL bV).1 (I0 bf fL bV).2⟩⟩
def af1{n:I}(h:Tf.Right r):hQ (tV n r)=Ho n r:=by
 have e:∀b:Bool,((vF b:Nat):Int)=b2 b:=λb=>by cases b<;>rfl
 unfold hQ tV Ho;dsimp only;rw[a6t h,e,e,e,e]
def rm(a:b4)(H:ag)(p n:I)(r:f5):Prop:=(∃a3,H p=B (.ins a.Rules a3 (Ho n r)))/\H n=B (.lst (cA r.name))
def rm.at{n:I}(h:rm a H p n r):fU a H p r:=let⟨⟨a3,q⟩,_⟩:=h;⟨(a3,n),q⟩
def rm.same{n:I}(h:rm a H p n r)(s:aw H H'):rm a H' p n r:=let⟨⟨a3,q⟩,z⟩:=h;⟨⟨a3,s _ _ q⟩,s _ _ z⟩
def af2(a:b4):bN:=λvs H Q E=>sf λaD b=>jE (vs=[.ref aD]) (H aD=B (.lst (cA b))) ((∀r p n H',mD b=.ok r->H p=aa->H n=aa->aw H H'->rm a H' p n r->Q (.ref p) H')) ((∀pN pl,mD b=.error (pN,pl)->∀a3 H',aw H H'->H' a3=B (gs a3 [("kind",.int ((pN:Nat):Int)),("place",.int ((pl:Nat):Int))])->E (.ref a.vq) (B a3) H'))
def YF(T:Txt K a6 a):DB P w K a6 base 1 a.vq ["kind","place"] ["self","kind","place"] (H_ a.vq "kind" "place"):=by have L:=T.Ny;obtain⟨_,_,ee,_⟩:=id L;refine L.YE a9R (λf _ A _ s H _ Q E h=>?_);obtain⟨x,u,v,rfl,ah,k⟩:=h;refine⟨_,aC (Cc (J 0) (J 1) Y) (aX (Cc (J 0) (J 2) Y)),x,_,_,_,Y,ee,by simp,.inl ⟨ah,λa3 fL bV=>?_⟩⟩;refine⟨x,_,_,_,Y,ee,by simp,.inr ⟨a3,_,b3,(by rw[aM bV,b3]),bV,(by show 1<1000;decide),?_⟩⟩;exact k a3 fL bV
def af3(T:Txt K a6 a):dH P w K a6 base (mb 2 P w) 7 "read_rules" ["source"] (af2 a):=by
 refine T.aba.kI Cx ?_;rintro f bU A _ s H _ _ E _ ak ⟨aD,b,rfl,fm,cK,bJ⟩;obtain⟨_,_,xO,_⟩:=id T.r7;obtain⟨_,_,Am,_⟩:=id T.Ny;have a5:kf 2 (A.deeper (fH "read_rules" (bh MQ) s⁻¹ f bU)):=dp.Ck ak.mono;refine⟨_,aC (GO (i:=2) (t:=1) (u:=2) (E1:=λcls i_ H'=>∃a3,∃k:Nat,cls=.ref a.mg/\i_=B a3/\pV b=.error k/\aw H H'/\H' a3=B (gs a3 [("place",.int (k:Int))])) (E2:=E) (th:=λe=>Mu K e (x7 a.vq (H_ a.vq "kind" "place") E (ed (iP (.int 1)) (ed (x9 K (dc 2) "place") gi))) E) Y Y Cx.bj Y Y Y T.tM xO (λc_ bL c=>aX (cz (i:=1) Cx.bj (cw (aeq T) ak Y c.passes (ao (J 0) az)))) d_ (λe c_ bL c=>aX (UL (e0:=e) (Ol (YF T) ⟨a5.eF,a5.un⟩ Y T.Nx (ao cg (ao (zv (J 2) Y) az))) Y c))) (aC (cz (i:=3) Cx.bj (de oa (de oa (cw (aeT T) ak.mono Y bu (ao (J 1) az)) (cw (aeQ T) ak.mono Y bu (ao (J 1) az))) (cw (aeP T) ak.mono Y bu (ao (J 1) az)))) (aC (d4 (d1 rS (fj jc Y T.i3 iu (ao (J 3) az)) cg (cu _)) (aC (cz (i:=4) Cx.bj (fj (a8B Y (FH ak)) Y T.ac8 boot_min (ao (J 3) az))) (aX (x8 (Ol (E:=E) (YF T) a5 Y T.Nx (ao (dZ m2 (J 4) cg (λ_ _=>rfl)) (ao (dZ m2 (J 4) cg (λ_ _=>rfl)) az))) Y d_))) d9) (aX (bF (bg (J 1) Y))))),⟨aD,b,Y,fm,λr cn p ai aI Om tw aE d3 af6=>?_,λk aA a3 ai aE hd=>⟨a3,k,Y,Y,aA,aE,hd⟩⟩,λcls i_ ai ⟨a3,k,aO,aT,aA,aE,hd⟩=>⟨aO,λe dV m aU aF _=>?_⟩⟩
 .have aj:=LW aI;refine⟨cn,b.length,r,Y,⟨p,d3⟩,aj,λxN _ s2 i0=>⟨cn,b.length,r,Y,⟨p,d3.same s2⟩,aj,λlN bc bE eb=>?_⟩⟩;have i0:=i0.same bE;obtain⟨Oo,eM,_⟩:=i0.list;obtain⟨Oq,eG,_⟩:=eb.list;have b1:(C0 r).length<=600:=by unfold C0;rw[dh,dh,cX,cX,cX,m_,m_];have:=Du 83 (oq r);have:=Du 75 (Tf.aE r);have:=Yv aj;have:=Of aj;have:=vY (qY r) (Tf.aE r);omega
  have b2:(tu r).length<=1:=by
   unfold tu;split
   .simp
   split<;>simp
  have m6:(w' b.length r).length<=1:=by unfold w';split<;>simp
  refine⟨xN,lN,Oo,Oq,Y,Y,eM,eG,hv (gE (by omega)),λOt tX=>?_⟩;have oz:=fe.two i0 eb eM eG tX;have s4:aw bc (av bc Ot (.lst (Oo++Oq))):=aw.new tX;generalize av bc Ot (.lst (Oo++Oq))=cU at oz s4 ⊢;have YI:=((d3.same s2).same bE).same s4;refine⟨cn,b.length,r,Y,⟨p,YI⟩,aj,λaf7 c' g0 vm=>?_⟩;have oz:=oz.same g0;obtain⟨Ou,ik,af8⟩:=oz.list;obtain⟨Ov,iF,_⟩:=vm.list;rw[dh]at af8;refine⟨Ot,af7,Ou,Ov,Y,Y,ik,iF,hv (gE (by omega)),λvK DA=>?_⟩;have zJ:=fe.two oz vm ik iF DA;have eX:aw c' (av c' vK (.lst (Ou++Ov))):=aw.new DA;generalize av c' vK (.lst (Ou++Ov))=fQ at zJ eX ⊢;rw[a6D aj]at zJ;have HZ:=(YI.same g0).same eX;have YJ:aw H fQ:=((((aE.trans s2).trans bE).trans s4).trans g0).trans eX;obtain⟨ts,gQ,nz,t3⟩:=id zJ;rw[cX]at nz;refine⟨vK,_,Y,.inl (bo.of gQ),_,_,Y,Y,_,Y,gq (λh=>?_) λh=>?_⟩
  .have h:=e7 h;rw[cX]at h;have jf:0<ts.length:=by omega
   refine⟨vK,ts,(rF b.length r).map λf=>(((f.2:Nat):Int),((f.1:Nat):Int)),Y,bo.of gQ,(by rw[cX];exact nz),λi t p b9 aq=>?_,jf,λi t p b9 aq af9=>?_⟩
   .rw[fW]at aq;cases e:(rF b.length r)[i]? with|none=>rw[e]at aq;cases aq|some f=>rw[e]at aq;cases aq;exact dt.of (t3 i t (f.2,f.1) b9 (by rw[fW,e];rfl))
   rw[fW]at aq;cases e:(rF b.length r)[i]? with
   |none=>rw[e]at aq;cases aq
   |some f=>
    rw[e]at aq;cases aq;have FZ:=t3 i t (f.2,f.1) b9 (by rw[fW,e];rfl);have bY:mD b=.error (f.1,f.2):=a67 aI (n0 e) λy bl=>by
     have z:=af9 (((y.2:Nat):Int),((y.1:Nat):Int)) (fG.mpr ⟨y,bl,Y⟩);have mI:¬(((y.2:Nat):Int)<((f.2:Nat):Int)∨(((y.2:Nat):Int)=((f.2:Nat):Int)/\((y.1:Nat):Int)<((f.1:Nat):Int))):=λq=>by rw[(xj _ _).mpr q]at z;cases z
     unfold kF;omega
    refine⟨t,_,_,_,Y,Y,dt.of FZ,gw (j:=1) Y,t,_,_,_,Y,Y,dt.of FZ,gw (j:=0) Y,nU,aeZ Am λa3 fv Ox hd=>bJ f.1 f.2 bY a3 fv (YJ.trans Ox) hd⟩
  have aR:rF b.length r=[]:=by have:¬ts.length>0:=λz=>h (eL (by rw[cX];omega));exact List.length_eq_zero_iff.mp (by omega)
  obtain⟨g,_,_,dS,⟨dv,bk⟩,_⟩:=HZ;refine⟨cn,_,_,_,_,Y,dS,T.jG.1,T.zZ,Y,cK r p.1 p.2 fQ (a68 aI aR) Om tw YJ ⟨⟨dv,?_⟩,(((((aw.refl _).trans s2).trans bE).trans s4).trans (g0.trans eX)) _ _ af6⟩⟩;rw[<-af1 (Tf.right_of aj aR)];exact bk
 have oI:m=1:=by omega
 subst oI;have lH:dV=a3:=by rw[aT]at aU;exact(h4 aU).symm
 subst lH;refine⟨e,_,_,_,dV,_,_,_,Y,xO,by simp,aF,hd,A9 aF hd,Y,nU,af0 Am aF λmi fv Ox afa=>bJ 1 k (a69 aA) mi fv (aE.trans Ox) afa⟩
def gV(u v:aS):cm u++cm v=cm (u++v):=by unfold cm dC;show(⟨_++_⟩:a8)=_;rw[fO];simp
def afb{x:Nat}(h:x<13):ho ("abcdefghijklm" :a8).cps.toList ((x:Nat):Int)=B (97+x):=
 (by decide+kernel:∀x:Fin 13,ho ("abcdefghijklm" :a8).cps.toList ((x.val:Nat):Int)=B (97+x.val)) ⟨x,h⟩
def YK{y:Nat}(h:y<60):((toString ((y:Nat):Int):String):a8)=cm (uy y):=
 (by decide+kernel:∀y:Fin 60,((toString ((y.val:Nat):Int):String):a8)=cm (uy y.val)) ⟨y,h⟩
def YL{y:Nat}(h:y<60):(uy y).length<=2:=
 (by decide+kernel:∀y:Fin 60,(uy y.val).length<=2) ⟨y,h⟩
def afc{x:Nat}(h:x<13):(⟨#[97+x]⟩:a8)=cm [n8 (97+x)]:=
 (by decide+kernel:∀x:Fin 13,(⟨#[97+x.val]⟩:a8)=cm [n8 (97+x.val)]) ⟨x,h⟩
def vL(h:c<169):(eK c).length<=3:=by
 have:=YL (y:=c/13+1) (by lia);unfold eK mC;rw[fX]
 lia
def Oy{m:Nat×Nat}(O:m.1<169)(a5:m.2<169):(jd m).length<=7:=by
 have:=vL O;have:=vL a5;unfold jd;rw[dh,fX]
 lia
def DC:("-" :a8)=cm [45]:=by decide+kernel
def afd:bN:=λvs H Q _=>∃c:Nat,il (vs=[.int (c:Int)]) (c<169) (Q (.str (cm (eK c))) H)
def afe:bN:=λvs H Q _=>sf λ(x y:Nat)=>jE (vs=[.int (x:Int),.int (y:Int)]) (x<169) (y<169) (Q (.str (cm (jd (x,y)))) H)
def I1(T:Txt K a6 a):dH P w K a6 base cp 1 "cell_name" ["cell"] afd:=by
 refine T.aaU.ok a9v ?_;rintro _ _ _ _ _ _ _ _ _ _ _ ⟨c,rfl,a7,k⟩;refine⟨_,aX (bF (de pb (dZ nr (e' T.aar Y) (de F6 (J 0) (cL T.qh Y)) (λ_ _=>rfl)) (Fg K5 Y T.Nz a16 (ao (de o3 (de F5 (J 0) (cL T.qh Y)) cg) az)))),?_⟩;have ah:c%13<13:=PO _ dQ;have aO:(c:Int)%13=((c%13:Nat):Int):=by lia
 have aT:(c:Int)/13+1=((c/13+1:Nat):Int):=by lia
 have bl:c/13+1<60:=by lia
 refine⟨_,_,Y,Y,(by show(0:Int)<13;decide),_,_,97+c%13,Y,Y,dQ,?_,_,_,Y,Y,⟨(by show(0:Int)<13;decide),(by show(13:Int)<1073741824;decide)⟩,_,_,Y,Y,_,Y,?_,?_⟩
 .show ho _ ((c:Int)%13)=_;rw[aO];exact afb ah
 .show((c:Int)/13+1).natAbs.log2<1920;rw[aT];exact lR (PM _) (by show c/13+1<1920;lia)
 show∃i j,V.str _=.str i/\V.str (toString ((c:Int)/13+1))=.str j/\_/\_;rw[aT,YK bl,afc ah];refine⟨_,_,Y,Y,?_,?_⟩
 .rw[fz,fz];have:=YL bl;exact hv (gE (by rw[gy];lia))
 rw[gV];exact k
def YM(T:Txt K a6 a):dH P w K a6 base cp 2 "line_head" ["x","y"] afe:=by
 refine T.aaV.ok a9w ?_;rintro _ _ _ _ _ _ _ _ _ _ ak ⟨x,y,rfl,ah,bl,k⟩;refine⟨_,aX (bF (de pb (de pb (cw (I1 T) ak Y bu (ao (J 0) az)) ek) (cw (I1 T) ak Y bu (ao (J 1) az)))),?_⟩;have O:=vL ah;have a5:=vL bl;refine⟨x,Y,ah,_,_,Y,Y,?_,y,Y,bl,_,_,Y,Y,?_,?_⟩
 .rw[DC,fz,fz];exact hv (gE (by rw[gy];lia))
 .rw[DC,gV,fz,fz];exact hv (gE (by rw[dh,gy];lia))
 rw[DC,gV,gV,lP];exact k
def aff(l:sl aS):Eo "," (l.map cm)=cm (ka l):=by
 refine TL.Ln ?_;rw[TL.join_eq,TL.FE];have tY:∀b:aS,TL.dY (cm b)=b.map yB:=λb=>by unfold cm;show(dC _).cps.toList=_;rw[Aj]
 have e:∀l:sl aS,TL.z3 (TL.dY ",") ((l.map cm).map TL.dY)=(ka l).map yB:=by
  intro l;induction l with
  |nil=>rfl
  |cons x l ih=>cases l with|nil=>exact tY x|cons y l=>show TL.dY (cm x)++(TL.dY "," ++_)=_;rw[tY,show TL.dY "," =[44]from by decide+kernel];show _=(x++(44::ka (y::l))).map yB;rw[fO,ir,<-ih];rfl
 rw[e,tY]
def afg:("x" :a8)=cm [120]:=by decide+kernel
def YN:("#" :a8)=cm [35]:=by decide+kernel
def YO(h:n<=3):((toString ((n:Nat):Int):String):a8)=cm [n8 (48+n)]:=
 (by decide+kernel:∀n:Fin 4,((toString ((n.val:Nat):Int):String):a8)=cm [n8 (48+n.val)]) ⟨n,by lia⟩
def I2(l:sl Nat):sl V:=(l.map eK).map λb=>V.str (cm b)
def afh:bN:=λvs H Q _=>kJ λlI (x y o:Nat) (ts:sl Nat)=>tH (vs=[.ref lI]) (H lI=B (.lst (dD (x::y::o::ts)))) (x<169) (y<169) (o<=5) ((∀c∈ts,c<169)) (ts.length<=4) (∀H',aw H H'->Q (.str (cm (C2 x y o ts))) H')
def afi(a:b4):bN:=λvs H Q _=>jD λp r q cZ x y=>r5 (vs=[.ref p,.ref cZ,.int ((x:Nat):Int),.int ((y:Nat):Int)]) (fU a H p r) (jH a H cZ q) (hc r) (eg r q) (px r q (x,y)) (∀H',aw H H'->Q (.str (cm (r.moveLine q (x,y)))) H')
def afj(x y o:Nat)(ts:sl Nat):m1 (dD (x::y::o::ts)) (B 3) aa=dD ts:=by
 unfold m1;rw[show(3:Int)=((3:Nat):Int)from Y,HT.uM,HT.a3q,jI];show((dD (x::y::o::ts)).drop (min 3 (ts.length+1+1+1))).take ((ts.length+1+1+1)-min 3 (ts.length+1+1+1))=_;rw[y7 (by lia)];show(dD ts).take _=_;rw[lQ];rw[jI]
 lia
def afk(l:sl Nat)(h:∀c∈l,c<169):(((l.map eK).map cm).map (·.length)).sum<=l.length*3:=by
 induction l with
 |nil=>simp
 |cons c l ih=>
  have O:=vL (h c (by simp));have a5:=ih λx ah=>h x (eH _ ah);simp only[ir,IV,fX,fz];rw[IW]
  lia
def YP(T:Txt K a6 a):dH P w K a6 base cp 3 "move_line" ["told"] afh:=by
 refine T.aaW.ok vn ?_;rintro _ _ _ _ _ H _ _ _ _ ak ⟨lI,x,y,o,ts,rfl,l1,ah,bl,aU,kS,dY,k⟩;refine⟨_,aC (cz (i:=1) vn.bj (cw (YM T) ak Y bu (ao (dZ hL (J 0) cg (λ_ _=>rfl)) (ao (dZ hL (J 0) cg (λ_ _=>rfl)) az)))) (aC (cz (i:=2) vn.bj (t5 uN (J 0) (nq (cL T.aab Y)) Kq)) (aC (cz (i:=3) vn.bj (dZ hL (J 0) cg (λ_ _=>rfl))) (aC (d4 (d1 rS (fj jc Y T.i3 iu (ao (J 2) az)) cg (cu _)) (aX (wq (i:=1) vn.bj Y (v' Y) (de pb ek (BP ek (te Y vn.bj (nZ (J 2)) (og (own:=[("cell",4)]) Y) (λ_ _ _ _ _=>h8 (i:=4) vn.bj) (λ_ _ _ _ _=>qN) (λ_ _ _ _ _=>cw (I1 T) ak.mono Y bu (ao (J 4) az))))) K4)) d9) (aC (d4 (K3 pa rR (cL T.si Y) (J 3) (cL T.Ng Y)) (aX (wq (i:=1) vn.bj Y (v' Y) (de pb ek (Fg K5 Y T.Nz a16 (ao (J 3) az))) K4)) d9) (aX (bF (J 1))))))),?_⟩;have ar:=Oy (m:=(x,y)) ah bl;refine⟨lI,_,_,_,Y,Y,bo.of l1,gw (j:=0) Y,lI,_,_,_,Y,Y,bo.of l1,gw (j:=1) Y,x,y,Y,ah,bl,_,Y,lI,_,Y,bo.of l1,λl I3=>?_⟩;rw[afj];have s1:aw H (av H l (.lst (dD ts))):=aw.new I3;have gu:(av H l (.lst (dD ts))) l=B (.lst (dD ts)):=b3;generalize av H l (.lst (dD ts))=ai at s1 gu ⊢;refine⟨lI,_,_,_,Y,Y,bo.of (s1 _ _ l1),gw (j:=2) Y,l,_,Y,.inl (bo.of gu),_,_,Y,Y,_,Y,?_⟩;have I4:=Gi x y o ts;by_cases b9:ts=[]
 .rw[aZ b9,Ec]at I4;refine ec (by rw[jI,b9];decide) ?_;have bx:(jd (x,y)).length<=1000:=by lia
  have eq:=I4;have mq:=s1;refine⟨_,_,Y,Y,_,Y,?_⟩;by_cases DD:0<o
  .refine eR (eL (by lia)) ⟨_,_,Y,Y,_,Y,?_⟩;by_cases xP:o<=3
   .refine eR (eL (by lia)) ⟨_,Y,?_,?_⟩
    .show((o:Nat):Int).natAbs.log2<1920;exact lR (PM _) (by show o<1920;lia)
    rw[YO xP,YN];refine⟨_,_,Y,Y,?_,?_⟩
    .rw[fz,fz];exact hv (gE (by simp))
    rw[gV];refine⟨_,_,Y,Y,?_,?_⟩
    .rw[fz,fz];exact dE (aiZ bx (cP 2)) dQ
    rw[gV];refine ?_;have c9:=k _ mq;rw[eq,show qZ o=[35,n8 (48+o)]from aZ ⟨DD,xP⟩]at c9;exact c9
   refine ec (λz=>xP (by have:=e7 z;lia)) ?_;have c9:=k _ mq;rw[eq,show qZ o=[]from aL (by lia),hU]at c9;exact c9
  refine ec (λz=>DD (by have:=e7 z;lia)) ⟨_,Y,gF ?_⟩;have c9:=k _ mq;rw[eq,show qZ o=[]from aL (by lia),hU]at c9;exact c9
 rw[aL b9,<-lP]at I4;have jf:0<ts.length:=a0I.mpr b9;refine eR (eL (by rw[jI];lia)) ?_;refine⟨⟨_,Y⟩,l,Y,⟨_,bo.of gu⟩,λaf d3=>?_⟩;have l3:aw ai (av ai af (.lst [])):=aw.new d3;refine uS (K:=K) (a:=l) (xs:=dD ts) (λj bc=>aw ai bc/\bc af=B (.lst (I2 (ts.take j)))) ⟨l3,b3⟩ (λj bc _ z=>bo.of (z.1 _ _ gu)) (λj v bc bY aR=>?_) λbc aR=>?_
 .obtain⟨fy,tX⟩:=aR;obtain⟨c,DE,rfl⟩:=D0 bY;refine⟨Y,c,Y,kS c (n0 DE),_,tX,?_,λb o z=>?_,?_⟩
  .unfold I2;rw[cX,cX,ko];exact gE (by lia)
  .rw[aM (cV z d3)];exact fy _ _ z
  rw[b3,take_snoc DE];unfold I2;rw[fO,fO];rfl
 obtain⟨fy,tX⟩:=aR;rw[jI,jl]at tX;have YQ:(ka (ts.map eK)).length<=16:=by
  have z:=Mb (n:=3) (ts.map eK) λb a0=>by obtain⟨c,a7,rfl⟩:=fG.mp a0;exact vL (kS c a7)
  rw[cX]at z
  lia
 refine⟨",",af,(ts.map eK).map cm,Y,Y,.inl (bo.of (tX.trans ?_)),?_,?_⟩
 .unfold I2;rw[iL,iL,iL];rfl
 .have z:=afk _ kS;rw[cX,cX,show("," :a8).length=1 from by decide+kernel]
  lia
 rw[aff,afg];refine⟨_,_,Y,Y,?_,?_⟩
 .rw[fz,fz,gy];exact hv (gE (by lia))
 rw[gV];refine⟨_,_,Y,Y,?_,?_⟩
 .rw[fz,fz,dh,gy];exact hv (gE (by lia))
 rw[gV];have bx:(jd (x,y)++([120]++ka (ts.map eK))).length<=1000:=by
  rw[dh,dh,gy]
  lia
 have eq:=I4;have mq:=s1.trans fy;refine⟨_,_,Y,Y,_,Y,?_⟩;by_cases DD:0<o
 .refine eR (eL (by lia)) ⟨_,_,Y,Y,_,Y,?_⟩;by_cases xP:o<=3
  .refine eR (eL (by lia)) ⟨_,Y,?_,?_⟩
   .show((o:Nat):Int).natAbs.log2<1920;exact lR (PM _) (by show o<1920;lia)
   rw[YO xP,YN];refine⟨_,_,Y,Y,?_,?_⟩
   .rw[fz,fz];exact hv (gE (by simp))
   rw[gV];refine⟨_,_,Y,Y,?_,?_⟩
   .rw[fz,fz];exact dE (aiZ bx (cP 2)) dQ
   rw[gV];refine ?_;have c9:=k _ mq;rw[eq,show qZ o=[35,n8 (48+o)]from aZ ⟨DD,xP⟩]at c9;exact c9
  refine ec (λz=>xP (by have:=e7 z;lia)) ?_;have c9:=k _ mq;rw[eq,show qZ o=[]from aL (by lia),hU]at c9;exact c9
 refine ec (λz=>DD (by have:=e7 z;lia)) ⟨_,Y,gF ?_⟩;have c9:=k _ mq;rw[eq,show qZ o=[]from aL (by lia),hU]at c9;exact c9
def afl(T:Txt K a6 a):dH P w K a6 base cp 7 "whole_line" ["rules","position","x","y"] (afi a):=by
 refine T.aaX.ok WW ?_;rintro _ _ _ _ _ _ _ _ _ _ ak ⟨p,r,q,cZ,x,y,rfl,d2,bI,aj,hw,di,k⟩;refine⟨_,aC (cz (i:=4) WW.bj (cw (XI T) ak Y bu (ao (J 0) (ao (J 1) (ao (J 2) (ao (J 3) az)))))) (aX (bF (cw (YP T) ak.mono Y bu (ao (de oa (fC (ao (J 2) (ao (J 3) (ao (cw (XD T) ak Y bu (ao (J 0) (ao (bg (J 4) Y) az))) az)))) (bg (J 4) Y)) az)))),?_⟩;have afm:=(FY hw aj.c0 di).1;have ol:=Gf r (r.comes q (x,y));have dY:=C4 hw aj.c0 di;refine⟨p,r,q,cZ,x,y,Y,d2,bI,aj,hw,di,λo _ eb l _ _ _ s1 aU nF gu=>?_⟩;refine⟨o,_,_,_,_,Y,aU,T.xu.1,T.Nu,Y,p,r,_,eb,Y,d2.same s1,nF,aj,afm,λau s2=>⟨Jw,λny Df=>?_⟩⟩;have bE:=aw.upd (o:=.lst [.int (x:Int),.int (y:Int),.int ((r.over (r.comes q (x,y)):Nat):Int)]) (aw.refl au) Df;refine⟨o,_,_,_,_,Y,bE _ _ (s2 _ _ aU),T.xu.1,T.Nv,Y,ny,l,_,_,Y,Y,b3,bE _ _ (s2 _ _ gu),?_,λgQ I5=>?_⟩
 .rw[jI];exact hv (gE (by show 3+_<=1000;lia))
 refine⟨gQ,x,y,r.over (r.comes q (x,y)),r.takes q (x,y),Y,b3,aj.c0.lt di.eO,aj.c0.lt di.gm,(by lia),Gg hw aj.c0 di,dY,λc' g0=>?_⟩;have c9:=k c' (((s1.trans s2).trans (aw.upd bE I5)).trans g0);rw[TR]at c9;exact c9
def Oz{m:Nat×Nat}(s:dj r)(hw:eg r q)(di:px r q m):(r.moveLine q m).length<=30:=by
 rw[Ma];have O:=Oy (m:=m) (s.lt di.eO) (s.lt di.gm);have dY:=C4 hw s di;have z:=Mb (n:=3) ((r.takes q m).map eK) λb a0=>by obtain⟨c,a7,rfl⟩:=fG.mp a0;exact vL (Gg hw s di c a7)
 rw[cX]at z;rw[dh,dh];have a5:(if r.takes q m=[]then[]else 120::ka ((r.takes q m).map eK)).length<=17:=by
  split
  .simp
  rw[fX];lia
 have aG:(if r.over (r.comes q m)=0 then[]else[35,n8 (48+r.over (r.comes q m))]).length<=2:=by
  split
  .simp
  simp
 lia
def afn(a:b4):bN:=λvs H Q _=>G_ λp r q cZ x y aD b=>tH (vs=[.ref p,.ref cZ,.int ((x:Nat):Int),.int ((y:Nat):Int),.ref aD]) (fU a H p r) (jH a H cZ q) (hc r) (eg r q) (px r q (x,y)) (H aD=B (.lst (cA b))) (∀l H',H l=aa->aw H H'->H' l=B (.lst (cA (jT r q b (x,y))))->Q (.ref l) H')
def OA(a:b4):bN:=λvs H Q E=>jD λp r q cZ aD b=>MK (vs=[.ref p,.ref cZ,.ref aD]) (fU a H p r) (jH a H cZ q) (hc r) (eg r q) (r.ended q=0) (H aD=B (.lst (cA b))) ((∀m t H',r.readMove q b=.ok m->aw H H'->H' t=B (.tup [.int ((m.1:Nat):Int),.int ((m.2:Nat):Int)])->Q (.ref t) H')) ((∀k:Nat,r.readMove q b=.error k->∀a3 H',aw H H'->H' a3=B (gs a3 [("place",.int (k:Int))])->E (.ref a.vp) (B a3) H'))
def YR:bN:=λvs H Q _=>qf λaD b (c:Nat)=>jE (vs=[.ref aD,.int (c:Int)]) (H aD=B (.lst (cA b))) (c<169) (∀H',aw H H'->Q (.c3 (kb b c)) H')
def tZ(r:f5)(q:gv)(b:aS):sl (Nat×Nat):=if((r.moves q).filter λm=>kb b m.1)=[]then r.moves q else(r.moves q).filter λm=>kb b m.1
def afo{m:Nat×Nat}(h:m∈tZ r q b):m∈r.moves q:=by
 unfold tZ at h;split at h
 .exact h
 exact(jk.mp h).1
def afp(a7:∀m∈r.moves q,m.1<169):u' r q b (tZ r q b)=r.readMove q b:=by
 unfold tZ;by_cases h:((r.moves q).filter λm=>kb b m.1)=[]
 .rw[aZ h];rfl
 rw[aL h,a6Z a7 h];rfl
def afq(a:b4):bN:=λvs H Q _=>jD λp r q cZ aD b=>tH (vs=[.ref p,.ref cZ,.ref aD]) (fU a H p r) (jH a H cZ q) (dj r) (eg r q) (r.ended q=0) (H aD=B (.lst (cA b))) (∀l H',aw H H'->fe H' l (tZ r q b)->Q (.ref l) H')
def afr(T:Txt K a6 a):dH P w K a6 base cp 8 "line_to_compare" ["rules","position","x","y","source"] (afn a):=by
 refine T.aaY.ok WX ?_;rintro _ _ _ _ _ _ _ _ _ _ ak ⟨p,r,q,cZ,x,y,aD,b,rfl,d2,bI,aj,hw,di,ax,k⟩;refine⟨_,aC (cz (i:=5) WX.bj (cw (sk T) ak.mono Y bu (ao (cw (YM T) ak.mono Y bu (ao (J 2) (ao (J 3) az))) az))) (aC (d4 (d1 pa (cw (D2 T) ak.mono Y bu (ao (J 4) (ao cg (ao (J 5) az)))) (fj jc Y T.i3 iu (ao (J 5) az)) (cu _)) (aX (bF (J 5))) d9) (aX (bF (cw (sk T) ak.mono Y bu (ao (cw (afl T) ak Y bu (ao (J 0) (ao (J 1) (ao (J 2) (ao (J 3) az))))) az))))),?_⟩;have ah:x<169:=aj.c0.lt di.eO;have bl:y<169:=aj.c0.lt di.gm;have ar:=Oy (m:=(x,y)) ah bl;refine⟨x,y,Y,ah,bl,_,Y,(by lia),λl _ I6 s1 gu=>?_⟩;refine⟨aD,b,0,l,_,Y,s1 _ _ ax,gu,λau s2=>⟨l,_,Y,.inl (bo.of (s2 _ _ gu)),_,_,Y,Y,_,Y,?_⟩⟩;have pQ:=s1.trans s2;rw[iI,E8];by_cases h:cj b (jd (x,y))<(jd (x,y)).length
 .refine eR (eL (by lia)) ?_;refine k l au I6 pQ ?_;unfold jT;rw[aZ h];exact s2 _ _ gu
 refine ec (λz=>h (by have:=e7 z;lia)) ⟨p,r,q,cZ,x,y,Y,d2.same pQ,bI.same pQ,aj,hw,di,λ_ bE=>?_⟩;have bC:=Oz aj.c0 hw di;refine⟨_,Y,(by lia),λOw cU afs s4 su=>k Ow cU ((pQ.trans bE).free afs) ((pQ.trans bE).trans s4) ?_⟩;unfold jT;rw[aL h];exact su
def aft(T:Txt K a6 a):dH P w K a6 base cp 2 "begins_with_cell" ["source","cell"] YR:=by
 refine T.aaZ.ok WY ?_;rintro _ _ _ _ _ _ _ _ _ _ ak ⟨aD,b,c,rfl,ax,a7,k⟩;refine⟨_,aC (cz (i:=2) WY.bj (cw (sk T) ak Y bu (ao (de pb (cw (I1 T) ak Y bu (ao (J 1) az)) ek) az))) (aX (bF (gM dB (cw (D2 T) ak Y bu (ao (J 0) (ao cg (ao (J 2) az)))) (fj jc Y T.i3 iu (ao (J 2) az)) (cu _)))),?_⟩;have O:=vL a7;refine⟨c,Y,a7,_,_,Y,Y,?_,?_⟩
 .rw[DC,fz,fz];exact hv (gE (by rw[gy];lia))
 rw[DC,gV];refine⟨_,Y,(by rw[dh,gy];lia),λl _ _ s1 gu=>?_⟩;refine⟨aD,b,0,l,_,Y,s1 _ _ ax,gu,λau s2=>⟨l,_,Y,.inl (bo.of (s2 _ _ gu)),Y,?_⟩⟩;rw[iI,E8];have c9:=k au (s1.trans s2);have e:decide (V.int ((cj b (eK c++[45]):Nat):Int)=V.int (((eK c++[45]).length:Nat):Int))=kb b c:=by rw[hT,mE];unfold kb;rw[pC];exact⟨λz=>by have z:=V.int.inj z;lia,λz=>by rw[z]⟩
 rw[<-e]at c9;exact c9
def afu(T:Txt K a6 a):dH P w K a6 base cp 7 "moves_to_compare" ["rules","position","source"] (afq a):=by
 refine T.ab0.ok H5 ?_;rintro f bU A _ s _ _ _ _ _ ak ⟨p,r,q,cZ,aD,b,rfl,d2,bI,c0,hw,fb,ax,k⟩;have f7:dp 5 (A.deeper (fH "moves_to_compare" (bh H2) s⁻¹ f bU)):=ak.mono;have a5:dp 2 (A.deeper (fH "moves_to_compare" (bh H2) s⁻¹ f bU)):=ak.mono;refine⟨_,aC (Fx (i:=3) (tt:=p0 (iR YR [] q5 (ed (dc 2) (ed (dc 4) gi)))) Y H5.bj Y Y (Fy Y Y Y Y) (nZ (cw (NK T) a5 Y bu (ao (J 1) az))) (og (own:=[("cell",4)]) Y) (λ_ _ _ _ _=>h8 (i:=4) H5.bj) (λ_ _ _ _ _=>KS (js (cw (aft T) a5 Y bu (ao (J 2) (ao (J 4) az))))) (λ_ _ _ _ _=>J 4)) (aC (cz (i:=5) H5.bj (cw (Xu T) f7 Y bu (ao (J 0) (ao (J 1) (ao (J 3) az))))) (aC (d4 (d1 rS (fj jc Y T.i3 iu (ao (J 5) az)) cg (cu _)) (aX (bF (J 5))) d9) (aX (bF (cw (acG T) ak Y bu (ao (J 0) (ao (J 1) az))))))),?_⟩;have oI:=LK hw c0 fb;have kH:(((oF q).filter (kb b)).flatMap λc=>(i2 r q c).map λt=>(c,t))=(r.moves q).filter λm=>kb b m.1:=by rw[T',oI];unfold oF;rw[Hx]
 refine⟨q,cZ,Y,bI,λol _ ai s1 YS=>⟨ol,Y,⟨_,bo.of YS⟩,λaf d3=>?_⟩⟩;have l3:aw ai (av ai af (.lst [])):=aw.new d3;refine uS (K:=K) (a:=ol) (xs:=dD (oF q)) (λj bc=>aw ai bc/\bc af=B (.lst (dD (((oF q).take j).filter (kb b))))) ⟨l3,b3⟩ (λj bc _ z=>bo.of (z.1 _ _ YS)) (λj v bc bY aR=>?_) λbc aR=>?_
 .obtain⟨aE,gU⟩:=aR;obtain⟨c,DE,rfl⟩:=D0 bY;have fy:=s1.trans aE;refine⟨Y,aD,b,c,Y,fy _ _ ax,Hw (n0 DE),λcU s4=>⟨_,Y,?_⟩⟩;have st:((oF q).take (j+1)).filter (kb b)=((oF q).take j).filter (kb b)++(if kb b c=a9 then[c]else[]):=by rw[take_snoc DE,Ay,qw,IP]
  cases aU:kb b c with
  |false=>refine gF ⟨aE.trans s4,?_⟩;rw[st,aU,s4 _ _ gU];simp
  |true=>
   refine hM ⟨_,s4 _ _ gU,?_,λb o z=>?_,?_⟩
   .rw[jI];have alp:=NJ q;exact lR (dE (vY ..) (by rw[ko];lia:_<=169)) dQ
   .rw[aM (cV z d3)];exact s4 _ _ (aE _ _ z)
   rw[b3,st,aU,Ht];rfl
 obtain⟨aE,gU⟩:=aR;rw[jI,jl]at gU;have fy:=s1.trans aE;refine⟨p,r,q,cZ,af,(oF q).filter (kb b),Y,d2.same fy,bI.same fy,c0,hw,gU,λc a7=>Hw (jk.mp a7).1,dE (vY ..) (NJ q),λl _ cU s4 lA=>?_⟩;rw[kH]at lA;obtain⟨xs,eM,eG⟩:=lA.list;refine⟨l,_,Y,.inl (bo.of eM),_,_,Y,Y,_,Y,?_⟩;rw[eG];by_cases b8:((r.moves q).filter λm=>kb b m.1)=[]
 .refine ec (by rw[b8];decide) ⟨p,r,q,cZ,Y,d2.same (fy.trans s4),bI.same (fy.trans s4),c0,hw,λafv _ c' g0 afw=>k afv c' ((fy.trans s4).trans g0) ?_⟩;unfold tZ;rw[aZ b8,oI];exact afw
 refine eR (eL (by have:=a0I.mpr b8;lia)) (k l cU (fy.trans s4) ?_);unfold tZ;rw[aL b8];exact lA
def YT(T:Txt K a6 a):dH P w K a6 base (pE P w) 9 "said_move" ["rules","position","source"] (OA a):=by
 refine T.ab1.kI zQ ?_;rintro _ _ _ _ _ _ _ _ _ _ ak ⟨p,r,q,cZ,aD,b,rfl,d2,bI,aj,hw,fb,ax,cK,bJ⟩;refine⟨_,aC (cz (i:=3) zQ.bj cg) (aC (n_ AP Y (nZ (cw (afu T) ak.mono Y bu (ao (J 0) (ao (J 1) (ao (J 2) az))))) (h8 (i:=4) zQ.bj) (aC (cz (i:=5) zQ.bj (cw (afr T) ak Y bu (ao (J 0) (ao (J 1) (ao (dZ m2 (J 4) cg (λ_ _=>rfl)) (ao (dZ m2 (J 4) cg (λ_ _=>rfl)) (ao (J 2) az))))))) (aC (cz (i:=6) zQ.bj (cw (D2 T) ak.mono Y bu (ao (J 2) (ao cg (ao (J 5) az))))) (aC (d4 (jq.pt (nX (d1 dB (J 6) (fj jc Y T.i3 iu (ao (J 5) az)) (cu _)) (p_ (d1 dB (J 6) (fj jc Y T.i3 iu (ao (J 2) az)) (cu _))))) (aX (bF (J 4))) d9) (aX (cz (i:=3) zQ.bj (fj (R9 Y) Y T.NA a15 (ao (J 3) (ao (J 6) az))))))))) (aX (x8 (zH (adk T) ak.mono Y T.Nw bu (ao (J 3) az)) Y d_))),?_⟩;obtain⟨_,_,ee,_⟩:=T.Hc;have Dl:=afp (r:=r) (q:=q) (b:=b) λm hm=>aj.c0.lt (pz hw aj.c0 hm).eO;refine⟨p,r,q,cZ,aD,b,Y,d2,bI,aj.c0,hw,fb,ax,λl ai s1 vz=>?_⟩;have YU:∀m∈tZ r q b,m∈r.moves q:=λm hm=>afo hm;generalize tZ r q b=L at Dl vz YU;obtain⟨ts,gQ,nz,t3⟩:=id vz;refine⟨l,Y,⟨_,bo.of gQ⟩,yO (xs:=ts.map V.ref) (λi aN H'=>∃gc fE i4,aN=[B (.ref p),B (.ref cZ),B (.ref aD),B (.int ((ig ((L.take i).map λm=>cj b (r.moveLine q m)):Nat):Int)),gc,fE,i4]/\aw ai H'/\∀(j:Nat) n,j<i->L[j]? =B n->r.moveLine q n≠b) ⟨aa,aa,aa,Y,aw.refl ai,λj n h=>absurd h (aj7 _)⟩ (λi aN H' _ pg=>?_) (λi v aN H' hi pg=>?_) λaN H' pg=>?_⟩
 .obtain⟨gc,fE,i4,rfl,aE,_⟩:=pg;exact bo.of (aE _ _ gQ)
 .obtain⟨gc,fE,i4,rfl,aE,iE⟩:=pg;obtain⟨t,vM,rfl⟩:=Ad hi;have c6:i<L.length:=by rw[<-nz];exact(ei.mp vM).1
  have hm:=ff c6;generalize alq:L[i]=m at hm;have b9:=aE _ _ (t3 i t m vM hm);have di:=pz hw aj.c0 (YU m (n0 hm));have rd:=s1.trans aE;refine⟨t,_,_,_,Y,Y,dt.of b9,gw (j:=0) Y,t,_,_,_,Y,Y,dt.of b9,gw (j:=1) Y,p,r,q,cZ,m.1,m.2,aD,b,Y,d2.same rd,bI.same rd,aj,hw,di,rd _ _ ax,λOB au _ s2 HE=>?_⟩;have A6:=rd.trans s2;refine⟨aD,b,0,OB,_,Y,A6 _ _ ax,HE,λbc bE=>?_⟩;have HD:=A6.trans bE;rw[E8];dsimp only[mJ,nY,p6];refine Dw (b1:=decide (cj b (jT r q b m)=(jT r q b m).length)) (b2:=decide (cj b (jT r q b m)=b.length)) (λe9 z=>⟨OB,_,Y,.inl (bo.of (bE _ _ HE)),Y,_,Y,?_⟩) (λ_ e9 z=>⟨aD,_,Y,.inl (bo.of (HD _ _ ax)),Y,_,Y,?_⟩) ?_
  .rw[iI,o5];have e:(((cj b (jT r q b m):Nat):Int)==(((jT r q b m).length:Nat):Int))=decide (cj b (jT r q b m)=(jT r q b m).length):=by rw[hT,i9,mE];lia
   rw[e];exact z
  .rw[iI,o5];have e:(((cj b (jT r q b m):Nat):Int)==((b.length:Nat):Int))=decide (cj b (jT r q b m)=b.length):=by rw[hT,i9,mE];lia
   rw[e];exact z
  have YV:=a6F (r:=r) (p:=q) (b:=b) m;refine gq (λh=>?_) λh=>?_
  .have h':r.moveLine q m=b:=YV.mp (by simpa using h);exact(cK m t bc (Dl ▸ a6X hm iE h') HD (bE _ _ (s2 _ _ b9)))
  have h':r.moveLine q m≠b:=λz=>h (by simpa using YV.mpr z);refine⟨_,_,Y,B (.ref t),B (.ref OB),B (.int ((cj b (jT r q b m):Nat):Int)),?_,(aE.trans s2).trans bE,λj n bY aH=>?_⟩
  .rw[take_snoc hm,fO,ir,vZ,a6G,<-a6E (r:=r) (p:=q) (b:=b) m];have e:(if((cj b (jT r q b m):Nat):Int)>((ig ((L.take i).map λm=>cj b (r.moveLine q m)):Nat):Int)then((cj b (jT r q b m):Nat):Int)else((ig ((L.take i).map λm=>cj b (r.moveLine q m)):Nat):Int))=((max (ig ((L.take i).map λm=>cj b (r.moveLine q m))) (cj b (jT r q b m)):Nat):Int):=by split<;>lia
   rw[e];rfl
  by_cases xK:j<i
  .exact iE j n xK aH
  have:j=i:=by lia
  subst this;rw[hm]at aH;cases aH;exact h'
 obtain⟨gc,fE,i4,rfl,aE,iE⟩:=pg;rw[cX,nz,jl]at*;have lK:=a6Y (r:=r) (p:=q) (b:=b) (L:=L) λm hm=>by obtain⟨j,bY⟩:=AD hm;exact iE j m (ei.mp bY).1 bY
 exact⟨gd,Aa ee λa3 au s2 hd=>bJ _ (Dl ▸ lK) a3 au ((s1.trans aE).trans s2) hd⟩
def YW(s:aS)(l:sl aS):Eo (cm s) (l.map cm)=cm (nB s l):=by
 refine TL.Ln ?_;rw[TL.join_eq,TL.FE];have tY:∀b:aS,TL.dY (cm b)=b.map yB:=λb=>by unfold cm;show(dC _).cps.toList=_;rw[Aj]
 have e:∀l:sl aS,TL.z3 (TL.dY (cm s)) ((l.map cm).map TL.dY)=(nB s l).map yB:=by
  intro l;induction l with
  |nil=>rfl
  |cons x l ih=>cases l with|nil=>exact tY x|cons y l=>show TL.dY (cm x)++(TL.dY (cm s)++_)=_;rw[tY,tY];show _=(x++(s++nB s (y::l))).map yB;rw[fO,fO,<-ih,tY];rfl
 rw[e,tY]
def afx(p:lh):e6 p=cm [Qt p]:=by cases p<;>decide+kernel
def afy:bN:=λvs H Q _=>∃n:Nat,il (vs=[.int (n:Int)]) (n<60) (Q (.str (cm (x3 n))) H)
def afz:bN:=λvs H Q _=>∃aJ:sl lh,il (vs=[.str (dC (aJ.map Tf.pc))]) (aJ.length<=13) (Q (.str (cm (oT 0 aJ))) H)
def afA(a:b4):bN:=λvs H Q _=>kg λp r q cZ=>qg (vs=[.ref p,.ref cZ]) (fU a H p r) (jH a H cZ q) (dj r) (eg r q) (∀H',aw H H'->Q (.str (cm (r.line q))) H')
def afB(l:sl Nat)(n m:Nat)(h:n+m<=l.length):BR (dC l) (B (n:Int)) (B ((n:Int)+(m:Int)))=dC ((l.drop n).take m):=by unfold BR;rw[show(n:Int)+(m:Int)=((n+m:Nat):Int) by lia,HT.uM,HT.uM,A0,y7 h,y7 (show n<=l.length by lia),a0S,Aj];rfl
def YX(T:Txt K a6 a):dH P w K a6 base cp 1 "run_line" ["length"] afy:=by
 refine T.aaR.ok a9u ?_;rintro _ _ _ _ _ _ _ _ _ _ _ ⟨n,rfl,aH,k⟩;refine⟨_,aX (bF (QS (d1 rS (J 0) cg (cu _)) (Fg K5 Y T.Nz a16 (ao (J 0) az)) ek)),_,_,Y,Y,_,Y,?_⟩;unfold x3 at k;by_cases h:n=0
 .rw[aZ h]at k;refine ec (by rw[h];decide) ?_;rw[show cm []=("" :a8)from by decide+kernel]at k;exact k
 rw[aL h]at k;refine eR (eL (by lia)) ⟨_,Y,?_,?_⟩
 .show((n:Nat):Int).natAbs.log2<1920;exact lR (PM _) (by show n<1920;lia)
 rw[YK aH];exact k
def afC(T:Txt K a6 a):dH P w K a6 base cp 2 "row_line" ["signs"] afz:=by
 refine T.aaS.ok xo ?_;rintro _ _ _ _ _ H _ _ _ _ ak ⟨aJ,rfl,ar,k⟩;refine⟨_,aC (cz (i:=1) xo.bj ek) (aC (cz (i:=2) xo.bj cg) (aC (n_ oQ Y (Sb (J 0)) (h8 (i:=3) xo.bj) (aX (d4 (d1 dB (J 3) (e' T.zW Y) (cu _)) (aX (wq (i:=2) xo.bj Y (v' Y) cg F7)) (aC (wq (i:=1) xo.bj Y (v' Y) (de pb (cw (YX T) ak Y bu (ao (J 2) az)) (J 3)) K4) (aX (cz (i:=2) xo.bj cg)))))) (aX (bF (de pb (J 1) (cw (YX T) ak Y bu (ao (J 2) az))))))),_,Y,a8v (x:=dC (aJ.map Tf.pc)) (λi aN H'=>∃v,∃u:aS,∃n:Nat,aN=[B (.str (dC (aJ.map Tf.pc))),B (.str (cm u)),B (.int (n:Int)),v]/\H'=H/\oT 0 aJ=u++oT n (aJ.drop i)/\u.length<=3*i/\n<=i) ⟨aa,[],0,?_,Y,Y,es _,es _⟩ (λi c aN H' hi bI=>?_) λaN H' bI=>?_⟩
 .rw[show cm []=("" :a8)from by decide+kernel];rfl
 .obtain⟨v,u,n,rfl,rfl,aF,bx,aH⟩:=bI;have hi:(aJ.map Tf.pc).toArray[i]? =B c:=hi;simp only[a0H,fW]at hi;cases e:aJ[i]? with
  |none=>rw[e]at hi;cases hi
  |some p=>
   rw[e]at hi;cases hi;have c6:=(ei.mp e).1;have hd:aJ.drop i=p::aJ.drop (i+1):=by rw[IJ c6];have:=(ei.mp e).2;rw[this]
   rw[hd]at aF;refine⟨Y,_,Y,?_⟩;show if decide (V.str ⟨#[Tf.pc p]⟩=V.str (e6 .none))=a9 then _ else _
   rw[oD,kh];by_cases aq:p=.none
   .subst aq;rw[U1]at aF;refine eR Y ⟨_,_,Y,Y,B (.str (e6 .none)),u,n+1,?_,Y,aF,by lia,by lia⟩;rw[show(((n+1:Nat)):Int)=(n:Int)+1 by lia];rfl
   rw[U2 n _ aq]at aF;have je:=Gk (n:=n) (by lia);refine ec (by simpa using aq) ⟨n,Y,(by lia),?_⟩;rw[afx];refine⟨_,_,Y,Y,?_,?_⟩
   .rw[fz,fz];exact hv (gE (by rw[gy];lia))
   rw[gV];refine⟨_,_,Y,Y,?_,?_⟩
   .rw[fz,fz,dh];exact hv (gE (by rw[gy];lia))
   rw[gV];refine⟨B (.str (cm [Qt p])),u++(x3 n++[Qt p]),0,Y,Y,?_,?_,es _⟩
   .rw[aF];simp
   rw[dh,dh,gy];lia
 obtain⟨v,u,n,rfl,rfl,aF,bx,aH⟩:=bI;have aR:(dC (aJ.map Tf.pc)).cps.size=aJ.length:=by show(aJ.map Tf.pc).toArray.size=_;simp
 rw[aR]at aF bx aH;rw[E7 (cP _),U0]at aF;have je:=Gk (n:=n) (by lia);refine⟨n,Y,(by lia),_,_,Y,Y,?_,?_⟩
 .rw[fz,fz];exact hv (gE (by lia))
 rw[gV,<-aF];exact k
def afD(T:Txt K a6 a):dH P w K a6 base cp 3 "position_line" ["rules","position"] (afA a):=by
 refine T.aaT.ok M_ ?_;rintro f _ _ _ _ H _ _ _ _ ak ⟨p,r,q,cZ,rfl,⟨cn,d2⟩,⟨eF,bI⟩,c0,hw,k⟩;refine⟨_,aC (cz (i:=2) M_.bj (fC az)) (aC (n_ oQ Y (a4r Y T.z' (ao (de o4 (bg (J 0) Y) cg) (ao (Bi Bj cg) (ao (Bi Bj cg) az)))) (h8 (i:=3) M_.bj) (aX (ea (q1 oP uf w3 t8 (J 2) (ao (cw (afC T) ak Y bu (ao (t5 a4I (bg (J 1) Y) (nq (de wB (cL T.qh Y) (J 3))) (nq (de o3 (de wB (cL T.qh Y) (J 3)) (bg (J 0) Y)))) az)) az))))) (aX (bF (de pb (de pb (BP ek (J 2)) ek) (dZ nr (e' T.aas Y) (bg (J 1) Y) (λ_ _=>rfl)))))),?_⟩;have f7:=c0.f7;have q9:=c0.q9;have pw:=c0.pw;refine⟨es _,λl ar=>?_⟩;have s1:aw H (av H l (.lst [])):=aw.new ar;let f:Nat->aS:=λi=>oT 0 (r.rowOf q (r.high-1-i))
 have afE:BJ ((r.high:Int)-1) (-1) (-1) r.high:=by have z:=BJ.neg (i:=(r.high:Int)-1) (j:= -1) (by lia) (by lia) dQ dQ;rw[show((r.high:Int)-1- -1).toNat=r.high by lia]at z;exact z
 refine⟨p,_,_,_,_,Y,s1 _ _ d2,T.dm.1,T.xt,Y,_,_,Y,Y,_,Y,_,Y,_,_,_,_,Y,afE,?_⟩;refine a4u (n:=r.high) (λi aN H'=>∃v,aN=[B (.ref p),B (.ref cZ),B (.ref l),v]/\aw H H'/\H' l=B (.lst (((eI i).map f).map λb=>V.str (cm b)))) ⟨aa,Y,s1,b3⟩ (λi aN H' _ pg=>?_) λaN H' pg=>?_
 .obtain⟨v,rfl,aE,j8⟩:=pg;have ph:(r.high:Int)-1+(i:Int)* -1=((r.high-1-i:Nat):Int):=by lia
  rw[ph];have afF:(13:Int)*((r.high-1-i:Nat):Int)=((13*(r.high-1-i):Nat):Int):=by lia
  refine⟨.inl ⟨Y,_,bo.of j8⟩,cZ,_,_,_,_,Y,aE _ _ bI,T.jW.1,T.r6,Y,_,_,Y,Y,.inl ⟨dQ,dQ⟩,_,Y,_,_,Y,Y,.inl ⟨dQ,dQ⟩,p,_,_,_,_,Y,aE _ _ d2,T.dm.1,T.zX,Y,_,_,Y,Y,_,Y,_,Y,A1 _ (kE q),?_⟩;rw[afF,afB _ _ _ (by rw[kE];lia),a73 r c0 q (by lia)];refine⟨r.rowOf q (r.high-1-i),Y,(by unfold Jq;simp;lia),l,_,_,Y,Y,j8,?_,_,Y,λb o z=>?_,?_⟩
  .rw[cX,cX,IS];exact gE (by lia)
  .rw[aM (cV z ar)];exact aE _ _ z
  rw[b3,y4,fO,fO];rfl
 obtain⟨v,rfl,aE,j8⟩:=pg;have YY:∀i,(f i).length<=41:=λi=>by
  have:=Gl (r.rowOf q (r.high-1-i)) 0 (by unfold Jq;simp;lia);have e:(r.rowOf q (r.high-1-i)).length=r.wide:=by unfold Jq;simp
  show(oT 0 (r.rowOf q (r.high-1-i))).length<=41
  lia
 have afG:∀n,((((eI n).map f).map cm).map (·.length)).sum<=n*41:=λn=>by
  induction n with
  |zero=>simp
  |succ n ih=>
   rw[y4,fO,fO,fO,List.sum_append];have:=YY n;simp only[ir,vZ,IV,List.sum_nil,fz]
   lia
 have YQ:∀n,(nB [47] ((eI n).map f)).length<=n*42:=λn=>by
  rw[U4];induction n with
  |zero=>simp
  |succ n ih=>
   rw[y4,Az,dh];have:=YY n;have O:(if n=0 then([]:aS)else[47]).length<=1:=by split<;>simp
   simp only[mZ,PG,hU,dh]
   lia
 have alr:=YQ r.high;refine⟨⟨_,Y⟩,"/",l,((eI r.high).map f).map cm,Y,Y,.inl (bo.of (j8.trans ?_)),?_,?_⟩
 .rw[iL,iL,iL];rfl
 .have:=afG r.high;rw[cX,cX,IS,show("/" :a8).length=1 from by decide+kernel]
  lia
 rw[show("/" :a8)=cm [47]from by decide+kernel,YW,show(" " :a8)=cm [32]from by decide+kernel];refine⟨_,_,Y,Y,?_,?_⟩
 .rw[fz,fz,gy];exact hv (gE (by lia))
 rw[gV];have pA:=hw.gT;have ke:ho ("hk" :a8).cps.toList ((q.side:Nat):Int)=B (if q.side=0 then 104 else 107):=by
  have:q.side=0∨q.side=1:=by lia
  rcases this with e|e<;>rw[e]<;>decide+kernel
 refine⟨cZ,_,_,_,_,Y,aE _ _ bI,T.jW.1,T.tL,Y,_,_,_,Y,Y,dQ,ke,?_⟩;have b5:(⟨#[if q.side=0 then 104 else 107]⟩:a8)=cm [if q.side=0 then 104 else 107]:=by split<;>decide+kernel
 rw[b5];refine⟨_,_,Y,Y,?_,?_⟩
 .rw[fz,fz,dh,gy,gy];exact hv (gE (by lia))
 rw[gV];have c9:=k H' aE;rw[a71]at c9;rw[lP];exact c9
def mr:Iw we->V
 |none=>.bR
 |some .hunters=>.int 0
 |some .king=>.int 1
 |some .drawn=>.int 2
structure Fr (S:sl I) (H H':ag):Prop where
 cI:hh S H H'
 hR:∀c,H' c=aa->H c=aa
section
variable{T:sl I}
def Fr.of(s:aw H ai):Fr S H ai:=⟨λc u _ q=>s c u q,λ_ z=>s.free z⟩
def Fr.trans(s:Fr S H ai)(t:Fr S ai au):Fr S H au:=⟨λc u n q=>t.cI c u n (s.cI c u n q),λc z=>s.hR c (t.hR c z)⟩
def Fr.more(s:Fr S H ai)(h:∀c∈S,c∈T):Fr T H ai:=⟨λc u n q=>s.cI c u (λz=>n (h c z)) q,s.hR⟩
def Fr.put(s:Fr S H ai)(aq:p∈S):Fr S H (av ai p o):=⟨s.cI.put aq,λc z=>by
 by_cases e:c=p
 .subst e;rw[b3]at z;cases z
 rw[aM e]at z;exact s.hR c z⟩
def Fr.new(s:Fr S H ai)(aq:ai p=aa):Fr S H (av ai p o):=s.trans (Fr.of (aw.new aq))
def Fr.same(s:Fr S H ai)(h:∀c∈S,H c=aa):aw H ai:=λc u q=>s.cI c u (λz=>by rw[h c z]at q;cases q) q
end
def YZ(p:I)(n o:Nat):sl (a8×V):=[("position",.ref p),("seen",.int (n:Int)),("over",.int (o:Int))]
def t_(a:b4)(H:ag)(s p:I)(q:gv)(n o:Nat):Prop:=(∃a3,H s=B (.ins a.oA a3 (YZ p n o)))/\jH a H p q
noncomputable def sv(aB aV bz bC a':I)(e:V):sl (a8×V):=[("rules",.ref aB),("stages",.ref aV),("moves",.ref bz),("lines",.ref bC),("times",.ref a'),("ended_by",e)]
def gr(q:gv):sl Key:=[yt (dC (Tf.bd q)),yr (q.side:Int)]
def cnt(k:sl Key)(fD:sl gv):Nat:=(fD.filter λq=>decide (gr q=k)).length
def Tm(aW:sl (sl Key×V))(fD:sl gv):Prop:=∀k,(k7 aW k).getD (.int 0)=.int ((cnt k fD:Nat):Int)
def OC(k:sl Key)(fD:sl gv)(q:gv):cnt k (fD++[q])=cnt k fD+(if gr q=k then 1 else 0):=by
 unfold cnt;rw[Ay,dh,qw,IP];by_cases h:gr q=k
 .rw[aZ (eL h),aZ h];rfl
 rw[aL (by simpa using h),aL h];rfl
variable{aW:sl (sl Key×V)}
def Tm.add{fD:sl gv}(T:Tm aW fD)(q:gv):Tm (iD aW (gr q) (.int ((cnt (gr q) fD:Nat)+1:Int))) (fD++[q]):=λk=>by
 rw[S4,OC];by_cases h:k=gr q
 .rw[aZ h,aZ h.symm,h];show V.int _=V.int _;rfl
 rw[aL h,aL (λz=>h z.symm),T k];rfl
def Tm.sub{fD:sl gv}(T:Tm aW (fD++[q])):Tm (iD aW (gr q) (.int ((cnt (gr q) (fD++[q]):Nat)-1:Int))) fD:=λk=>by
 rw[S4];have c:=OC k fD q;by_cases h:k=gr q
 .rw[aZ h,aZ h.symm]at*;rw[<-h,c];show V.int _=V.int _;congr 1
  lia
 rw[aL h,T k,c,aL (λz=>h z.symm)];rfl
def afH(q p:gv):decide (gr q=gr p)=(Tf.bd q==Tf.bd p&&q.side==p.side):=by
 rw[hT,mE,j3,i9,i9];unfold gr;constructor
 .intro h;injection h with O a5;injection a5 with a5 _;injection O with O;injection a5 with a5;refine⟨?_,by lia⟩;have:=g5 (λs:a8=>s.cps.toList) O;simpa[Aj]using this
 rintro⟨O,a5⟩;rw[O,a5]
variable{l:sl (Nat×Nat)}
def Y_(R:Tf.Right r)(iy:eg r r.begins)(fJ:Tf.Row r l):cnt (gr (r.after l)) (r.row l)=r.seen l:=by rw[a6J R.g.c0 iy fJ];unfold cnt;congr 2;funext q;exact afH q _
structure j1 (a:b4) (H:ag) (g aB nl aV bz bC a':I) (c7:sl (I×I)) (a3:I) (e:V) (r:f5) (l:sl (Nat×Nat)) (k:Nat) (aW:sl (sl Key×V)):Prop where
 obj:H g=B (.ins a.Game a3 (sv aB aV bz bC a' e))
 kK:rm a H aB nl r
 iJ:H aV=B (.lst (c7.map λs=>V.ref s.1))
 kL:c7.length=k
 sx:∀(i:Nat) s,c7[i]? =B s->t_ a H s.1 s.2 (r.after (l.take i)) (r.seen (l.take i)) (r.overBy (l.take i))
 jh:H a'=B (.gf aW)
 An:Tm aW ((r.row l).take k)
 vN:nl≠aV
variable{aB bz bC a':I}{c7:sl (I×I)}
section
variable{aV:I}{e:V}
def t_.keep{s:I}{o:Nat}(h:t_ a H s p q n o)(k:∀c u,(c=s∨c=p)->H c=B u->H' c=B u):t_ a H' s p q n o:=by obtain⟨⟨d,O⟩,⟨hb,a5⟩⟩:=h;exact⟨⟨d,k _ _ (.inl Y) O⟩,⟨hb,k _ _ (.inr Y) a5⟩⟩
def j1.keep(aj:j1 a H g aB nl aV bz bC a' c7 a3 e r l k aW)(dK:∀c u,(c=g∨c=aB∨c=nl∨c=aV∨c=a'∨∃s∈c7,c=s.1∨c=s.2)->H c=B u->H' c=B u):j1 a H' g aB nl aV bz bC a' c7 a3 e r l k aW:=by obtain⟨⟨cn,ak⟩,aH⟩:=aj.kK;exact⟨dK _ _ (.inl Y) aj.obj,⟨⟨cn,dK _ _ (.inr (.inl Y)) ak⟩,dK _ _ (by simp) aH⟩,dK _ _ (by simp) aj.iJ,aj.kL,λi s h=>(aj.sx i s h).keep λc u a7 q=>dK c u (.inr (.inr (.inr (.inr (.inr ⟨s,n0 h,a7⟩))))) q,dK _ _ (by simp) aj.jh,aj.An,aj.vN⟩
def j1.same(aj:j1 a H g aB nl aV bz bC a' c7 a3 e r l k aW)(s:aw H H'):j1 a H' g aB nl aV bz bC a' c7 a3 e r l k aW:=aj.keep λc u _ q=>s c u q
def j1.kind(aj:j1 a H g aB nl aV bz bC a' c7 a3 e r l k aW){s:I×I}(h:s∈c7):(∃d fs,H s.1=B (.ins a.oA d fs)/\fs.length=3)/\∃d fs,H s.2=B (.ins a.Position d fs)/\fs.length=2:=by obtain⟨i,hi⟩:=AD h;obtain⟨⟨d,O⟩,⟨hb,a5⟩⟩:=aj.sx i s hi;exact⟨⟨d,_,O,Y⟩,⟨hb,_,a5,Y⟩⟩
def j1.other(aj:j1 a H g aB nl aV bz bC a' c7 a3 e r l k aW){c:I}{vs:sl V}(a7:H c=B (.lst vs))(e3:c≠aV)(cS:c≠nl):j1 a (av H c o) g aB nl aV bz bC a' c7 a3 e r l k aW:=by
 obtain⟨⟨_,ak⟩,_⟩:=id aj.kK;refine aj.keep λb u a0 q=>?_;rw[aM]
 .exact q
 obtain rfl|rfl|rfl|rfl|rfl|⟨s,ax,a0⟩:=a0
 .exact λz=>f3 a7 aj.obj z.symm
 .exact λz=>f3 a7 ak z.symm
 .exact ej cS
 .exact ej e3
 .exact λz=>by have:=aj.jh;rw[z,a7]at this;cases this
 obtain⟨⟨d,_,O,_⟩,⟨_,_,a5,_⟩⟩:=aj.kind ax;obtain rfl|rfl:=a0
 .exact λz=>f3 a7 O z.symm
 exact λz=>f3 a7 a5 z.symm
def j1.next(aj:j1 a H g aB nl aV bz bC a' c7 a3 e r l (l.length+1) aW)(m:Nat×Nat):j1 a H g aB nl aV bz bC a' c7 a3 e r (l++[m]) (l++[m]).length aW:=by
 have gZ:(l++[m]).length=l.length+1:=by simp
 refine⟨aj.obj,aj.kK,aj.iJ,by rw[gZ];exact aj.kL,λi s h=>?_,aj.jh,?_,aj.vN⟩
 .have hi:=(ei.mp h).1;rw[aj.kL]at hi;rw[y5 (by lia)];exact aj.sx i s h
 have t:=aj.An;rw[lQ (by rw[rZ];exact cP _)]at t;rw[gZ,G0,y5 (by rw[rZ];exact cP _),lQ (by rw[rZ];exact cP _)];exact t
def j1.last(aj:j1 a H g aB nl aV bz bC a' c7 a3 e r l (l.length+1) aW):∃s,ho (c7.map λs=>V.ref s.1) (-1)=B (.ref s.1)/\t_ a H s.1 s.2 (r.after l) (r.seen l) (r.overBy l)/\c7[l.length]? =B s:=by
 have h:l.length<c7.length:=by rw[aj.kL];exact AK _
 have z:=aj.sx l.length _ (ff h);rw[jl]at z;refine⟨c7[l.length],?_,z,ff h⟩;have e:=take_snoc (ff h);rw[lQ (by rw[aj.kL];exact cP _)]at e;conv=>lhs;rw[e,fO]
 exact RA _ _
end
def afI(C:I)(f g h:a8):bN:=λvs H Q _=>kJ λx a3 u v w=>il (vs=[.ref x,u,v,w]) (H x=B (.ins C a3 [])) (Q .bR (av H x (.ins C a3 [(f,u),(g,v),(h,w)])))
inductive Z0 (a:b4) (vs:sl V) (H:ag) (Q:c2) (E:cW):Prop
 |mk g aB aV bz bC a' a3 e xs v:vs=[.ref g]->H g=B (.ins a.Game a3 (sv aB aV bz bC a' e))->H aV=B (.lst xs)->ho xs (-1)=B v->Q v H->Z0 a vs H Q E
inductive I7 (a:b4) (vs:sl V) (H:ag) (Q:c2) (E:cW):Prop
 |mk g aB nl aV bz bC a' c7 a3 e r l aW:vs=[.ref g]->j1 a H g aB nl aV bz bC a' c7 a3 e r l (l.length+1) aW->(∀p,jH a H p (r.after l)->Q (.ref p) H)->I7 a vs H Q E
def Z1(e:Iw we)(o:Int):Int:=match e with
 |none=>o
 |some .drawn=>7
 |some _=>6
def afJ(a:b4):bN:=λvs H Q _=>jD λs p q (n o:Nat) e=>il (vs=[.ref s,mr e]) (t_ a H s p q n o) (Q (.int (Z1 e (o:Int))) H)
inductive Z2 (a:b4) (vs:sl V) (H:ag) (Q:c2) (E:cW):Prop
 |mk g aB aV bz bC a' a3 e xs p r l:vs=[.ref g,.ref p,.int ((r.seen l:Nat):Int)]->H g=B (.ins a.Game a3 (sv aB aV bz bC a' e))->fU a H aB r->H aV=B (.lst xs)->xs.length=l.length->jH a H p (r.after l)->Tf.Right r->eg r (r.after l)->(∀H',aw H H'->Q (.int ((r.overBy l:Nat):Int)) H')->Z2 a vs H Q E
inductive Z3 (a:b4) (vs:sl V) (H:ag) (Q:c2) (E:cW):Prop
 |mk g aB nl aV bz bC a' c7 a3 e r l aW:∀x y:Nat,(vs=[.ref g,.int (x:Int),.int (y:Int)])->j1 a H g aB nl aV bz bC a' c7 a3 e r l (l.length+1) aW->Tf.Right r->eg r (r.after l)->r.ended (r.after l)=0->(∀H',aw H H'->Q (.c3 ((r.moves (r.after l)).contains (x,y))) H')->Z3 a vs H Q E
def nM(h:Tf.Right r):eg r r.begins:=by obtain⟨k,o⟩:=h.king;exact(G1 h.g.c0 o (by have:=h.g.f2;lia)).1
def afK(y:Nat)(l:sl Nat):Bt (.int (y:Int)) (dD l)=decide (y∈l):=by
 unfold dD;induction l with
 |nil=>rfl
 |cons x l ih=>
  show(rU (.int (x:Int)) (.int (y:Int))||Bt (.int (y:Int)) (l.map λ(c:Nat)=>V.int (c:Int)))=_;rw[ih,show rU (.int (x:Int)) (.int (y:Int))=((x:Int)==(y:Int))from Y,hT,sE,i9,mE,mE,dz];constructor
  .rintro(h|h)
   .exact .inl (by lia)
   exact .inr h
  rintro(h|h)
  .exact .inl (by lia)
  exact .inr h
def Z4(e:Iw we):decide (mr e=.bR)=e.isNone:=by cases e with|none=>rfl|some y=>cases y<;>rfl
def afL(T:Txt K a6 a):ox P w K a6 base cp 1 a.oA ["self","position","seen","over"] (afI a.oA "position" "seen" "over"):=by refine T.abz.ok a9K ?_;rintro _ _ _ _ _ _ _ _ _ _ _ ⟨x,a3,u,v,w,rfl,ah,k⟩;refine⟨_,aC (e2 (J 0) (J 1) Y) (aC (e2 (J 0) (J 2) Y) (aX (e2 (J 0) (J 3) Y))),x,_,_,_,Y,ah,T.nG.1,T.zY,dQ,x,_,_,_,Y,b3,T.nG.1,T.Hd,qE,x,_,_,_,Y,b3,T.nG.1,T.He,sO,?_⟩;rw[j5,j5];exact k
def xQ(T:Txt K a6 a):fT P w K a6 base cp 1 a.Game "last_stage" ["self"] (Z0 a):=by refine T.abB.ok a9M ?_;rintro _ _ _ _ _ _ _ _ _ _ _ ⟨g,aB,aV,bz,bC,a',a3,e,xs,v,rfl,aI,ax,bk,k⟩;exact⟨_,aX (bF (dZ hL (bg (J 0) Y) (Bi Bj cg) (λ_ _=>rfl))),g,_,_,_,_,Y,aI,T.dn.1,T.xv,Y,_,Y,aV,_,_,_,Y,Y,bo.of ax,bk,k⟩
def I8(T:Txt K a6 a):fT P w K a6 base cp 2 a.Game "last_position" ["self"] (I7 a):=by refine T.abC.ok a9N ?_;rintro _ _ _ _ s _ _ _ _ _ ak ⟨g,aB,nl,aV,bz,bC,a',c7,a3,e,r,l,aW,rfl,aj,k⟩;refine⟨_,aX (bF (bg (gb (xQ T) (J 0) T.dn.1 ak bu) Y)),?_⟩;obtain⟨s,O,⟨⟨_,a5⟩,aG⟩,_⟩:=aj.last;exact⟨g,_,_,Y,aj.obj,Y,g,aB,aV,bz,bC,a',a3,e,_,_,Y,aj.obj,aj.iJ,O,s.1,_,_,_,_,Y,a5,T.nG.1,T.zY,Y,k s.2 aG⟩
def OD(T:Txt K a6 a):dH P w K a6 base cp 1 "how_over_if" ["stage","ended_by"] (afJ a):=by
 refine T.ab2.ok a9x ?_;rintro _ _ _ _ s _ _ _ _ _ _ ⟨s,p,q,n,o,e,rfl,⟨⟨cc,ax⟩,aq⟩,k⟩;refine⟨_,aC (d4 (JJ (QM (J 1))) (aX (bF (bg (J 0) Y))) d9) (aC (d4 (d1 dB (J 1) (cL T.Nh Y) (cu _)) (aX (bF (cL T.aad Y))) d9) (aX (bF (cL T.Xc Y)))),_,Y,?_⟩;rw[Z4];cases e with
 |none=>exact hM ⟨s,_,_,_,_,Y,ax,T.nG.1,T.He,Y,k⟩
 |some y=>refine gF ?_;cases y with|hunters=>exact⟨rfl,_,rfl,d7 k⟩|king=>exact⟨rfl,_,rfl,d7 k⟩|drawn=>exact⟨rfl,_,rfl,ip k⟩
def afM(T:Txt K a6 a):fT P w K a6 base cp 7 a.Game "over_there" ["self","position","seen"] (Z2 a):=by
 refine T.abH.ok X4 ?_;rintro _ _ _ _ _ _ _ _ _ _ ak ⟨g,aB,aV,bz,bC,a',a3,e,xs,p,r,l,rfl,aI,d2,xR,GA,aq,R,hw,k⟩;refine⟨_,aC (cz (i:=3) X4.bj (cw (XD T) ak Y bu (ao (bg (J 0) Y) (ao (J 1) az)))) (aC (d4 (d1 o6 (J 3) (cL T.si Y) (cu _)) (aX (bF (J 3))) d9) (aC (d4 (d1 F8 (J 2) (cL T.aae Y) (cu _)) (aX (bF (cL T.Xb Y))) d9) (aC (d4 (d1 F8 (fj jc Y T.i3 iu (ao (bg (J 0) Y) az)) (bg (bg (J 0) Y) Y) (cu _)) (aX (bF (cL T.aac Y))) d9) (aX (bF (cL T.si Y)))))),?_⟩;obtain⟨_,l5⟩:=id d2;refine⟨g,_,_,_,_,Y,aI,T.dn.1,T.pL,Y,aB,r,r.after l,p,Y,d2,aq,R.g,hw,λai s1=>⟨Y,_,Y,?_⟩⟩;have c9:=k ai s1;unfold EI at c9;dsimp only at c9;by_cases b8:r.over (r.after l)=0
 .rw[aL (λz=>z b8)]at c9;refine ec (by rw[b8];decide) ⟨_,_,Y,Y,_,Y,?_⟩;by_cases aG:3<=r.seen l
  .rw[aZ aG]at c9;exact eR (eL (by show(3:Int)<=((r.seen l:Nat):Int);lia)) c9
  rw[aL aG]at c9;refine ec (λz=>aG (by have z:=e7 z;have z:(3:Int)<=((r.seen l:Nat):Int):=z;lia)) ⟨g,_,_,_,_,Y,s1 _ _ aI,T.dn.1,T.xv,Y,aV,_,Y,.inl (bo.of (s1 _ _ xR)),g,_,_,_,_,Y,s1 _ _ aI,T.dn.1,T.pL,Y,aB,_,_,_,_,Y,s1 _ _ l5,T.dm.1,T.Nt,Y,_,_,Y,Y,_,Y,?_⟩;rw[GA];by_cases ar:r.limit<=l.length
  .rw[aZ ar]at c9;exact eR (eL (by show((r.limit:Nat):Int)<=((l.length:Nat):Int);lia)) c9
  rw[aL ar]at c9;exact ec (λz=>ar (by have z:=e7 z;have z:((r.limit:Nat):Int)<=((l.length:Nat):Int):=z;lia)) c9
 rw[aZ b8]at c9;refine eR ?_ c9;show(!decide (V.int ((r.over (r.after l):Nat):Int)=V.int 0))=a9;rw[gW (λz=>b8 (by have z:=V.int.inj z;lia))];rfl
def afN(T:Txt K a6 a):fT P w K a6 base cp 5 a.Game "has_move" ["self","x","y"] (Z3 a):=by
 refine T.abF.ok X3 ?_;rintro _ _ _ _ _ H _ _ _ _ ak ⟨g,aB,nl,aV,bz,bC,a',c7,a3,e,r,l,aW,x,y,rfl,aj,R,hw,fb,k⟩;refine⟨_,aC (cz (i:=3) X3.bj (gb (I8 T) (J 0) T.dn.1 ak.mono bu)) (aX (bF (E_ (gM pa (J 1) (fj Fo Y T.i3 iu (ao (bg (J 3) Y) az)) (cu _)) (p' (gM a3A (J 2) (cw (NG T) ak Y bu (ao (bg (J 0) Y) (ao (J 3) (ao (J 1) az)))) Y))))),g,_,_,Y,aj.obj,Y,g,aB,nl,aV,bz,bC,a',c7,a3,e,r,l,aW,Y,aj,λp aq=>?_⟩;obtain⟨_,ra⟩:=id aq;refine⟨p,_,_,_,_,Y,ra,T.jW.1,T.r6,Y,_,Y,A1 _ (kE _),_,_,Y,Y,_,Y,?_⟩;have eY:(dC (Tf.bd (r.after l))).length=169:=by rw[A0,kE]
 rw[eY];have v9:=a5m hw R.g.c0 fb (m:=(x,y));by_cases ah:x<169
 .refine eR (eL (by show(x:Int)<((169:Nat):Int);lia)) ⟨g,_,_,_,_,Y,aj.obj,T.dn.1,T.pL,Y,aB,r,r.after l,p,x,Y,aj.kK.at,aq,R.g.c0,hw,ah,λt _ au s2 vk=>?_⟩;refine⟨t,_,Y,.inl (bo.of vk),Y,?_,?_⟩
  .unfold dD;rw[a0x];exact y0.mpr λ_ _=>rfl
  have c9:=k au s2;have aT:Bt (.int (y:Int)) (dD (i2 r (r.after l) x))=(r.moves (r.after l)).contains (x,y):=by rw[afK,hT,mE,y1,v9];exact⟨λz=>⟨ah,z⟩,λz=>z.2⟩
  rw[<-aT]at c9;exact c9
 refine ec (λz=>ah (by have z:=e7 z;have z:(x:Int)<((169:Nat):Int):=z;lia)) ?_;have c9:=k H (aw.refl H);have aT:(r.moves (r.after l)).contains (x,y)=aK:=by cases z:(r.moves (r.after l)).contains (x,y)with|false=>rfl|true=>exact absurd (v9.mp (y1.mp z)).1 ah
 rw[aT]at c9;exact c9
inductive Z5 (a:b4) (vs:sl V) (H:ag) (Q:c2) (E:cW):Prop
 |mk g aB nl aV bz bC a' c7 a3 e r l aW p:vs=[.ref g,.ref p]->j1 a H g aB nl aV bz bC a' c7 a3 e r l l.length aW->jH a H p (r.after l)->Tf.Right r->Tf.Row r l->l.length<=900->aW.length<=5000->(∀H' s ji,Fr [aV,a'] H H'->H s=aa->ji.length<=aW.length+1->j1 a H' g aB nl aV bz bC a' (c7++[(s,p)]) a3 e r l (l.length+1) ji->Q .bR H')->Z5 a vs H Q E
section
variable{aV:I}{e:V}
def j1.xS(aj:j1 a H g aB nl aV bz bC a' c7 a3 e r l k aW){c:I}(u:dA)(h:H c=B u)(n:∀gk,u≠ .gf gk):(av H a' o) c=B u:=by
 rw[aM]
 .exact h
 exact λz=>by have:=aj.jh;rw[<-z,h]at this;exact n _ (h4 this)
end
def Z6(T:Txt K a6 a):fT P w K a6 base cp 8 a.Game "reach" ["self","position"] (Z5 a):=by
 refine T.abG.ok N7 ?_;rintro _ _ _ _ s H _ _ _ _ ak ⟨g,aB,nl,aV,bz,bC,a',c7,a3,e,r,l,aW,p,rfl,aj,aq,R,fJ,OE,OF,k⟩;refine⟨_,aC (cz (i:=2) N7.bj (sZ (ao (bg (J 1) Y) (ao (bg (J 1) Y) az)))) (aC (cz (i:=3) N7.bj (de o3 (a4n (FH ak) (bg (J 0) Y) (J 2) cg ⟨Y,Y,Y,Y⟩) cg)) (aC (S8 (FH ak) (bg (J 0) Y) (J 2) (J 3) Y) (aX (ea (q1 oP uf w3 t8 (bg (J 0) Y) (ao (pK (afL T) ak.mono Y T.nG.2 bu (ao (J 1) (ao (J 3) (ao (dR (afM T) (J 0) T.dn.1 ak bu (ao (J 1) (ao (J 3) az))) az)))) az)))))),?_⟩;have c0:=R.g.c0;have iy:=nM R;have hw:=fJ.wf c0 iy;have Z7:(r.row l).take l.length++[r.after l]=r.row l:=by have aO:=LS (r:=r) (l:=l) (cP _);rw[jl]at aO;rw[<-take_snoc aO,lQ (by rw[rZ];exact cP _)]
 obtain⟨eF,ra⟩:=id aq;refine⟨p,_,_,_,_,Y,ra,T.jW.1,T.r6,Y,p,_,_,_,_,Y,ra,T.jW.1,T.tL,Y,nU,λtk u0=>?_⟩;have s1:aw H (av H tk (.tup [.str (dC (Tf.bd (r.after l))),.int ((r.after l).side:Int)])):=aw.new u0;have DF:(av H tk (.tup [.str (dC (Tf.bd (r.after l))),.int ((r.after l).side:Int)])) tk=B (.tup ((gr (r.after l)).map ey)):=b3;generalize av H tk (.tup [.str (dC (Tf.bd (r.after l))),.int ((r.after l).side:Int)])=ai at s1 DF ⊢;have dN:=aj.same s1;have eO:cnt (gr (r.after l)) ((r.row l).take l.length)+1=r.seen l:=by
  rw[<-Y_ R iy fJ];conv=>rhs;rw[<-Z7]
  rw[OC,aZ Y]
 refine⟨g,_,_,_,_,Y,dN.obj,T.dn.1,T.Hh,Y,a',Y,.inr ⟨aW,.inl dN.jh⟩,_,BH.t (k:=gr (r.after l)) dN.jh DF,?_⟩;rw[dN.An (gr (r.after l))];refine⟨_,_,Y,Y,?_⟩;dsimp only;rw[show((cnt (gr (r.after l)) ((r.row l).take l.length):Nat):Int)+1=((r.seen l:Nat):Int) by lia];refine⟨g,_,_,_,_,Y,dN.obj,T.dn.1,T.Hh,Y,a',_,Y,z0.t (k:=gr (r.after l)) dN.jh DF (lR OF dQ),?_⟩;have Z8:Tm (iD aW (gr (r.after l)) (.int ((r.seen l:Nat):Int))) (r.row l):=by have z:=dN.An.add (r.after l);rw[Z7,show((cnt (gr (r.after l)) ((r.row l).take l.length):Nat):Int)+1=((r.seen l:Nat):Int) by lia]at z;exact z
 have Z9:=FA aW (gr (r.after l)) (.int ((r.seen l:Nat):Int));have f2:Fr [aV,a'] H (av ai a' (.gf (iD aW (gr (r.after l)) (.int ((r.seen l:Nat):Int))))):=(Fr.of s1).put (by simp);have lz:(av ai a' (.gf (iD aW (gr (r.after l)) (.int ((r.seen l:Nat):Int))))) g=_:=dN.xS _ dN.obj (λ_ z=>by cases z);have mK:(av ai a' (.gf (iD aW (gr (r.after l)) (.int ((r.seen l:Nat):Int))))) aV=_:=dN.xS _ dN.iJ (λ_ z=>by cases z);have nF:jH a (av ai a' (.gf (iD aW (gr (r.after l)) (.int ((r.seen l:Nat):Int))))) p (r.after l):=⟨eF,dN.xS _ (s1 _ _ ra) (λ_ z=>by cases z)⟩;have j0:rm a (av ai a' (.gf (iD aW (gr (r.after l)) (.int ((r.seen l:Nat):Int))))) aB nl r:=by obtain⟨⟨cn,ak⟩,aH⟩:=dN.kK;exact⟨⟨cn,dN.xS _ ak (λ_ z=>by cases z)⟩,dN.xS _ aH (λ_ z=>by cases z)⟩
 have OG:∀(i:Nat) s,c7[i]? =B s->t_ a (av ai a' (.gf (iD aW (gr (r.after l)) (.int ((r.seen l:Nat):Int))))) s.1 s.2 (r.after (l.take i)) (r.seen (l.take i)) (r.overBy (l.take i)):=λi s h=>by obtain⟨⟨d,O⟩,⟨hb,a5⟩⟩:=dN.sx i s h;exact⟨⟨d,dN.xS _ O (λ_ z=>by cases z)⟩,⟨hb,dN.xS _ a5 (λ_ z=>by cases z)⟩⟩
 have vk:(av ai a' (.gf (iD aW (gr (r.after l)) (.int ((r.seen l:Nat):Int))))) a'=_:=b3;generalize iD aW (gr (r.after l)) (.int ((r.seen l:Nat):Int))=ji at Z8 Z9 f2 lz mK nF j0 OG vk ⊢;generalize av ai a' (.gf ji)=au at f2 lz mK nF j0 OG vk ⊢;refine⟨g,_,_,_,_,Y,lz,T.dn.1,T.xv,Y,.inl ⟨Y,_,bo.of mK⟩,g,_,_,Y,lz,Y,g,aB,aV,bz,bC,a',a3,e,_,p,r,l,Y,lz,j0.at,mK,by rw[cX];exact aj.kL,nF,R,hw,λbc bE=>?_⟩;refine λs cc ax Lq bV=>⟨s,cc,_,_,_,Y,b3,Y,?_⟩;rw[j5];have s4:aw au (av (av bc cc (.own s)) s (.ins a.oA cc [("position",.ref p),("seen",.int ((r.seen l:Nat):Int)),("over",.int ((r.overBy l:Nat):Int))])):=bE.trans (aw.upd (aw.new Lq) (by rw[aM (ej bV)];exact ax));have y':(av (av bc cc (.own s)) s (.ins a.oA cc [("position",.ref p),("seen",.int ((r.seen l:Nat):Int)),("over",.int ((r.overBy l:Nat):Int))])) s=B (.ins a.oA cc (YZ p (r.seen l) (r.overBy l))):=b3;generalize av (av bc cc (.own s)) s (.ins a.oA cc [("position",.ref p),("seen",.int ((r.seen l:Nat):Int)),("over",.int ((r.overBy l:Nat):Int))])=cU at s4 y' ⊢;refine⟨aV,_,_,Y,Y,s4 _ _ mK,?_,?_⟩
 .rw[cX,aj.kL];exact gE (by lia)
 refine k _ s ji ((f2.trans (Fr.of s4)).put (by simp)) (f2.hR s (bE.free ax)) Z9 ?_;have DG:=s4 _ _ mK;have Ao:∀{b C d:I}{fs:sl (a8×V)}{o:dA},cU b=B (.ins C d fs)->(av cU aV o) b=B (.ins C d fs):=fun{b C d fs o} z=>by rw[aM (λq=>f3 DG z q.symm)];exact z
 obtain⟨⟨cn,ak⟩,aH⟩:=j0.same s4;refine⟨Ao (s4 _ _ lz),⟨⟨cn,Ao ak⟩,by rw[aM aj.vN];exact aH⟩,by rw[b3,fO];rfl,by simp[aj.kL],λi a_ h=>?_,?_,?_,aj.vN⟩
 .by_cases hi:i<c7.length
  .rw[l9 hi]at h;obtain⟨⟨d,O⟩,⟨hb,a5⟩⟩:=OG i a_ h;exact⟨⟨d,Ao (s4 _ _ O)⟩,⟨hb,Ao (s4 _ _ a5)⟩⟩
  have hq:i<c7.length+1:=by have:=(ei.mp h).1;simpa using this
  have l2:i=c7.length:=by lia
  subst l2;rw[pR (cP _),a0Z]at h;cases h;rw[lQ (by rw[aj.kL];exact cP _)];obtain⟨hb,a5⟩:=nF;exact⟨⟨cc,Ao y'⟩,⟨hb,Ao (s4 _ _ a5)⟩⟩
 .rw[aM (λz=>by have:=s4 _ _ vk;rw[z,DG]at this;cases this)];exact s4 _ _ vk
 rw[lQ (by rw[rZ];exact cP _)];exact Z8
def mW(l:sl aS):sl V:=l.map λb=>V.str (cm b)
structure kj (a:b4) (H:ag) (g aB nl aV bz bC a':I) (c7:sl (I×I)) (ts:sl I) (a3:I) (aW:sl (sl Key×V)) (x:jZ):Prop where
 ck:j1 a H g aB nl aV bz bC a' c7 a3 (mr x.game.ending) x.rules x.game.moves (x.game.moves.length+1) aW
 jj:H bz=B (.lst (ts.map V.ref))
 kM:ts.length=x.game.moves.length
 vO:∀(i:Nat) t,ts[i]? =B t->H t=B (.lst (dD (qC x.rules x.game.moves i)))/\t≠aV/\t≠bz/\t≠bC
 kk:H bC=B (.lst (mW (iG x.rules x.game.moves)))
 qr:bz≠aV
 qs:bC≠aV
 sy:bC≠bz
 u1:nl≠bz
 u2:nl≠bC
noncomputable def xT(g aB nl aV bz bC a':I)(c7:sl (I×I))(ts:sl I):sl I:=g::aB::nl::aV::bz::bC::a'::(c7.map a12++(c7.map Prod.snd++ts))
inductive fV (a:b4) (H:ag) (g aB nl:I) (F:sl I) (n:Nat) (x:jZ):Prop
 |mk aV bz bC a' c7 ts a3 aW:kj a H g aB nl aV bz bC a' c7 ts a3 aW x->aW.length<=n->(∀c∈xT g aB nl aV bz bC a' c7 ts,c∈F)->fV a H g aB nl F n x
variable{F:sl I}
section
variable{aV:I}{ts:sl I}{x:jZ}
def iK{c:I}:c∈xT g aB nl aV bz bC a' c7 ts↔c=g∨c=aB∨c=nl∨c=aV∨c=bz∨c=bC∨c=a'∨(∃s∈c7,c=s.1∨c=s.2)∨c∈ts:=by
 unfold xT;simp only[dz,kN,fG];constructor
 .rintro(h|h|h|h|h|h|h|⟨s,O,a5⟩|⟨s,O,a5⟩|h)
  .exact .inl h
  .exact .inr (.inl h)
  .exact .inr (.inr (.inl h))
  .exact .inr (.inr (.inr (.inl h)))
  .exact .inr (.inr (.inr (.inr (.inl h))))
  .exact .inr (.inr (.inr (.inr (.inr (.inl h)))))
  .exact .inr (.inr (.inr (.inr (.inr (.inr (.inl h))))))
  .exact .inr (.inr (.inr (.inr (.inr (.inr (.inr (.inl ⟨s,O,.inl a5.symm⟩)))))))
  .exact .inr (.inr (.inr (.inr (.inr (.inr (.inr (.inl ⟨s,O,.inr a5.symm⟩)))))))
  exact .inr (.inr (.inr (.inr (.inr (.inr (.inr (.inr h)))))))
 rintro(h|h|h|h|h|h|h|⟨s,O,a5|a5⟩|h)
 .exact .inl h
 .exact .inr (.inl h)
 .exact .inr (.inr (.inl h))
 .exact .inr (.inr (.inr (.inl h)))
 .exact .inr (.inr (.inr (.inr (.inl h))))
 .exact .inr (.inr (.inr (.inr (.inr (.inl h)))))
 .exact .inr (.inr (.inr (.inr (.inr (.inr (.inl h))))))
 .exact .inr (.inr (.inr (.inr (.inr (.inr (.inr (.inl ⟨s,O,a5.symm⟩)))))))
 .exact .inr (.inr (.inr (.inr (.inr (.inr (.inr (.inr (.inl ⟨s,O,a5.symm⟩))))))))
 exact .inr (.inr (.inr (.inr (.inr (.inr (.inr (.inr (.inr h))))))))
def kj.keep(aj:kj a H g aB nl aV bz bC a' c7 ts a3 aW x)(k:∀c∈xT g aB nl aV bz bC a' c7 ts,∀o,H c=B o->H' c=B o):kj a H' g aB nl aV bz bC a' c7 ts a3 aW x:=by
 refine⟨aj.ck.keep λc u a7 q=>k c (iK.mpr ?_) u q,k _ (iK.mpr (by simp)) _ aj.jj,aj.kM,λi t h=>⟨k t (iK.mpr (.inr (.inr (.inr (.inr (.inr (.inr (.inr (.inr (n0 h)))))))))) _ (aj.vO i t h).1,(aj.vO i t h).2⟩,k _ (iK.mpr (by simp)) _ aj.kk,aj.qr,aj.qs,aj.sy,aj.u1,aj.u2⟩;obtain h|h|h|h|h|h:=a7
 .exact .inl h
 .exact .inr (.inl h)
 .exact .inr (.inr (.inl h))
 .exact .inr (.inr (.inr (.inl h)))
 .exact .inr (.inr (.inr (.inr (.inr (.inr (.inl h))))))
 exact .inr (.inr (.inr (.inr (.inr (.inr (.inr (.inl h)))))))
def fV.same(h:fV a H g aB nl F n x)(s:aw H H'):fV a H' g aB nl F n x:=let⟨aV,bz,bC,a',c7,ts,a3,aW,aj,b,f⟩:=h;⟨aV,bz,bC,a',c7,ts,a3,aW,aj.keep λc _ o q=>s c o q,b,f⟩
def fV.frame(h:fV a H g aB nl F n x)(s:hh S H H')(d:∀c∈F,c∉S):fV a H' g aB nl F n x:=let⟨aV,bz,bC,a',c7,ts,a3,aW,aj,b,f⟩:=h;⟨aV,bz,bC,a',c7,ts,a3,aW,aj.keep λc a7 o q=>s c o (d c (f c a7)) q,b,f⟩
def fV.less(h:fV a H g aB nl F n x)(l:n<=m):fV a H g aB nl F m x:=let⟨aV,bz,bC,a',c7,ts,a3,aW,aj,b,f⟩:=h;⟨aV,bz,bC,a',c7,ts,a3,aW,aj,dE b l,f⟩
def fV.obj(h:fV a H g aB nl F n x):∃a3 aV bz bC a',H g=B (.ins a.Game a3 (sv aB aV bz bC a' (mr x.game.ending))):=by obtain⟨aV,bz,bC,a',_,_,a3,_,aj,_⟩:=h;exact⟨a3,aV,bz,bC,a',aj.ck.obj⟩
structure mu (aB nl:I) (F:sl I) (H H':ag):Prop where
 fr:Fr F H H'
 xU:∀u,H aB=B u->H' aB=B u
 xV:∀u,H nl=B u->H' nl=B u
def mu.of(s:aw H H'):mu aB nl F H H':=⟨Fr.of s,λu q=>s _ _ q,λu q=>s _ _ q⟩
def mu.trans(s:mu aB nl F H ai)(t:mu aB nl F ai H'):mu aB nl F H H':=⟨s.fr.trans t.fr,λu q=>t.xU u (s.xU u q),λu q=>t.xV u (s.xV u q)⟩
def mu.mk'{M:sl I}(s:Fr M H H')(h:∀c∈M,c∈F)(e3:aB∉M)(cS:nl∉M):mu aB nl F H H':=⟨s.more h,λu q=>s.cI _ _ e3 q,λu q=>s.cI _ _ cS q⟩
def kj.fJ(aj:kj a H g aB nl aV bz bC a' c7 ts a3 aW x):aB∉[g,aV,bz,bC,a']/\nl∉[g,aV,bz,bC,a']:=by obtain⟨⟨_,ak⟩,aH⟩:=aj.ck.kK;simp only[dz,rv,qD,yC];exact⟨⟨jX ak aj.ck.obj (by show(15:Nat)≠6;decide),λz=>f3 aj.ck.iJ ak z.symm,λz=>f3 aj.jj ak z.symm,λz=>f3 aj.kk ak z.symm,λz=>(by have:=aj.ck.jh;rw[<-z,ak]at this;cases this)⟩,f3 aH aj.ck.obj,aj.ck.vN,aj.u1,aj.u2,λz=>(by have:=aj.ck.jh;rw[<-z,aH]at this;cases this)⟩
def kj.own(aj:kj a H g aB nl aV bz bC a' c7 ts a3 aW x)(fk:∀c∈xT g aB nl aV bz bC a' c7 ts,c∈F):∀c∈[g,aV,bz,bC,a'],c∈F:=λc a7=>fk c (iK.mpr (by
 simp only[dz,rv,qD]at a7;obtain h|h|h|h|h:=a7
 .exact .inl h
 .exact .inr (.inr (.inr (.inl h)))
 .exact .inr (.inr (.inr (.inr (.inl h))))
 .exact .inr (.inr (.inr (.inr (.inr (.inl h)))))
 exact .inr (.inr (.inr (.inr (.inr (.inr (.inl h))))))))
def kj.I9(aj:kj a H g aB nl aV bz bC a' c7 ts a3 aW x)(fk:∀c∈xT g aB nl aV bz bC a' c7 ts,c∈F)(s:Fr [g,aV,bz,bC,a'] H H'):mu aB nl F H H':=mu.mk' s (aj.own fk) aj.fJ.1 aj.fJ.2
def kj.push{m:Nat×Nat}{s t:I}{ji:sl (sl Key×V)}{e:V}{o1 o2:dA}(aj:kj a H0 g aB nl aV bz bC a' c7 ts a3 aW ⟨r,⟨l,aa⟩⟩)(fr:∀c u,c≠aV->c≠a'->H0 c=B u->H c=B u)(qt:j1 a H g aB nl aV bz bC a' (c7++[(s,p)]) a3 .bR r (l++[m]) ((l++[m]).length+1) ji)(b9:H t=B (.lst (dD (qC r (l++[m]) l.length))))(ny:H0 t=aa)(O:H' bz=B (.lst ((ts++[t]).map V.ref)))(a5:H' bC=B (.lst (mW (iG r (l++[m])))))(k:∀c u,c≠bz->c≠bC->H c=B u->H' c=B u):kj a H' g aB nl aV bz bC a' (c7++[(s,p)]) (ts++[t]) a3 ji ⟨r,⟨l++[m],aa⟩⟩:=by
 have r2:∀{c u},H0 c=B u->t≠c:=fun{c u} q z=>by rw[z,q]at ny;cases ny
 have bj:∀{c:I}{xs:sl V},H0 c=B (.lst xs)->c≠a':=fun{c xs} q z=>by have:=aj.ck.jh;rw[<-z,q]at this;cases this
 have mv:=fr _ _ aj.qr (bj aj.jj) aj.jj;have kl:=fr _ _ aj.qs (bj aj.kk) aj.kk;refine⟨qt.keep λc u a7 q=>k c u ?_ ?_ q,O,by simp[aj.kM],λi y h=>?_,a5,aj.qr,aj.qs,aj.sy,aj.u1,aj.u2⟩
 .obtain⟨⟨cn,ak⟩,aH⟩:=qt.kK;obtain rfl|rfl|rfl|rfl|rfl|⟨z,aR,a7⟩:=a7
  .exact λz=>f3 mv qt.obj z.symm
  .exact λz=>f3 mv ak z.symm
  .exact aj.u1
  .exact ej aj.qr
  .exact λz=>by have:=qt.jh;rw[z,mv]at this;cases this
  obtain⟨⟨d,fs,bw,_⟩,⟨hb,Y',cy,_⟩⟩:=qt.kind aR;obtain rfl|rfl:=a7
  .exact λz=>f3 mv bw z.symm
  exact λz=>f3 mv cy z.symm
 .obtain⟨⟨cn,ak⟩,aH⟩:=qt.kK;obtain rfl|rfl|rfl|rfl|rfl|⟨z,aR,a7⟩:=a7
  .exact λz=>f3 kl qt.obj z.symm
  .exact λz=>f3 kl ak z.symm
  .exact aj.u2
  .exact ej aj.qs
  .exact λz=>by have:=qt.jh;rw[z,kl]at this;cases this
  obtain⟨⟨d,fs,bw,_⟩,⟨hb,Y',cy,_⟩⟩:=qt.kind aR;obtain rfl|rfl:=a7
  .exact λz=>f3 kl bw z.symm
  exact λz=>f3 kl cy z.symm
 by_cases hi:i<ts.length
 .rw[l9 hi]at h;obtain⟨z,e3,cS,gg⟩:=aj.vO i y h;refine⟨?_,e3,cS,gg⟩;rw[k _ _ cS gg (fr _ _ e3 (bj z) z)];show _=B (dA.lst (dD (qC r (l++[m]) i)));rw[Th _ _ (by have:=aj.kM;simp at this;lia)]
 have hq:i<ts.length+1:=by have:=(ei.mp h).1;simpa using this
 have l2:i=ts.length:=by lia
 subst l2;rw[pR (cP _),a0Z]at h;cases h;refine⟨?_,r2 aj.ck.iJ,r2 aj.jj,r2 aj.kk⟩;rw[k _ _ (r2 aj.jj) (r2 aj.kk) b9,aj.kM]
end
def afO(a:b4):bN:=λvs H Q _=>G_ λg aB nl F n x (u v:Nat)=>tH (vs=[.ref g,.int (u:Int),.int (v:Int)]) (fV a H g aB nl F n x) (Tf.Inv x) (x.game.ending=aa) ((u,v)∈x.rules.moves (x.rules.after x.game.moves)) (x.game.moves.length<900) (n<=5000) (∀H' hS,mu aB nl F H H'->(∀c∈hS,c∈F∨H c=aa)->fV a H' g aB nl hS (n+1) ⟨x.rules,⟨x.game.moves++[(u,v)],aa⟩⟩->Q .bR H')
def Za(T:Txt K a6 a):fT P w K a6 base cp 9 a.Game "make" ["self","x","y"] (afO a):=by
 refine T.abI.ok N8 ?_;rintro _ _ _ _ _ H _ _ _ _ ak ⟨g,aB,nl,F,n,⟨r,l,iZ⟩,u,v,rfl,⟨aV,bz,bC,a',c7,ts,a3,aW,aj,DH,fk⟩,cb,aH,hm,OE,kz,k⟩;refine⟨_,aC (cz (i:=3) N8.bj (cw (XI T) ak.mono Y bu (ao (bg (J 0) Y) (ao (gb (I8 T) (J 0) T.dn.1 ak.mono bu) (ao (J 1) (ao (J 2) az)))))) (aC (ea (dR (Z6 T) (J 0) T.dn.1 ak bu (ao (bg (J 3) Y) az))) (aC (cz (i:=4) N8.bj (de oa (fC (ao (J 1) (ao (J 2) (ao (bg (gb (xQ T) (J 0) T.dn.1 ak.mono bu) Y) az)))) (bg (J 3) Y))) (aC (ea (q1 oP uf w3 t8 (bg (J 0) Y) (ao (J 4) az))) (aX (ea (q1 oP uf w3 t8 (bg (J 0) Y) (ao (cw (YP T) ak.mono Y bu (ao (J 4) az)) az))))))),?_⟩;have aH:iZ=aa:=aH;subst aH;have cb:Tf.Inv ⟨r,⟨l,aa⟩⟩:=cb;have hm:(u,v)∈r.moves (r.after l):=hm;have OE:l.length<900:=OE;have c0:=cb.el.g.c0;have hw:eg r (r.after l):=cb.fJ.wf c0 (nM cb.el);have di:=pz hw c0 hm;have afP:Tf.Row r (l++[(u,v)]):=Tf.Row.snoc cb.fJ hm;have dY:=C4 hw c0 di;have kS:=Gg hw c0 di;have gZ:(l++[(u,v)]).length=l.length+1:=by simp
 have ol:=C3 r (l++[(u,v)]);have go:=aj.ck.obj;refine⟨g,_,_,_,_,Y,go,T.dn.1,T.pL,Y,g,_,_,Y,go,Y,g,aB,nl,aV,bz,bC,a',c7,a3,_,_,_,aW,Y,aj.ck,λp aq=>?_⟩;refine⟨aB,_,_,p,u,v,Y,aj.ck.kK.at,aq,cb.el.g,hw,di,λo od eb lt ai afQ afR s1 aU nF c6=>?_⟩;have dN:=aj.ck.same s1;have nF:jH a ai eb (r.after (l++[(u,v)])):=by rw[BX];exact nF
 refine⟨g,_,_,Y,dN.obj,Y,o,_,_,_,_,Y,aU,T.xu.1,T.Nu,Y,g,aB,nl,aV,bz,bC,a',c7,a3,_,r,l++[(u,v)],aW,eb,Y,dN.next (u,v),nF,cb.el,afP,(by lia),(by lia),λau st ji f2 fA _ hD=>?_⟩;have Ia:∀{c:I}{xs:sl V},ai c=B (.lst xs)->c≠a':=fun{c xs} q z=>by have:=dN.jh;rw[<-z,q]at this;cases this
 have lz:au o=B (.ins a.Outcome od [("position",.ref eb),("taken",.ref lt)]):=f2.cI _ _ (by simp only[dz,rv,qD,yC];exact⟨λz=>f3 dN.iJ aU z.symm,λz=>by have:=dN.jh;rw[<-z,aU]at this;cases this⟩) aU;have xg:au lt=B (.lst (dD (r.takes (r.after l) (u,v)))):=f2.cI _ _ (by simp only[dz,rv,qD,yC];exact⟨λz=>(by have:=aj.ck.iJ;rw[<-z,afR]at this;cases this),Ia c6⟩) c6;obtain⟨hG,aO,⟨⟨_,u3⟩,_⟩,_⟩:=hD.last;refine⟨g,_,_,Y,hD.obj,Y,g,aB,aV,bz,bC,a',a3,_,_,_,Y,hD.obj,hD.iJ,aO,hG.1,_,_,_,_,Y,u3,T.nG.1,T.He,Y,Jw,λny Df=>?_⟩;have bE:aw au (av au ny (.lst [.int (u:Int),.int (v:Int),.int ((r.overBy (l++[(u,v)]):Nat):Int)])):=aw.new Df;refine⟨o,_,_,_,_,Y,bE _ _ lz,T.xu.1,T.Nv,Y,ny,lt,_,_,Y,Y,b3,bE _ _ xg,?_,λgQ I5=>?_⟩
 .rw[jI];exact hv (gE (by show 3+_<=1000;lia))
 have s4:=aw.upd (o:=.lst ([.int (u:Int),.int (v:Int),.int ((r.overBy (l++[(u,v)]):Nat):Int)]++dD (r.takes (r.after l) (u,v)))) bE I5;have Ap:(av (av au ny (.lst [.int (u:Int),.int (v:Int),.int ((r.overBy (l++[(u,v)]):Nat):Int)])) gQ (.lst ([.int (u:Int),.int (v:Int),.int ((r.overBy (l++[(u,v)]):Nat):Int)]++dD (r.takes (r.after l) (u,v))))) gQ=B (.lst (dD (u::v::r.overBy (l++[(u,v)])::r.takes (r.after l) (u,v)))):=b3;have afS:au gQ=aa:=bE.free I5;generalize av (av au ny (.lst [.int (u:Int),.int (v:Int),.int ((r.overBy (l++[(u,v)]):Nat):Int)])) gQ (.lst ([.int (u:Int),.int (v:Int),.int ((r.overBy (l++[(u,v)]):Nat):Int)]++dD (r.takes (r.after l) (u,v))))=cU at s4 Ap ⊢;have fh:Fr [aV,a'] H cU:=((Fr.of s1).trans f2).trans (Fr.of s4);have fr:∀c u,c≠aV->c≠a'->H c=B u->cU c=B u:=λc u e3 cS q=>fh.cI c u (by simp[e3,cS]) q;have Zb:∀{c:I}{xs:sl V},H c=B (.lst xs)->c≠a':=fun{c xs} q z=>by have:=aj.ck.jh;rw[<-z,q]at this;cases this
 have Ib:=hD.same s4;have mv:=fr _ _ aj.qr (Zb aj.jj) aj.jj;have kl:=fr _ _ aj.qs (Zb aj.kk) aj.kk;have Aq:H gQ=aa:=((Fr.of s1:Fr [aV,a'] H ai).trans f2).hR _ afS;have afT:gQ≠bz:=λz=>by rw[z,aj.jj]at Aq;cases Aq
 have alu:gQ≠bC:=λz=>by rw[z,aj.kk]at Aq;cases Aq
 refine⟨g,_,_,_,_,Y,Ib.obj,T.dn.1,T.tN,Y,.inl ⟨Y,_,bo.of mv⟩,bz,_,_,Y,Y,mv,?_,?_⟩
 .rw[cX,aj.kM];exact gE (by show l.length<=1000;lia)
 have afU:(av cU bz (.lst (ts.map V.ref++[.ref gQ]))) g=_:=(aM (λz=>f3 mv Ib.obj z.symm)).trans Ib.obj;have su:(av cU bz (.lst (ts.map V.ref++[.ref gQ]))) bC=_:=(aM aj.sy).trans kl;refine⟨g,_,_,_,_,Y,afU,T.dn.1,T.Hf,Y,.inl ⟨Y,_,bo.of su⟩,gQ,u,v,r.overBy (l++[(u,v)]),r.takes (r.after l) (u,v),Y,(aM afT).trans Ap,c0.lt di.eO,c0.lt di.gm,ol,kS,dY,λ_ eX=>?_⟩;have afV:C2 u v (r.overBy (l++[(u,v)])) (r.takes (r.after l) (u,v))=r.moveLine (r.after l) (u,v):=a6U r l (u,v);rw[afV];refine⟨bC,_,_,Y,Y,eX _ _ su,?_,?_⟩
 .unfold mW;rw[cX,Gm];exact gE (by show l.length<=1000;lia)
 have Zc:bz∈F:=fk bz (iK.mpr (by simp));have dG:bC∈F:=fk bC (iK.mpr (by simp));have fs:aV∈F:=fk aV (iK.mpr (by simp));have Zd:a'∈F:=fk a' (iK.mpr (by simp));have fi:Fr [g,aV,bz,bC,a'] H (av cU bz (.lst (ts.map V.ref++[.ref gQ]))):=(fh.more λc a7=>by
  simp only[dz,rv,qD]at a7 ⊢;obtain e|e:=a7
  .exact .inr (.inl e)
  exact .inr (.inr (.inr (.inr e)))).put (by simp)
 refine k _ (st::eb::gQ::F) (aj.I9 fk ((fi.trans (Fr.of eX)).put (by simp))) (λc a7=>?_) ⟨aV,bz,bC,a',c7++[(st,eb)],ts++[gQ],a3,ji,?_,(by lia),λc a7=>?_⟩
 .obtain e|a7:=dz.mp a7
  .rw[e];exact .inr (s1.free fA)
  obtain e|a7:=dz.mp a7
  .rw[e];exact .inr afQ
  obtain e|a7:=dz.mp a7
  .rw[e];exact .inr Aq
  exact .inl a7
 .refine kj.push (H0:=H) (H:=cU) (o1:=.lst []) (o2:=.lst []) (e:=.bR) aj fr Ib (by rw[Ti];exact Ap) Aq ?_ ?_ λc w e3 cS q=>?_
  .rw[aM (ej aj.sy)];rw[eX _ _ b3,fO];rfl
  .rw[b3,Mf];unfold mW;rw[fO];rfl
  rw[aM cS];exact eX _ _ ((aM e3).trans q)
 have u4:∀c,c∈F->c∈st::eb::gQ::F:=λc z=>eH _ (eH _ (eH _ z));obtain h|h|h|h|h|h|h|⟨z,O,a5⟩|h:=iK.mp a7
 .exact u4 c (fk c (iK.mpr (.inl h)))
 .exact u4 c (fk c (iK.mpr (.inr (.inl h))))
 .exact u4 c (fk c (iK.mpr (.inr (.inr (.inl h)))))
 .rw[h];exact u4 _ fs
 .rw[h];exact u4 _ Zc
 .rw[h];exact u4 _ dG
 .rw[h];exact u4 _ Zd
 .obtain O|O:=kN.mp O
  .exact u4 c (fk c (iK.mpr (.inr (.inr (.inr (.inr (.inr (.inr (.inr (.inl ⟨z,O,a5⟩))))))))))
  rw[jY.mp O]at a5;rcases a5 with a5|a5<;>rw[a5]<;>simp
 obtain O|O:=kN.mp h
 .exact u4 c (fk c (iK.mpr (.inr (.inr (.inr (.inr (.inr (.inr (.inr (.inr O))))))))))
 rw[jY.mp O];simp
def afW(a:b4):bN:=λvs H Q _=>jD λg aB nl F n x=>jE (vs=[.ref g]) (fV a H g aB nl F n x) (Tf.Inv x) (Q (.int ((x.rules.overOf x.game:Nat):Int)) H)
def afX(a:b4):bN:=λvs H Q _=>zG λaB r s p (n:Nat) l e=>r5 (vs=[.ref aB,.ref s,mr e]) (fU a H aB r) (t_ a H s p (r.after l) n (r.overBy l)) (hc r) ((r.after l).side<=1) ((e≠aa->r.overBy l=0)) (Q (.int ((r.winner ⟨l,e⟩:Nat):Int)) H)
def afY(a:b4):bN:=λvs H Q _=>jD λg aB nl F n x=>jE (vs=[.ref g]) (fV a H g aB nl F n x) (Tf.Inv x) (Q (.int ((x.rules.winner x.game:Nat):Int)) H)
def Ze(a:b4):bN:=λvs H Q _=>zG λg aB nl F n x e=>il (vs=[.ref g,mr e]) (fV a H g aB nl F n x) (∀H',mu aB nl F H H'->fV a H' g aB nl F n ⟨x.rules,⟨x.game.moves,e⟩⟩->Q .bR H')
def afZ(a:b4):bN:=λvs H Q _=>jD λg aB nl F n x=>r5 (vs=[.ref g]) (fV a H g aB nl F n x) (Tf.Inv x) (n<=5000) ((x.game.ending≠aa->∀H',mu aB nl F H H'->fV a H' g aB nl F (n+1) ⟨x.rules,⟨x.game.moves,aa⟩⟩->Q (.c3 a9) H')) ((x.game.ending=aa->x.game.moves=[]->Q (.c3 aK) H)) ((x.game.ending=aa->x.game.moves≠[]->∀H',mu aB nl F H H'->fV a H' g aB nl F (n+1) ⟨x.rules,⟨x.game.moves.dropLast,aa⟩⟩->Q (.c3 a9) H'))
def OH{x:jZ}(cb:x.game.ending≠aa->x.rules.overBy x.game.moves=0):((x.rules.overOf x.game:Nat):Int)=Z1 x.game.ending ((x.rules.overBy x.game.moves:Nat):Int):=by
 unfold yx;cases h:x.game.ending with
 |none=>
  dsimp only;by_cases z:x.rules.overBy x.game.moves=0
  .rw[aL (λq=>q z),z];rfl
  rw[aZ z];rfl
 |some y=>have z:=cb (by rw[h];simp);dsimp only;rw[aL (λq=>q z)];cases y<;>rfl
def kj.Zf{aV:I}{ts:sl I}{x:jZ}{e:Iw we}(aj:kj a H g aB nl aV bz bC a' c7 ts a3 aW x):kj a (av H g (.ins a.Game a3 (sv aB aV bz bC a' (mr e)))) g aB nl aV bz bC a' c7 ts a3 aW ⟨x.rules,⟨x.game.moves,e⟩⟩:=by
 have go:=aj.ck.obj;obtain⟨⟨cn,ak⟩,aH⟩:=aj.ck.kK;have DI:∀{c:I}{xs:sl V}{o:dA},H c=B (.lst xs)->(av H g o) c=B (.lst xs):=fun{c xs o} q=>(aM (f3 q go)).trans q;refine⟨⟨b3,⟨⟨cn,(aM (jX ak go (by show(15:Nat)≠6;decide))).trans ak⟩,DI aH⟩,DI aj.ck.iJ,aj.ck.kL,λi s h=>?_,?_,aj.ck.An,aj.ck.vN⟩,DI aj.jj,aj.kM,λi t h=>⟨DI (aj.vO i t h).1,(aj.vO i t h).2⟩,DI aj.kk,aj.qr,aj.qs,aj.sy,aj.u1,aj.u2⟩
 .obtain⟨⟨d,O⟩,⟨hb,a5⟩⟩:=aj.ck.sx i s h;exact⟨⟨d,(aM (jX O go (by show(3:Nat)≠6;decide))).trans O⟩,⟨hb,(aM (jX a5 go (by show(2:Nat)≠6;decide))).trans a5⟩⟩
 exact(aM (λz=>by have:=aj.ck.jh;rw[z,go]at this;cases this)).trans aj.ck.jh
def OI{l:sl br}(h:l≠[]):∃gh m,l=gh++[m]:=⟨l.dropLast,l.getLast h,(aiG h).symm⟩
def kj.pop{aV t:I}{ts:sl I}{ji:sl (sl Key×V)}{m:Nat×Nat}{s:I×I}(aj:kj a H g aB nl aV bz bC a' (c7++[s]) (ts++[t]) a3 aW ⟨r,⟨l++[m],aa⟩⟩)(k:∀c u,c≠aV->c≠bz->c≠bC->c≠a'->H c=B u->H' c=B u)(O:H' aV=B (.lst (c7.map λs=>V.ref s.1)))(a5:H' bz=B (.lst (ts.map V.ref)))(aG:H' bC=B (.lst (mW (iG r l))))(cJ:H' a'=B (.gf ji))(f7:Tm ji (r.row l)):kj a H' g aB nl aV bz bC a' c7 ts a3 ji ⟨r,⟨l,aa⟩⟩:=by
 have rn:∀{b C d:I}{fs:sl (a8×V)},H b=B (.ins C d fs)->H' b=B (.ins C d fs):=fun{b C d fs} z=>k _ _ (λq=>f3 aj.ck.iJ z q.symm) (λq=>f3 aj.jj z q.symm) (λq=>f3 aj.kk z q.symm) (λq=>by have:=aj.ck.jh;rw[<-q,z]at this;cases this) z;have bj:∀{c:I}{xs:sl V},H c=B (.lst xs)->c≠a':=fun{c xs} q z=>by have:=aj.ck.jh;rw[<-z,q]at this;cases this
 obtain⟨⟨cn,ak⟩,aH⟩:=aj.ck.kK;have kL:(c7++[s]).length=(l++[m]).length+1:=aj.ck.kL;have kM:(ts++[t]).length=(l++[m]).length:=aj.kM;simp only[dh,gy]at kL kM;refine⟨⟨rn aj.ck.obj,⟨⟨cn,rn ak⟩,k _ _ aj.ck.vN aj.u1 aj.u2 (bj aH) aH⟩,O,by show _=l.length+1;lia,λi z h=>?_,cJ,?_,aj.ck.vN⟩,a5,by show _=l.length;lia,λi y h=>?_,aG,aj.qr,aj.qs,aj.sy,aj.u1,aj.u2⟩
 .have hi:=(ei.mp h).1;have mI:=aj.ck.sx i z (by rw[l9 hi];exact h);have e:((l++[m]).take i)=l.take i:=y5 (by lia);dsimp only at mI ⊢;rw[e]at mI;obtain⟨⟨d,bw⟩,⟨hb,cy⟩⟩:=mI;exact⟨⟨d,rn bw⟩,⟨hb,rn cy⟩⟩
 .dsimp only;rw[lQ (by rw[rZ];exact cP _)];exact f7
 have hi:=(ei.mp h).1;obtain⟨z,e3,cS,gg⟩:=aj.vO i y (by rw[l9 hi];exact h);refine⟨?_,e3,cS,gg⟩;rw[k _ _ e3 cS gg (bj z) z];dsimp only;rw[Th _ _ (by lia)]
def DJ(T:Txt K a6 a):fT P w K a6 base cp 2 a.Game "how_over" ["self"] (afW a):=by refine T.abD.ok a9O ?_;rintro _ _ _ _ _ _ _ _ _ _ ak ⟨g,aB,nl,F,n,x,rfl,⟨aV,bz,bC,a',c7,ts,a3,aW,aj,_⟩,cb,k⟩;refine⟨_,aX (bF (cw (OD T) ak Y bu (ao (gb (xQ T) (J 0) T.dn.1 ak bu) (ao (bg (J 0) Y) az)))),?_⟩;obtain⟨hG,aO,ax,_⟩:=aj.ck.last;refine⟨g,_,_,Y,aj.ck.obj,Y,g,aB,aV,bz,bC,a',a3,_,_,_,Y,aj.ck.obj,aj.ck.iJ,aO,g,_,_,_,_,Y,aj.ck.obj,T.dn.1,T.xw,Y,hG.1,hG.2,_,_,_,_,Y,ax,?_⟩;rw[OH cb.iZ]at k;exact k
def Zg(T:Txt K a6 a):dH P w K a6 base cp 2 "who_won_if" ["rules","stage","ended_by"] (afX a):=by
 refine T.ab3.ok WZ ?_;rintro _ _ _ _ s H _ Q _ _ ak ⟨aB,r,s,p,n,l,e,rfl,⟨cn,d2⟩,ax,aY,pA,aF,k⟩;refine⟨_,aC (cz (i:=3) WZ.bj (cw (OD T) ak Y bu (ao (J 1) (ao (J 2) az)))) (aC (d4 (d1 dB (J 3) (cL T.si Y) (cu _)) (aX (bF (cL T.aaf Y))) d9) (aC (d4 (d1 dB (J 3) (cL T.X9 Y) (cu _)) (aX (bF (cL T.H7 Y))) d9) (aC (d4 (d1 dB (J 3) (cL T.Xa Y) (cu _)) (aX (bF (cL T.X7 Y))) d9) (aC (d4 (d1 dB (J 3) (cL T.Ng Y) (cu _)) (aX (bF (de o4 cg (bg (bg (J 1) Y) Y)))) d9) (aC (d4 (d1 dB (J 3) (cL T.Xb Y) (cu _)) (aX (bF (dZ m2 (mf T.zT.1 Y) (bg (J 0) Y) (λ_ _=>rfl)))) d9) (aC (d4 (d1 dB (J 3) (cL T.Xc Y) (cu _)) (aX (bF (de o4 cg (J 2)))) d9) (aX (bF (cL T.DRAWN Y))))))))),?_⟩;obtain⟨⟨_,u3⟩,⟨_,aq⟩⟩:=id ax;have ky:=OH (x:=⟨r,⟨l,e⟩⟩) aF;refine⟨s,p,_,_,_,e,Y,ax,?_⟩;dsimp only at ky ⊢;rw[<-ky];have Zh:r.overOf ⟨l,e⟩<=7:=by
  have z:=C3 r l;unfold yx;dsimp only;split
  .lia
  cases e with|none=>decide|some y=>cases y<;>decide
 have iV:r.overOf ⟨l,e⟩=6->e=B .hunters∨e=B .king:=λz=>by
  have a87:=C3 r l;unfold yx at z;dsimp only at z;split at z
  .lia
  cases e with
  |none=>cases z
  |some y=>cases y with|hunters=>exact .inl rfl|king=>exact .inr rfl|drawn=>cases z
 unfold Qp at k;generalize r.overOf ⟨l,e⟩=o at Zh iV k;clear ky;have ag0:o=0∨o=1∨o=2∨o=3∨o=4∨o=5∨o=6∨o=7:=by lia
 obtain rfl|rfl|rfl|rfl|rfl|rfl|rfl|rfl:=ag0
 .exact⟨Y,_,Y,ip k⟩
 .exact⟨Y,_,Y,d7 ⟨Y,_,Y,ip k⟩⟩
 .exact⟨Y,_,Y,d7 ⟨Y,_,Y,d7 ⟨Y,_,Y,ip k⟩⟩⟩
 .refine⟨Y,_,Y,d7 ⟨Y,_,Y,d7 ⟨Y,_,Y,d7 ⟨Y,_,Y,ip ⟨s,_,_,_,_,Y,u3,T.nG.1,T.zY,Y,p,_,_,_,_,Y,aq,T.jW.1,T.tL,Y,_,_,Y,Y,?_⟩⟩⟩⟩⟩;have k:Q (.int ((1-(r.after l).side:Nat):Int)) H:=k;rw[show((1-(r.after l).side:Nat):Int)=1-(((r.after l).side:Nat):Int) by lia]at k;exact k
 .have aG:=aY.t3;refine⟨Y,_,Y,d7 ⟨Y,_,Y,d7 ⟨Y,_,Y,d7 ⟨Y,_,Y,d7 ⟨Y,_,Y,ip ⟨aB,_,_,_,_,Y,d2,T.dm.1,T.Nr,Y,a.zT,_,_,.int ((if r.thrice=0 then 2 else if r.thrice=1 then 1 else 0:Nat):Int),Y,Y,T.zT.2 _,?_,k⟩⟩⟩⟩⟩⟩;have:r.thrice=0∨r.thrice=1∨r.thrice=2:=by lia
  refine gw ?_;rcases this with e|e|e<;>rw[e]<;>rfl
 .exact⟨Y,_,Y,d7 ⟨Y,_,Y,d7 ⟨Y,_,Y,d7 ⟨Y,_,Y,d7 ⟨Y,_,Y,d7 ⟨Y,_,Y,d7 k⟩⟩⟩⟩⟩⟩
 .refine⟨Y,_,Y,d7 ⟨Y,_,Y,d7 ⟨Y,_,Y,d7 ⟨Y,_,Y,d7 ⟨Y,_,Y,d7 ⟨Y,_,Y,ip ?_⟩⟩⟩⟩⟩⟩;obtain rfl|rfl:=iV Y
  .exact⟨_,_,Y,Y,k⟩
  exact⟨_,_,Y,Y,k⟩
 exact⟨Y,_,Y,d7 ⟨Y,_,Y,d7 ⟨Y,_,Y,d7 ⟨Y,_,Y,d7 ⟨Y,_,Y,d7 ⟨Y,_,Y,d7 k⟩⟩⟩⟩⟩⟩
def ag1(T:Txt K a6 a):fT P w K a6 base cp 3 a.Game "who_won" ["self"] (afY a):=by refine T.abE.ok a9P ?_;rintro _ _ _ _ _ _ _ _ _ _ ak ⟨g,aB,nl,F,n,x,rfl,⟨aV,bz,bC,a',c7,ts,a3,aW,aj,_⟩,cb,k⟩;refine⟨_,aX (bF (cw (Zg T) ak Y bu (ao (bg (J 0) Y) (ao (gb (xQ T) (J 0) T.dn.1 ak.mono bu) (ao (bg (J 0) Y) az))))),?_⟩;obtain⟨hG,aO,ax,_⟩:=aj.ck.last;have hw:=cb.fJ.wf cb.el.g.c0 (nM cb.el);exact⟨g,_,_,_,_,Y,aj.ck.obj,T.dn.1,T.pL,Y,g,_,_,Y,aj.ck.obj,Y,g,aB,aV,bz,bC,a',a3,_,_,_,Y,aj.ck.obj,aj.ck.iJ,aO,g,_,_,_,_,Y,aj.ck.obj,T.dn.1,T.xw,Y,aB,x.rules,hG.1,hG.2,_,x.game.moves,x.game.ending,Y,aj.ck.kK.at,ax,cb.el.g,hw.gT,cb.iZ,k⟩
def Zi(T:Txt K a6 a):fT P w K a6 base cp 1 a.Game "leave" ["self","ended_by"] (Ze a):=by refine T.abJ.ok a9Q ?_;rintro _ _ _ _ _ H _ _ _ _ _ ⟨g,aB,nl,F,n,x,e,rfl,⟨aV,bz,bC,a',c7,ts,a3,aW,aj,aA,fk⟩,k⟩;refine⟨_,aX (e2 (J 0) (J 1) Y),g,_,_,_,Y,aj.ck.obj,T.dn.1,T.xw,Jx,?_⟩;rw[show gN ("ended_by" :a8) (mr e) (sv aB aV bz bC a' (mr x.game.ending))=sv aB aV bz bC a' (mr e)from Y];exact k _ (aj.I9 fk ((Fr.of (aw.refl H)).put (by simp))) ⟨aV,bz,bC,a',c7,ts,a3,aW,aj.Zf,aA,fk⟩
def ag2(T:Txt K a6 a):fT P w K a6 base cp 1 a.Game "take_back" ["self"] (afZ a):=by
 refine T.abK.ok X5 ?_;rintro f _ _ _ s H _ Q _ _ ak ⟨g,aB,nl,F,n,⟨r,l,iZ⟩,rfl,⟨aV,bz,bC,a',c7,ts,a3,aW,aj,DH,fk⟩,cb,kz,cK,bJ,eh⟩;refine⟨_,aC (d4 (JJ (a2u (bg (J 0) Y))) (aC (e2 (J 0) B6 Y) (aX (bF qF))) d9) (aC (d4 (d1 dB (fj jc Y T.i3 iu (ao (bg (J 0) Y) az)) cg (cu _)) (aX (bF qF)) d9) (aC (cz (i:=1) X5.bj (Ky oP PZ a1h KG (bg (J 0) Y))) (aC (S8 (FH ak) (bg (J 0) Y) (sZ (ao (bg (bg (J 1) Y) Y) (ao (bg (bg (J 1) Y) Y) az))) (de o4 (bg (J 1) Y) cg) Y) (aC (ea (Ky oP PZ a1h KG (bg (J 0) Y))) (aC (ea (Ky oP PZ a1h KG (bg (J 0) Y))) (aX (bF qF))))))),g,_,_,_,_,Y,aj.ck.obj,T.dn.1,T.xw,Y,_,Y,?_⟩;rw[Z4];have alv:g∈F:=fk g (iK.mpr (.inl Y));have Zc:bz∈F:=fk bz (iK.mpr (by simp));have dG:bC∈F:=fk bC (iK.mpr (by simp));have fs:aV∈F:=fk aV (iK.mpr (by simp));have Zd:a'∈F:=fk a' (iK.mpr (by simp));cases iZ with
 |some y=>refine hM ⟨g,_,_,_,Y,aj.ck.obj,T.dn.1,T.xw,Jx,?_⟩;exact cK (by simp) _ (aj.I9 fk ((Fr.of (aw.refl H)).put (by simp))) ⟨aV,bz,bC,a',c7,ts,a3,aW,aj.Zf (e:=aa),(by lia),fk⟩
 |none=>
  refine gF ⟨g,_,_,_,_,Y,aj.ck.obj,T.dn.1,T.tN,Y,bz,_,Y,.inl (bo.of aj.jj),Y,_,Y,?_⟩;rw[cX,aj.kM];by_cases hm:l=[]
  .refine eR (by show decide (V.int ((l.length:Nat):Int)=V.int 0)=a9;rw[hm];decide) (bJ Y hm)
  have jf:=a0I.mpr hm;refine ec (λz=>by have z:=V.int.inj (e7 z);have z:((l.length:Nat):Int)=0:=z;lia) ?_;have kM:ts.length=l.length:=aj.kM;have kL:c7.length=l.length+1:=aj.ck.kL;obtain⟨ro,hG,rfl⟩:=OI (l:=c7) (λz=>by rw[z]at kL;cases kL);obtain⟨s9,t,rfl⟩:=OI (l:=ts) (λz=>by rw[z]at kM;simp at kM;lia);obtain⟨gh,m,rfl⟩:=OI hm;simp only[dh,gy]at kL kM;have eh:∀H',mu aB nl F H H'->fV a H' g aB nl F (n+1) ⟨r,⟨gh,aa⟩⟩->Q (.c3 a9) H':=λH' f z=>eh Y hm H' f (by rw[II];exact z);have fJ:Tf.Row r (gh++[m]):=cb.fJ;have R:Tf.Right r:=cb.el;have aO:=Y_ R (nM R) fJ;have fA:=aj.ck.sx ro.length hG (by simp);have ag3:(gh++[m]).take ro.length=gh++[m]:=lQ (by simp;lia);dsimp only at fA;rw[ag3]at fA;obtain⟨⟨_,u3⟩,⟨_,Zj⟩⟩:=fA;have iJ:H aV=B (.lst (ro.map (λs=>V.ref s.1)++[.ref hG.1])):=by have z:=aj.ck.iJ;rw[fO]at z;exact z
  refine⟨g,_,_,_,_,Y,aj.ck.obj,T.dn.1,T.xv,Y,.inl ⟨Y,_,bo.of iJ⟩,aV,_,.ref hG.1,Y,Y,iJ,(by simp),?_⟩;rw[II];have rn:∀{b C d:I}{fs:sl (a8×V)}{o:dA},H b=B (.ins C d fs)->(av H aV o) b=B (.ins C d fs):=fun{b C d fs o} z=>(aM (λq=>f3 iJ z q.symm)).trans z;have Zk:a'≠aV:=λz=>by have:=aj.ck.jh;rw[z,iJ]at this;cases this
  have Ic:(av H aV (.lst (ro.map λs=>V.ref s.1))) a'=_:=(aM Zk).trans aj.ck.jh;refine⟨hG.1,_,_,_,_,Y,rn u3,T.nG.1,T.Hd,Y,_,_,Y,Y,g,_,_,_,_,Y,rn aj.ck.obj,T.dn.1,T.Hh,Y,hG.1,_,_,_,_,Y,rn u3,T.nG.1,T.zY,Y,hG.2,_,_,_,_,Y,rn Zj,T.jW.1,T.r6,Y,hG.1,_,_,_,_,Y,rn u3,T.nG.1,T.zY,Y,hG.2,_,_,_,_,Y,rn Zj,T.jW.1,T.tL,Y,nU,λtk u0=>?_⟩;have ag4:a'≠tk:=λz=>by rw[<-z,Ic]at u0;cases u0
  refine⟨a',_,Y,z0.t (k:=gr (r.after (gh++[m]))) ((aM ag4).trans Ic) b3 (lR (dE DH kz) dQ),?_⟩;have Zl:Tm (iD aW (gr (r.after (gh++[m]))) (.int ((r.seen (gh++[m]):Nat)-1:Int))) (r.row gh):=by have t:=aj.ck.An;dsimp only at t;rw[lQ (by rw[rZ];exact cP _),G0]at t;have z:=t.sub;rw[<-G0,aO]at z;exact z
  have lk:=FA aW (gr (r.after (gh++[m]))) (.int ((r.seen (gh++[m]):Nat)-1:Int));dsimp only at lk ⊢;generalize iD aW (gr (r.after (gh++[m]))) (.int ((r.seen (gh++[m]):Nat)-1:Int))=ji at Zl lk ⊢;have tm:∀{c u},H c=B u->c≠tk:=fun{c u} q z=>by
   by_cases e:c=aV
   .rw[<-z,e,b3]at u0;cases u0
   rw[<-z,aM e,q]at u0;cases u0
  have dx:Fr [g,aV,bz,bC,a'] H (av (av (av H aV (.lst (ro.map λs=>V.ref s.1))) tk (.tup [.str (dC (Tf.bd (r.after (gh++[m])))),.int ((r.after (gh++[m])).side:Int)])) a' (.gf ji)):=(((Fr.of (aw.refl H)).put (by simp)).new u0).put (by simp);have DK:∀c u,c≠aV->c≠a'->H c=B u->(av (av (av H aV (.lst (ro.map λs=>V.ref s.1))) tk (.tup [.str (dC (Tf.bd (r.after (gh++[m])))),.int ((r.after (gh++[m])).side:Int)])) a' (.gf ji)) c=B u:=λc u e3 cS q=>by rw[aM cS,aM (tm q),aM e3];exact q
  have nv:(av (av (av H aV (.lst (ro.map λs=>V.ref s.1))) tk (.tup [.str (dC (Tf.bd (r.after (gh++[m])))),.int ((r.after (gh++[m])).side:Int)])) a' (.gf ji)) aV=B (.lst (ro.map λs=>V.ref s.1)):=by rw[aM (ej Zk),aM (tm iJ),b3]
  have r0:(av (av (av H aV (.lst (ro.map λs=>V.ref s.1))) tk (.tup [.str (dC (Tf.bd (r.after (gh++[m])))),.int ((r.after (gh++[m])).side:Int)])) a' (.gf ji)) a'=B (.gf ji):=b3;generalize av (av (av H aV (.lst (ro.map λs=>V.ref s.1))) tk (.tup [.str (dC (Tf.bd (r.after (gh++[m])))),.int ((r.after (gh++[m])).side:Int)])) a' (.gf ji)=bc at dx DK nv r0 ⊢;have bj:∀{c:I}{xs:sl V},H c=B (.lst xs)->c≠a':=fun{c xs} q z=>by have:=aj.ck.jh;rw[<-z,q]at this;cases this
  have HU:=DK _ _ (λz=>f3 iJ aj.ck.obj z.symm) (λz=>by have:=aj.ck.jh;rw[<-z,aj.ck.obj]at this;cases this) aj.ck.obj;have jj:bc bz=B (.lst (s9.map V.ref++[.ref t])):=by have z:=DK _ _ aj.qr (bj aj.jj) aj.jj;rw[fO]at z;exact z
  refine⟨g,_,_,_,_,Y,HU,T.dn.1,T.tN,Y,.inl ⟨Y,_,bo.of jj⟩,bz,_,.ref t,Y,Y,jj,(by simp),?_⟩;rw[II];have kk:(av bc bz (.lst (s9.map V.ref))) bC=B (.lst (mW (iG r gh)++[.str (cm (r.moveLine (r.after gh) m))])):=by rw[aM aj.sy,DK _ _ aj.qs (bj aj.kk) aj.kk];dsimp only;rw[Mf];unfold mW;rw[fO];rfl
  refine⟨g,_,_,_,_,Y,(aM (λz=>f3 jj HU z.symm)).trans HU,T.dn.1,T.Hf,Y,.inl ⟨Y,_,bo.of kk⟩,bC,_,.str (cm (r.moveLine (r.after gh) m)),Y,Y,kk,(by simp),?_⟩;rw[II];refine eh _ (aj.I9 fk ((dx.put (by simp)).put (by simp))) ⟨aV,bz,bC,a',ro,s9,a3,ji,kj.pop aj (λc u e3 cS gg ag5 q=>?_) ?_ ?_ b3 ?_ Zl,(by lia),λc a7=>fk c ?_⟩
  .rw[aM gg,aM cS];exact DK c u e3 ag5 q
  .rw[aM (ej aj.qs),aM (ej aj.qr)];exact nv
  .rw[aM (ej aj.sy),b3]
  .rw[aM (λz=>bj aj.kk z.symm),aM (λz=>bj aj.jj z.symm)];exact r0
  rw[iK]at a7 ⊢;obtain h|h|h|h|h|h|h|⟨z,O,a5⟩|h:=a7
  .exact .inl h
  .exact .inr (.inl h)
  .exact .inr (.inr (.inl h))
  .exact .inr (.inr (.inr (.inl h)))
  .exact .inr (.inr (.inr (.inr (.inl h))))
  .exact .inr (.inr (.inr (.inr (.inr (.inl h)))))
  .exact .inr (.inr (.inr (.inr (.inr (.inr (.inl h))))))
  .exact .inr (.inr (.inr (.inr (.inr (.inr (.inr (.inl ⟨z,sG _ O,a5⟩)))))))
  exact .inr (.inr (.inr (.inr (.inr (.inr (.inr (.inr (sG _ h))))))))
def ag6(a:b4):bN:=λvs H Q _=>kJ λg a3 aB nl r=>mQ (vs=[.ref g,.ref aB]) (H g=B (.ins a.Game a3 [])) (rm a H aB nl r) (Tf.Right r) (∀H' hS,Fr [g] H H'->(∀c∈hS,c=g∨c=aB∨c=nl∨H c=aa)->fV a H' g aB nl hS 1 ⟨r,a21⟩->Q .bR H')
structure ag7 (H H':ag) (g:I) (a:I) (o:dA) (C a3:I) (fs:sl (a8×V)):Prop where
 dK:∀c u,c≠g->H c=B u->H' c=B u
 cG:H' a=B o
 at_:H' g=B (.ins C a3 fs)
 fr:H a=aa
 hR:∀c,H' c=aa->H c=aa
def Ie{a:I}{h6:sl (a8×V)}(aI:H g=B (.ins C a3 fs))(bf:H a=aa):ag7 H (av (av H a o) g (.ins C a3 h6)) g a o C a3 h6:=by
 have n:a≠g:=λz=>by rw[z,aI]at bf;cases bf
 refine⟨λc u e3 q=>by rw[aM e3,aM (cV q bf)];exact q,by rw[aM n,b3],b3,bf,λc z=>?_⟩;by_cases e:c=g
 .rw[e,b3]at z;cases z
 rw[aM e]at z;by_cases aT:c=a
 .rw[aT,b3]at z;cases z
 rw[aM aT]at z;exact z
def Zm(T:Txt K a6 a):ox P w K a6 base cp 9 a.Game ["self","rules"] (ag6 a):=by
 refine T.abA.ok a9L ?_;rintro _ _ _ _ s H _ _ _ _ ak ⟨g,a3,aB,nl,r,rfl,aI,d2,R,k⟩;refine⟨_,aC (e2 (J 0) (J 1) Y) (aC (e2 (J 0) (fC az) Y) (aC (e2 (J 0) (fC az) Y) (aC (e2 (J 0) (fC az) Y) (aC (e2 (J 0) a4h Y) (aC (e2 (J 0) B6 Y) (aX (ea (dR (Z6 T) (J 0) T.dn.1 ak bu (ao (pK (XF T) ak.mono Y T.jW.2 bu (ao (bg (J 1) Y) (ao (bg (J 1) Y) az))) az))))))))),?_⟩;obtain⟨⟨cn,l5⟩,lO⟩:=id d2;have ag8:aB≠g:=jX l5 aI (by show(15:Nat)≠0;decide);have ag9:nl≠g:=f3 lO aI;refine⟨g,_,_,_,Y,aI,T.dn.1,T.pL,dQ,?_⟩;have dU:Fr [g] H (av H g (.ins a.Game a3 [("rules",.ref aB)])):=(Fr.of (aw.refl H)).put (by simp);have DL:(av H g (.ins a.Game a3 [("rules",.ref aB)])) g=B (.ins a.Game a3 [("rules",.ref aB)]):=b3;rw[show gN ("rules" :a8) (V.ref aB) []=([("rules",.ref aB)]:sl (a8×V))from Y];generalize av H g (.ins a.Game a3 [("rules",.ref aB)])=ai at dU DL ⊢;refine⟨es _,λaV xR=>?_⟩;refine⟨g,_,_,_,Y,(aM (λz=>by rw[<-z,DL]at xR;cases xR)).trans DL,T.dn.1,T.xv,qE,?_⟩;have g2:=Ie (h6:=[("rules",.ref aB),("stages",.ref aV)]) (o:=.lst []) DL xR;rw[show gN ("stages" :a8) (V.ref aV) [("rules",.ref aB)]=([("rules",.ref aB),("stages",.ref aV)]:sl (a8×V))from Y];generalize av (av ai aV (.lst [])) g (.ins a.Game a3 [("rules",.ref aB),("stages",.ref aV)])=au at g2 ⊢;refine⟨es _,λbz mv=>?_⟩;refine⟨g,_,_,_,Y,(aM (λz=>by rw[<-z,g2.at_]at mv;cases mv)).trans g2.at_,T.dn.1,T.tN,sO,?_⟩;have m8:=Ie (h6:=[("rules",.ref aB),("stages",.ref aV),("moves",.ref bz)]) (o:=.lst []) g2.at_ mv;rw[show gN ("moves" :a8) (V.ref bz) [("rules",.ref aB),("stages",.ref aV)]=([("rules",.ref aB),("stages",.ref aV),("moves",.ref bz)]:sl (a8×V))from Y];generalize av (av au bz (.lst [])) g (.ins a.Game a3 [("rules",.ref aB),("stages",.ref aV),("moves",.ref bz)])=bc at m8 ⊢;refine⟨es _,λbC kl=>?_⟩;refine⟨g,_,_,_,Y,(aM (λz=>by rw[<-z,m8.at_]at kl;cases kl)).trans m8.at_,T.dn.1,T.Hf,Qy,?_⟩;have rp:=Ie (h6:=[("rules",.ref aB),("stages",.ref aV),("moves",.ref bz),("lines",.ref bC)]) (o:=.lst []) m8.at_ kl;rw[show gN ("lines" :a8) (V.ref bC) [("rules",.ref aB),("stages",.ref aV),("moves",.ref bz)]=([("rules",.ref aB),("stages",.ref aV),("moves",.ref bz),("lines",.ref bC)]:sl (a8×V))from Y];generalize av (av bc bC (.lst [])) g (.ins a.Game a3 [("rules",.ref aB),("stages",.ref aV),("moves",.ref bz),("lines",.ref bC)])=cU at rp ⊢;refine λa' u5=>?_;refine⟨g,_,_,_,Y,(aM (λz=>by rw[<-z,rp.at_]at u5;cases u5)).trans rp.at_,T.dn.1,T.Hh,Qz,g,_,_,_,Y,b3,T.dn.1,T.xw,B2,?_⟩;rw[j5];have u6:=Ie (h6:=sv aB aV bz bC a' .bR) (o:=.gf []) rp.at_ u5;rw[show gN ("ended_by" :a8) V.bR (gN ("times" :a8) (V.ref a') [("rules",.ref aB),("stages",.ref aV),("moves",.ref bz),("lines",.ref bC)])=sv aB aV bz bC a' .bR from Y];generalize av (av cU a' (.gf [])) g (.ins a.Game a3 (sv aB aV bz bC a' .bR))=c' at u6 ⊢;have dK:∀c u,c≠g->H c=B u->c' c=B u:=λc u n q=>u6.dK c u n (rp.dK c u n (m8.dK c u n (g2.dK c u n (dU.cI c u (by simp[n]) q))));have hR:∀c,c' c=aa->H c=aa:=λc z=>dU.hR c (g2.hR c (m8.hR c (rp.hR c (u6.hR c z))));have Ig:∀{c:I}{H':ag}{u:dA},H' g=B u->H' c=aa->c≠g:=fun{c H' u} q z e=>by rw[e,q]at z;cases z
 have Ih:=Ig DL xR;have Zn:=Ig g2.at_ mv;have aga:=Ig m8.at_ kl;have alw:=Ig rp.at_ u5;have agb:c' aV=B (.lst []):=u6.dK _ _ Ih (rp.dK _ _ Ih (m8.dK _ _ Ih g2.cG));have agc:c' bz=B (.lst []):=u6.dK _ _ Zn (rp.dK _ _ Zn m8.cG);have su:c' bC=B (.lst []):=u6.dK _ _ aga rp.cG;have OJ:H aV=aa:=dU.hR _ xR;have Zo:H bz=aa:=dU.hR _ (g2.hR _ mv);have I3:H bC=aa:=dU.hR _ (g2.hR _ (m8.hR _ kl));have Zp:H a'=aa:=dU.hR _ (g2.hR _ (m8.hR _ (rp.hR _ u5)));have qr:bz≠aV:=λz=>by rw[z,g2.cG]at mv;cases mv
 have qs:bC≠aV:=λz=>by rw[z,m8.dK _ _ Ih g2.cG]at kl;cases kl
 have sy:bC≠bz:=λz=>by rw[z,m8.cG]at kl;cases kl
 have OK:=dK _ _ ag8 l5;have agd:=dK _ _ ag9 lO;refine⟨g,_,_,Y,u6.at_,Y,aB,_,_,_,_,Y,OK,T.dm.1,T.CT,Y,aB,_,_,_,_,Y,OK,T.dm.1,T.Nm,Y,λp d Dp ou bV=>⟨p,d,_,_,Y,b3,Y,?_⟩⟩;rw[j5];have eX:aw c' (av (av c' d (.own p)) p (.ins a.Position d [("board",.str (dC (Tf.bd r.begins))),("turn",.int ((r.first:Nat):Int))])):=aw.upd (aw.new ou) (by rw[aM (ej bV)];exact Dp);have Zq:(av (av c' d (.own p)) p (.ins a.Position d [("board",.str (dC (Tf.bd r.begins))),("turn",.int ((r.first:Nat):Int))])) p=B (.ins a.Position d [("board",.str (dC (Tf.bd r.begins))),("turn",.int ((r.first:Nat):Int))]):=b3;generalize av (av c' d (.own p)) p (.ins a.Position d [("board",.str (dC (Tf.bd r.begins))),("turn",.int ((r.first:Nat):Int))])=fQ at eX Zq ⊢;obtain⟨_,age⟩:=R.king;obtain⟨_,agf,_⟩:=G1 R.g.c0 age (by have:=R.g.f2;lia);have Zr:j1 a fQ g aB nl aV bz bC a' [] a3 .bR r [] ([]:sl (Nat×Nat)).length []:=by refine⟨eX _ _ u6.at_,⟨⟨cn,eX _ _ OK⟩,eX _ _ agd⟩,eX _ _ agb,Y,λi s h=>by simp at h,eX _ _ u6.cG,λk=>rfl,λz=>?_⟩;rw[z,OJ]at lO;cases lO
 have jf:jH a fQ p (r.after []):=⟨d,by show fQ p=B (.ins a.Position d (Hr r.begins));unfold Hr;rw[agf];exact Zq⟩;refine⟨g,aB,nl,aV,bz,bC,a',[],a3,_,r,[],[],p,Y,Zr,jf,R,Tf.Row.nil,by simp,by simp,λfv s ji Ag agg OF agh=>?_⟩;have Zs:∀{c:I}{xs:sl V},c≠aV->fQ c=B (.lst xs)->fv c=B (.lst xs):=fun{c xs} n q=>Ag.cI _ _ (by simp only[dz,rv,qD,yC];exact⟨n,λz=>by have:=Zr.jh;rw[<-z,q]at this;cases this⟩) q;have u1:nl≠bz:=λz=>by rw[z,Zo]at lO;cases lO
 have u2:nl≠bC:=λz=>by rw[z,I3]at lO;cases lO
 have DM:Fr [g] H fv:=by refine⟨λc u n q=>?_,λc z=>hR c (eX.free (Ag.hR c z))⟩;have rO:c≠g:=λz=>n (by simp[z]);refine Ag.cI _ _ ?_ (eX _ _ (dK c u rO q));simp only[dz,rv,qD,yC];exact⟨λz=>(by rw[z,OJ]at q;cases q),λz=>(by rw[z,Zp]at q;cases q)⟩
 refine k fv (xT g aB nl aV bz bC a' [(s,p)] []) DM (λc a7=>?_) ⟨aV,bz,bC,a',[(s,p)],[],a3,ji,⟨agh,Zs qr (eX _ _ agc),Y,λi t h=>by simp at h,Zs qs (eX _ _ su),qr,qs,sy,u1,u2⟩,OF,λc a7=>a7⟩;obtain h|h|h|h|h|h|h|⟨z,O,a5⟩|h:=iK.mp a7
 .exact .inl h
 .exact .inr (.inl h)
 .exact .inr (.inr (.inl h))
 .rw[h];exact .inr (.inr (.inr OJ))
 .rw[h];exact .inr (.inr (.inr Zo))
 .rw[h];exact .inr (.inr (.inr I3))
 .rw[h];exact .inr (.inr (.inr Zp))
 .rw[jY.mp O]at a5;obtain a5|a5:=a5
  .rw[a5];exact .inr (.inr (.inr (hR _ (eX.free agg))))
  rw[a5];exact .inr (.inr (.inr (hR _ Dp)))
 simp at h
def OL(a:b4):bN:=λvs H Q _=>zG λaB r s p (n:Nat) l e=>r5 (vs=[.ref aB,.ref s,mr e]) (fU a H aB r) (t_ a H s p (r.after l) n (r.overBy l)) (hc r) ((r.after l).side<=1) ((e≠aa->r.overBy l=0)) (Q (.str (cm (n6 (r.winner ⟨l,e⟩) (r.overOf ⟨l,e⟩)))) H)
inductive OM (a:b4) (vs:sl V) (H:ag) (Q:c2) (E:cW):Prop
 |mk g aB nl F n x aq dK h k:vs=[.ref g,.ref aq,.ref dK]->fV a H g aB nl F n x->Tf.Inv x->x.rules.name.length<=16->x.game.moves.length<=900->H aq=B (.lst (cA h))->H dK=B (.lst (cA k))->h.length<=1500->k.length<=1500->(∀l H',H l=aa->aw H H'->H' l=B (.lst (cA (x.rules.gameText h k x.game)))->Q (.ref l) H')->OM a vs H Q E
def agi(h:i<=3):ho ([.str "hunters",.str "king",.str "drawn",.str "open"]:sl V) ((i:Nat):Int)=B (.str (cm (uA Js i))):=by
 refine gw ?_;have:i=0∨i=1∨i=2∨i=3:=by lia
 rcases this with rfl|rfl|rfl|rfl<;>exact g5 (λz=>B (V.str z)) dQ
def agj(h:i<=7):ho ([.str "open",.str "taken",.str "goal",.str "stuck",.str "thrice",.str "limit",.str "given",.str "agreed"]:sl V) ((i:Nat):Int)=B (.str (cm (uA Jm i))):=by
 refine gw ?_;have:i=0∨i=1∨i=2∨i=3∨i=4∨i=5∨i=6∨i=7:=by lia
 rcases this with rfl|rfl|rfl|rfl|rfl|rfl|rfl|rfl<;>exact g5 (λz=>B (V.str z)) dQ
def lp(u:aS)(h:u.length<=100000):(cm u).length<=cN:=by rw[fz];exact hv (A8 h)
def Zt(T:Txt K a6 a):dH P w K a6 base cp 3 "end_line" ["rules","stage","ended_by"] (OL a):=by
 refine T.ab4.ok M' ?_;rintro _ _ _ _ s _ _ _ _ _ ak ⟨aB,r,s,p,n,l,e,rfl,d2,ax,aY,pA,aF,k⟩;refine⟨_,aC (cz (i:=3) M'.bj (dZ m2 (mf T.zU.1 Y) (cw (Zg T) ak Y bu (ao (J 0) (ao (J 1) (ao (J 2) az)))) (λ_ _=>rfl))) (aC (cz (i:=4) M'.bj (dZ m2 (mf T.zV.1 Y) (cw (OD T) ak.mono Y bu (ao (J 1) (ao (J 2) az))) (λ_ _=>rfl))) (aX (bF (a8O (ts:=[iP (.str "end "),MD (dc 3),iP (.str " "),MD (dc 4),iP (.str "\n")]) ⟨ek,V1 (J 3),ek,V1 (J 4),ek,B0⟩)))),?_⟩;have nh:=Gn r ⟨l,e⟩;have ON:=Gp r ⟨l,e⟩;have ky:=OH (x:=⟨r,⟨l,e⟩⟩) aF;dsimp only at ky;obtain⟨_,_⟩:=Gq (i:=r.winner ⟨l,e⟩) (by lia);obtain⟨_,_⟩:=Gq ON;refine⟨aB,r,s,p,n,l,e,Y,d2,ax,aY,pA,aF,a.zU,_,_,_,Y,Y,T.zU.2 _,agi nh,s,p,_,_,_,e,Y,ax,?_⟩;rw[<-ky];refine⟨a.zV,_,_,_,Y,Y,T.zV.2 _,agj ON,?_⟩;have agk:cm (n6 (r.winner ⟨l,e⟩) (r.overOf ⟨l,e⟩))=((((AQ++("end " :a8))++cm (uA Js (r.winner ⟨l,e⟩)))++(" " :a8))++cm (uA Jm (r.overOf ⟨l,e⟩)))++("\n" :a8):=by rw[show AQ=cm []from by decide+kernel,show("end " :a8)=cm (hx "end ")from by decide+kernel,show(" " :a8)=cm [32]from by decide+kernel,show("\n" :a8)=cm [10]from by decide+kernel,gV,gV,gV,gV,gV];congr 1;unfold n6;simp[lg]
 have gZ:=Gr nh ON;have Ow:(hx "end ").length=4:=by decide+kernel
 rw[agk]at k;rw[show AQ=cm []from by decide+kernel,show("end " :a8)=cm (hx "end ")from by decide+kernel,show(" " :a8)=cm [32]from by decide+kernel,show("\n" :a8)=cm [10]from by decide+kernel,gV,gV,gV,gV,gV]at k;refine⟨_,Y,?_,_,Y,?_,_,Y,?_,_,Y,?_,_,Y,?_,_,Y,?_,_,Y,?_,?_,?_⟩;all_goals try rw[show AQ=cm []from by decide+kernel]
 all_goals try rw[show("end " :a8)=cm (hx "end ")from by decide+kernel]
 all_goals try rw[show(" " :a8)=cm [32]from by decide+kernel]
 all_goals try rw[show("\n" :a8)=cm [10]from by decide+kernel]
 all_goals try rw[gV]
 all_goals try rw[gV]
 all_goals try rw[gV]
 all_goals try rw[gV]
 all_goals try rw[gV]
 all_goals first|exact k|exact lp _ (by simp only[dh,fX,uc];lia)|exact lp _ (by lia)
def agl(T:Txt K a6 a):dH P w K a6 base cp 4 "game_text" ["game","hunters_name","kings_name"] (OM a):=by
 refine T.ab5.ok Cw ?_;rintro f bU A _ s _ _ _ _ _ ak ⟨g,aB,nl,F,n,⟨r,l,iZ⟩,aq,dK,a0,j2,rfl,⟨aV,bz,bC,a',c7,ts,a3,aW,aj,DH,fk⟩,cb,nm,vP,bT,aA,Ii,Ij,k⟩;have O:dp 1 (A.deeper (fH "game_text" (bh MN) s⁻¹ f bU)):=ak.mono;refine⟨_,aC (cz (i:=3) Cw.bj (de oa (de oa (de oa (de oa (de oa (cw (sk T) O Y bu (ao ek az)) (J 1)) (cw (sk T) O Y bu (ao ek az))) (J 2)) (cw (sk T) O Y bu (ao ek az))) (bg (bg (J 0) Y) Y))) (aC (cz (i:=4) Cw.bj (BP ek (te Y Cw.bj (nZ (bg (J 0) Y)) (og (own:=[("line",5)]) Y) (λ_ _ _ _ _=>h8 (i:=5) Cw.bj) (λ_ _ _ _ _=>qN) (λ_ _ _ _ _=>de pb (J 5) ek)))) (aX (bF (de oa (J 3) (cw (sk T) O Y bu (ao (de pb (de pb ek (J 4)) (cw (Zt T) ak Y bu (ao (bg (J 0) Y) (ao (gb (xQ T) (J 0) T.dn.1 O bu) (ao (bg (J 0) Y) az))))) az)))))),?_⟩;have nm:r.name.length<=16:=nm;have vP:l.length<=900:=vP;obtain⟨⟨_,l5⟩,lO⟩:=id aj.ck.kK;have agm:Tf.dN.length=5:=by decide+kernel
 have agn:Tf.hD.length=7:=by decide+kernel
 rw[show("game " :a8)=cm Tf.dN from by decide+kernel,show(" " :a8)=cm [32]from by decide+kernel,show("\nrules " :a8)=cm Tf.hD from by decide+kernel];have As:∀{xs ys:aS},xs.length<=5000->ys.length<=90000->(cA xs).length+(cA ys).length<=cN:=fun{xs ys} O a5=>by rw[iI,iI];exact hv (A8 (by lia))
 refine⟨_,Y,(by lia),λeO ai _ s1 aO=>⟨eO,aq,_,_,Y,Y,aO,s1 _ _ bT,As (by lia) (by lia),λgm Fh=>?_⟩⟩;have s2:=aw.upd (o:=.lst (cA Tf.dN++cA a0)) s1 Fh;have aT:(av ai gm (.lst (cA Tf.dN++cA a0))) gm=B (.lst (cA (Tf.dN++a0))):=by rw[b3,vA]
 generalize av ai gm (.lst (cA Tf.dN++cA a0))=au at s2 aT ⊢;refine⟨_,Y,(by simp),λtf bc _ bE e1=>⟨gm,tf,_,_,Y,Y,bE _ _ aT,e1,As (by rw[dh];lia) (by simp),λu_ ago=>?_⟩⟩;have s4:=aw.upd (o:=.lst (cA (Tf.dN++a0)++cA [32])) (s2.trans bE) ago;have hN:(av bc u_ (.lst (cA (Tf.dN++a0)++cA [32]))) u_=B (.lst (cA ((Tf.dN++a0)++[32]))):=by rw[b3,vA (Tf.dN++a0)]
 generalize av bc u_ (.lst (cA (Tf.dN++a0)++cA [32]))=cU at s4 hN ⊢;refine⟨u_,dK,_,_,Y,Y,hN,s4 _ _ aA,As (by simp only[dh,gy];lia) (by lia),λze agp=>?_⟩;have g0:=aw.upd (o:=.lst (cA ((Tf.dN++a0)++[32])++cA j2)) s4 agp;have kA:(av cU ze (.lst (cA ((Tf.dN++a0)++[32])++cA j2))) ze=B (.lst (cA (((Tf.dN++a0)++[32])++j2))):=by rw[b3,vA ((Tf.dN++a0)++[32])]
 generalize av cU ze (.lst (cA ((Tf.dN++a0)++[32])++cA j2))=c' at g0 kA ⊢;refine⟨_,Y,(by lia),λLY fQ _ eX mj=>⟨ze,LY,_,_,Y,Y,eX _ _ kA,mj,As (by simp only[dh,gy];lia) (by lia),λzf agq=>?_⟩⟩;have k1:=aw.upd (o:=.lst (cA (((Tf.dN++a0)++[32])++j2)++cA Tf.hD)) (g0.trans eX) agq;have lL:(av fQ zf (.lst (cA (((Tf.dN++a0)++[32])++j2)++cA Tf.hD))) zf=B (.lst (cA ((((Tf.dN++a0)++[32])++j2)++Tf.hD))):=by rw[b3,vA (((Tf.dN++a0)++[32])++j2)]
 generalize av fQ zf (.lst (cA (((Tf.dN++a0)++[32])++j2)++cA Tf.hD))=fv at k1 lL ⊢;refine⟨g,_,_,_,_,Y,k1 _ _ aj.ck.obj,T.dn.1,T.pL,Y,aB,_,_,_,_,Y,k1 _ _ l5,T.dm.1,T.Nl,Y,zf,nl,_,_,Y,Y,lL,k1 _ _ lO,As (by simp only[dh,gy];lia) (by lia),λzg agr=>?_⟩;have q3:=aw.upd (o:=.lst (cA ((((Tf.dN++a0)++[32])++j2)++Tf.hD)++cA r.name)) k1 agr;have pP:(av fv zg (.lst (cA ((((Tf.dN++a0)++[32])++j2)++Tf.hD)++cA r.name))) zg=B (.lst (cA (((((Tf.dN++a0)++[32])++j2)++Tf.hD)++r.name))):=by rw[b3,vA ((((Tf.dN++a0)++[32])++j2)++Tf.hD)]
 have OO:(((((Tf.dN++a0)++[32])++j2)++Tf.hD)++r.name).length<=4000:=by simp only[dh,gy];lia
 have OP:=U7 r a0 j2 ⟨l,iZ⟩;dsimp only at k OP ⊢;generalize (((((Tf.dN++a0)++[32])++j2)++Tf.hD)++r.name)=N at pP OO OP;generalize av fv zg (.lst (cA ((((Tf.dN++a0)++[32])++j2)++Tf.hD)++cA r.name))=q4 at q3 pP ⊢;have kl:q4 bC=B (.lst (mW (iG r l))):=q3 _ _ aj.kk;have c0:=cb.el.g.c0;have kk:∀b∈iG r l,b.length<=30:=λb a0=>by
  unfold iG at a0;obtain⟨i,hi,rfl⟩:=fG.mp a0;have hi:=fY.mp hi;have fJ:Tf.Row r l:=cb.fJ;have e:l.take (i+1)=l.take i++[l[i]]:=by rw[ue,ff hi];rfl
  have je:=(fJ.take (i+1)).last e;have hw:=je.1.wf c0 (nM cb.el);have:l.getD i (0,0)=l[i]:=by simp[AA,ff hi]
  rw[this];exact Oz c0 hw (pz hw c0 je.2)
 let dG:aS->aS:=λb=>b++[10]
 refine⟨⟨_,Y⟩,g,_,_,_,_,Y,q3 _ _ aj.ck.obj,T.dn.1,T.Hf,Y,bC,Y,⟨_,bo.of kl⟩,λaf d3=>?_⟩;have l3:aw q4 (av q4 af (.lst [])):=aw.new d3;refine uS (K:=K) (a:=bC) (xs:=mW (iG r l)) (λj bc=>aw q4 bc/\bc af=B (.lst (mW (((iG r l).take j).map dG)))) ⟨l3,b3⟩ (λj bc _ z=>bo.of (z.1 _ _ kl)) (λj v oc bY aR=>?_) λoc aR=>?_
 .obtain⟨aE,gU⟩:=aR;obtain⟨b,Zu,rfl⟩:∃b,(iG r l)[j]? =B b/\v=.str (cm b):=by unfold mW at bY;rw[fW]at bY;cases e:(iG r l)[j]? with|none=>rw[e]at bY;cases bY|some t=>rw[e]at bY;exact⟨t,Y,(h4 bY).symm⟩
  have alA:=kk b (n0 Zu);refine⟨Y,_,_,Y,Y,?_,?_⟩
  .rw[show("\n" :a8)=cm [10]from by decide+kernel,fz,fz,gy];exact hv (gE (by lia))
  rw[show("\n" :a8)=cm [10]from by decide+kernel,gV];refine⟨_,gU,?_,λb o z=>?_,?_⟩
  .unfold mW;rw[cX,cX,ko,Gm];exact gE (by lia)
  .rw[aM (cV z d3)];exact aE _ _ z
  rw[b3,take_snoc Zu,fO];unfold mW;rw[fO];rfl
 obtain⟨aE,gU⟩:=aR;have rf:(mW (iG r l)).length=(iG r l).length:=by unfold mW;rw[cX]
 rw[rf,jl]at gU;have ags:∀L:sl aS,(∀b∈L,b.length<=30)->(((L.map dG).map cm).map (·.length)).sum<=L.length*31/\((L.map dG).flatten).length<=L.length*31:=λL di=>by
  induction L with
  |nil=>simp
  |cons x L ih=>
   have ah:=di x (by simp);have g9:=ih λb a0=>di b (eH _ a0);have Zv:(dG x).length=x.length+1:=by show(x++[10]).length=_;simp
   constructor
   .simp only[ir,IV,fz,Zv,fX];have:=g9.1;simp only[iL]at this ⊢
    lia
   simp only[ir,E9,dh,Zv,fX];have:=g9.2
   lia
 have Zw:=ags (iG r l) kk;rw[Gm]at Zw;refine⟨"",af,((iG r l).map dG).map cm,Y,Y,.inl (bo.of (gU.trans ?_)),?_,?_⟩
 .unfold mW;rw[iL,iL,iL];rfl
 .have:=Zw.1;rw[show("" :a8).length=0 from by decide+kernel]
  lia
 rw[show("" :a8)=cm []from by decide+kernel,YW,U3];obtain⟨hG,l2,ax,_⟩:=aj.ck.last;have m3:=q3.trans aE;have hw:=cb.fJ.wf c0 (nM cb.el);have Ik:=m3 _ _ aj.ck.obj;have gZ:=Gr (Gn r ⟨l,iZ⟩) (Gp r ⟨l,iZ⟩);refine⟨_,_,Y,Y,?_,?_⟩
 .rw[show("\n" :a8)=cm [10]from by decide+kernel,fz,fz,gy];exact hv (A8 (by lia))
 rw[show("\n" :a8)=cm [10]from by decide+kernel,gV];refine⟨g,_,_,_,_,Y,Ik,T.dn.1,T.pL,Y,g,_,_,Y,Ik,Y,g,aB,aV,bz,bC,a',a3,_,_,_,Y,Ik,m3 _ _ aj.ck.iJ,l2,g,_,_,_,_,Y,Ik,T.dn.1,T.xw,Y,aB,r,hG.1,hG.2,_,l,iZ,Y,aj.ck.kK.at.same m3,ax.keep λc u _ q=>m3 c u q,cb.el.g,hw.gT,cb.iZ,_,_,Y,Y,?_,?_⟩
 .rw[fz,fz,dh,gy];exact hv (A8 (by lia))
 rw[gV];refine⟨_,Y,?_,λagt _ _ rd agu=>⟨zg,agt,_,_,Y,Y,rd _ _ (aE _ _ pP),agu,?_,λagv tA=>?_⟩⟩
 .simp only[dh,gy];lia
 .refine As (by lia) ?_;simp only[dh,gy];lia
 refine k agv _ ((m3.trans rd).free tA) (aw.upd (m3.trans rd) tA) ?_;rw[b3,<-vA N,OP]
structure rq (a:b4) (H0:ag) (x aD:I) (b:aS) (m:Nat) (H:ag):Prop where
 c5:df x H0 H
 cF:Hg.fg a H x aD b m
section
variable{wp:I}{w:aS}{aj:Except Nat k'}
def rq.go(D:rq a H0 x aD b m H)(s:df x H H')(r:hP a H' x aD m')(hm:m'<=b.length):rq a H0 x aD b m' H':=⟨D.c5.trans s,r,s _ _ (vD D.cF.1 D.cF.2.1) D.cF.2.1,hm⟩
def Il{f:eV->Except Nat k'}(D:rq a H0 x aD b m H)(aY:aj=(eD w (cE b m)>>=f))(e:z=cm w)(ar:w.length<=1000)(ok:∀m' au,rq a H0 x aD b m' au->df x H au->aj=f (cE b m')->Q .bR au)(mn:∀k,aj=.error k->oG a H0 x k E):D6 a [.ref x,.str z] H Q E:=
 HK D.cF e ar (λm' h hm au c5 ak=>ok m' au (D.go c5 ak hm) c5 (aY.trans (nA h))) λk h a3 au c5 hd=>mn k (aY.trans (m9 h)) a3 au (D.c5.trans c5) hd
def agw(eu:Hg.fg a H x aD b m)(hw:H wp=B (.lst (cA w)))(O:∀m',eD w (cE b m)=.ok (cE b m')->m'<=b.length->xG a H x aD .bR m' Q)(a5:∀k,eD w (cE b m)=.error k->oG a H x k E):NS a [.ref x,.ref wp] H Q E:=by
 have ax:=F' w (cE b m);rw[show(cE b m).rest=b.drop m from Y]at ax;refine⟨x,aD,b,m,wp,w,Y,eu,hw,λaq=>?_,λaq=>?_⟩
 .rw[aZ aq,vE]at ax;have:=HJ aq;have aH:=eu.2.2;exact O _ ax (by rw[m_]at this;lia)
 rw[aL (by rw[aq];decide)]at ax;exact a5 _ ax
def agx{f:eV->Except Nat k'}(D:rq a H0 x aD b m H)(hw:H wp=B (.lst (cA w)))(aY:aj=(eD w (cE b m)>>=f))(ok:∀m' au,rq a H0 x aD b m' au->df x H au->aj=f (cE b m')->Q .bR au)(mn:∀k,aj=.error k->oG a H0 x k E):NS a [.ref x,.ref wp] H Q E:=
 agw D.cF hw (λm' h hm au c5 ak=>ok m' au (D.go c5 ak hm) c5 (aY.trans (nA h))) λk h a3 au c5 hd=>mn k (aY.trans (m9 h)) a3 au (D.c5.trans c5) hd
def Zx{f:aS×eV->Except Nat k'}(D:rq a H0 x aD b m H)(aY:aj=(qB (cE b m)>>=f))(ok:∀(nm:aS)(m':Nat) l au,rq a H0 x aD b m' au->df x H au->aj=f (nm,cE b m')->Q (.ref l) au)(mn:∀k,aj=.error k->oG a H0 x k E):NX a [.ref x] H Q E:=
 ⟨x,aD,b,m,Y,D.cF,λk N h l au _ c5 ak _=>ok _ _ l au (D.go c5 ak N.pl) c5 (aY.trans (nA h)),λh a3 au c5 hd=>mn m (aY.trans (m9 h)) a3 au (D.c5.trans c5) hd⟩
end
def agy(a:b4):bN:=λvs H Q E=>zG λx aD b n aB nl r=>mQ (vs=[.ref x,.ref aB]) (fg a H x aD b n) (rm a H aB nl r) ((∀m H',v5 r (cE b n)=.ok (cE b m)->rq a H x aD b m H'->Q .bR H')) ((∀k,v5 r (cE b n)=.error k->oG a H x k E))
structure l7 (x aB nl:I) (F:sl I) (H H':ag):Prop where
 cI:∀c u,c≠x->c∉F->H c=B u->H' c=B u
 xU:∀u,H aB=B u->H' aB=B u
 xV:∀u,H nl=B u->H' nl=B u
def l7.DN(s:df x H H')(e3:aB≠x)(cS:nl≠x):l7 x aB nl F H H':=⟨λc u n _ q=>s c u n q,λu q=>s _ _ e3 q,λu q=>s _ _ cS q⟩
def l7.ofM(s:mu aB nl F H H'):l7 x aB nl F H H':=⟨λc u _ n q=>s.fr.cI c u n q,s.xU,s.xV⟩
def l7.trans(s:l7 x aB nl F H ai)(t:l7 x aB nl F ai au):l7 x aB nl F H au:=⟨λc u e3 cS q=>t.cI c u e3 cS (s.cI c u e3 cS q),λu q=>t.xU u (s.xU u q),λu q=>t.xV u (s.xV u q)⟩
def aw.DO(s:aw H0 H)(ah:H0 x=aa)(fk:∀c∈F,c=aB∨c=nl∨H0 c=aa)(t:l7 x aB nl F H H'):aw H0 H':=λc u q=>by
 by_cases e:c∈F
 .obtain z|z|z:=fk c e
  .rw[z]at q ⊢;exact t.xU _ (s _ _ q)
  .rw[z]at q ⊢;exact t.xV _ (s _ _ q)
  rw[z]at q;cases q
 exact t.cI c u (cV q ah) e (s _ _ q)
noncomputable def mX(o:Nat):sl (Iw we):=if o=0 then[aa,B .hunters,B .king,B .drawn]else[aa]
def mY(r:f5)(l:sl (Nat×Nat)):sl aS:=(mX (r.overBy l)).map λe=>n6 (r.winner ⟨l,e⟩) (r.overOf ⟨l,e⟩)
def OQ(a:b4)(H:ag)(x aB nl:I)(F:sl I)(n:Nat)(E:cW):Prop:=∀a3 H',l7 x aB nl F H H'->H' a3=B (gs a3 [("place",.int (n:Int))])->E (.ref a.mg) (B a3) H'
inductive OR (a:b4) (vs:sl V) (H:ag) (Q:c2) (E:cW):Prop
 |mk x aD b n g aB nl F k r l:vs=[.ref x,.ref g]->fg a H x aD b n->fV a H g aB nl F k ⟨r,⟨l,aa⟩⟩->Tf.Inv ⟨r,⟨l,aa⟩⟩->x∉F->(∀(i:Nat) e w H',(mX (r.overBy l))[i]? =B e->(mY r l)[i]? =B w->du w (b.drop n)=a9->(∀j u,j<i->(mY r l)[j]? =B u->du u (b.drop n)=aK)->l7 x aB nl F H H'->hP a H' x aD (n+w.length)->fV a H' g aB nl F k ⟨r,⟨l,e⟩⟩->Q .bR H')->((∀u∈mY r l,du u (b.drop n)=aK)->OQ a H x aB nl F (n+mT (mY r l) (b.drop n)) E)->OR a vs H Q E
inductive OS (a:b4) (vs:sl V) (H:ag) (Q:c2) (E:cW):Prop
 |mk x aD b n g aB nl F k r l:vs=[.ref x,.ref g]->fg a H x aD b n->fV a H g aB nl F k ⟨r,⟨l,aa⟩⟩->Tf.Inv ⟨r,⟨l,aa⟩⟩->r.overBy l=0->x∉F->(∀c∈F,c≠aD∨c=nl)->l.length<900->k<=5000->b.length<=1500->(∀m H' hS t,r.readMove (r.after l) (er (b.drop n))=.ok m->b.drop n=er (b.drop n)++10::t->l7 x aB nl F H H'->(∀c∈hS,c∈F∨H c=aa)->hP a H' x aD (n+((er (b.drop n)).length+1))->fV a H' g aB nl hS (k+1) ⟨r,⟨l++[m],aa⟩⟩->m∈r.moves (r.after l)->Q .bR H')->(∀m,r.readMove (r.after l) (er (b.drop n))=.ok m->b.drop n=er (b.drop n)->OQ a H x aB nl F (n+(er (b.drop n)).length) E)->(∀p,r.readMove (r.after l) (er (b.drop n))=.error p->OQ a H x aB nl F (n+max p (cj (b.drop n) [101,110])) E)->OS a vs H Q E
def Zy(a:b4):bN:=λvs H Q E=>kJ λaB nl r aD b=>r5 (vs=[.ref aB,.ref aD]) (H aD=B (.lst (cA b))) (rm a H aB nl r) (Tf.Right r) (b.length<=1500) ((∀y g H' hS,r.readGame b=.ok y->aw H H'->(∀c∈hS,c=aB∨c=nl∨H c=aa)->fV a H' g aB nl hS 800 ⟨r,y⟩->Tf.Inv ⟨r,y⟩->y.moves.length<=750->Q (.ref g) H')) ((∀k,r.readGame b=.error k->Dm a H k E))
def agz(T:Txt K a6 a):dH P w K a6 base (pE P w) 5 "read_names" ["reader","rules"] (agy a):=by
 refine T.ab7.kI a9y ?_;rintro f bU A _ s H _ _ _ _ ak ⟨x,aD,b,n,aB,nl,r,rfl,eu,d2,cK,bJ⟩;have aG:dp 3 (A.deeper (fH "read_names" (bh MO) s⁻¹ f bU)):=ak.mono;refine⟨_,aC (ea (dR (jJ T) (J 0) T.cO.1 ak d_.passes (ao ek az))) (aC (ea (gb (HI T) (J 0) T.cO.1 aG d_.passes)) (aC (ea (dR (jJ T) (J 0) T.cO.1 ak d_.passes (ao ek az))) (aC (ea (gb (HI T) (J 0) T.cO.1 aG d_.passes)) (aC (ea (dR (jJ T) (J 0) T.cO.1 ak d_.passes (ao ek az))) (aC (ea (dR (NT T) (J 0) T.cO.1 aG d_.passes (ao (bg (J 1) Y) az))) (aX (ea (dR (jJ T) (J 0) T.cO.1 ak d_.passes (ao ek az))))))))),?_⟩;obtain⟨⟨_,l5⟩,lO⟩:=d2;have D:rq a H x aD b n H:=⟨df.of (aw.refl H),eu⟩;have vH:aB≠x:=by obtain⟨d,z⟩:=eu.1;exact jX l5 z (by show(15:Nat)≠2;decide)
 have OT:nl≠x:=vG eu.1 lO;have aY:v5 r (cE b n)=v5 r (cE b n):=rfl;conv at aY=>rhs;unfold v5
 obtain⟨a3,ah⟩:=id D.cF.1;refine⟨x,_,_,Y,ah,Y,Il (w:=hx "game ") D aY dQ dQ (λm ai D _ aY=>?_) bJ⟩;obtain⟨a3,ah⟩:=id D.cF.1;refine⟨x,_,_,Y,ah,Y,?_⟩;unfold gi;simp only[hU];refine Zx D aY (λnm m iX ai D _ aY=>?_) bJ;obtain⟨a3,ah⟩:=id D.cF.1;refine⟨x,_,_,Y,ah,Y,Il (w:=[32]) D aY dQ dQ (λm ai D _ aY=>?_) bJ⟩;obtain⟨a3,ah⟩:=id D.cF.1;refine⟨x,_,_,Y,ah,Y,?_⟩;simp only[hU];refine Zx D aY (λnm m iX ai D _ aY=>?_) bJ;obtain⟨a3,ah⟩:=id D.cF.1;refine⟨x,_,_,Y,ah,Y,Il (w:=hx "\nrules ") D aY dQ dQ (λm ai D _ aY=>?_) bJ⟩;obtain⟨a3,ah⟩:=id D.cF.1;refine⟨x,_,_,Y,ah,Y,aB,_,_,_,_,Y,D.c5 _ _ vH l5,T.dm.1,T.Nl,Y,agx D (D.c5 _ _ OT lO) aY (λm ai D _ aY=>?_) bJ⟩;obtain⟨a3,ah⟩:=id D.cF.1;have agA:v5 r (cE b n)=(eD [10] (cE b m)>>=λc=>.ok c):=by rw[aY];cases eD [10] (cE b m)<;>rfl
 exact⟨x,_,_,Y,ah,Y,Il (w:=[10]) D agA dQ dQ (λm ai D _ aY=>cK m ai aY D) bJ⟩
def agB(T:Txt K a6 a):dH P w K a6 base (pE P w) 4 "read_end" ["reader","game"] (OR a):=by
 refine T.ab9.kI xp ?_;rintro f bU A _ s H _ Q E _ ak ⟨x,aD,b,n,g,aB,nl,F,k,r,l,rfl,eu,fo,cb,Zz,cK,bJ⟩;have O:dp 1 (A.deeper (fH "read_end" (bh MP) s⁻¹ f bU)):=ak.mono;refine⟨_,aC (cz (i:=2) xp.bj (gb (xQ T) (J 1) T.dn.1 O bu)) (aC (cz (i:=3) xp.bj (fC (ao B6 az))) (aC (d4 (d1 dB (bg (J 2) Y) (cL T.si Y) (cu _)) (aX (cz (i:=3) xp.bj (fC (ao B6 (ao (cL T.H7 Y) (ao (cL T.X7 Y) (ao (cL T.Nh Y) az))))))) d9) (aC (cz (i:=4) xp.bj (dR (rh T) (J 0) T.cO.1 ak d_.passes (ao (te (b_:=iR (OL a) [] q5 (ed (ha K (dc 1) "rules") (ed (dc 2) (ed (dc 5) gi)))) Y xp.bj (nZ (J 3)) (og (own:=[("ended_by",5)]) Y) (λ_ _ _ _ _=>h8 (i:=5) xp.bj) (λ_ _ _ _ _=>qN) (λ_ _ _ _ _=>cw (Zt T) ak Y bu (ao (bg (J 1) Y) (ao (J 2) (ao (J 5) az))))) az))) (aX (ea (dR (Zi T) (J 1) T.dn.1 O bu (ao (dZ hL (J 3) (J 4) (λ_ _=>rfl)) az))))))),?_⟩;obtain⟨aV,bz,bC,a',_,_,a3,_,aj,_,_⟩:=id fo;obtain⟨hG,l2,fA,_⟩:=aj.ck.last;obtain⟨⟨_,u3⟩,_⟩:=id fA;have hw:=cb.fJ.wf cb.el.g.c0 (nM cb.el);obtain⟨⟨_,l5⟩,lO⟩:=id aj.ck.kK;refine⟨g,_,_,Y,aj.ck.obj,Y,g,aB,aV,bz,bC,a',a3,_,_,_,Y,aj.ck.obj,aj.ck.iJ,l2,gd,λaO agC=>?_⟩;have s1:aw H (av H aO (.lst [.bR])):=aw.new agC;have ZA:(av H aO (.lst [.bR])) aO=B (.lst [.bR]):=b3;generalize av H aO (.lst [.bR])=ai at s1 ZA ⊢;refine⟨hG.1,_,_,_,_,Y,s1 _ _ u3,T.nG.1,T.He,Y,Y,_,Y,?_⟩;have alC:(mX (r.overBy l)).length<=4:=by unfold mX;split<;>simp
 have rest:∀(gZ:I)(au:ag),aw H au->au gZ=B (.lst ((mX (r.overBy l)).map mr))->(nY (p6 (jb a.Reader "choice" (HG K a) [] E (dc 0) (ed (wL (QZ K (dc 3)) (mJ 5) RY (iR (OL a) [] q5 (ed (ha K (dc 1) "rules") (ed (dc 2) (ed (dc 5) gi)))) [5]) gi)) (mJ 4)) (Ba (jb a.Game "leave" (Ze a) [] q5 (dc 1) (ed (k2 (Kt K) (dc 3) (dc 4)) gi)))) {c8:=λ_ H'=>Q .bR H',iw:=Q} [B (.ref x),B (.ref g),B (.ref hG.1),B (.ref gZ),aa,aa] au:=λgZ au s2 rV=>by
  have sz:=eu.same s2;obtain⟨_,hF⟩:=id sz.1;refine⟨x,_,_,Y,hF,Y,gZ,Y,⟨_,bo.of rV⟩,λaf d3=>?_⟩;have l3:aw au (av au af (.lst [])):=aw.new d3;refine uS (K:=K) (a:=gZ) (xs:=(mX (r.overBy l)).map mr) (λj bc=>aw au bc/\bc af=B (.lst (oH ((mY r l).take j)))) ⟨l3,b3⟩ (λj bc _ z=>bo.of (z.1 _ _ rV)) (λj v bc bY aR=>?_) λbc aR=>?_
  .obtain⟨aE,gU⟩:=aR;rw[fW]at bY;cases rg:(mX (r.overBy l))[j]? with
   |none=>rw[rg]at bY;cases bY
   |some e=>
    rw[rg]at bY;have bk:v=mr e:=(h4 bY).symm;subst bk;have fy:=s2.trans aE;have lJ:e≠aa->r.overBy l=0:=λbV=>by
     unfold mX at rg;split at rg
     .assumption
     cases j with|zero=>cases rg;exact absurd Y bV|succ j=>simp at rg
    have NN:(mY r l)[j]? =B (n6 (r.winner ⟨l,e⟩) (r.overOf ⟨l,e⟩)):=by unfold mY;rw[fW,rg];rfl
    refine⟨Y,g,_,_,_,_,Y,fy _ _ aj.ck.obj,T.dn.1,T.pL,Y,aB,r,hG.1,hG.2,_,l,e,Y,aj.ck.kK.at.same fy,fA.keep (λc u _ q=>fy c u q),cb.el.g,hw.gT,lJ,_,gU,?_,λb o z=>?_,?_⟩
    .unfold oH;rw[cX,ko];unfold mY;rw[cX];exact gE (by lia)
    .rw[aM (cV z d3)];exact aE _ _ z
    rw[b3,take_snoc NN];unfold oH;rw[fO];rfl
  obtain⟨aE,gU⟩:=aR;rw[cX,lQ (by unfold mY;rw[cX];exact cP _)]at gU;have fy:=s2.trans aE;refine⟨x,aD,b,n,.ref af,mY r l,Y,eu.same fy,.inr ⟨af,Y,gU⟩,λu bx=>?_,λi u hi aq bY cU mw vQ=>?_,λiE dV cU mw zm=>bJ iE dV cU (l7.DN ((df.of fy).trans mw) ?_ ?_) zm⟩
  .unfold mY at bx;obtain⟨e,_,rfl⟩:=fG.mp bx;have:=Gr (Gn r ⟨l,e⟩) (Gp r ⟨l,e⟩)
   lia
  .have vH:aB≠x:=jX (fy _ _ l5) (aE _ _ hF) (by show(15:Nat)≠2;decide);have OT:nl≠x:=vG (eu.same fy).1 (fy _ _ lO);have Im:∃e,(mX (r.overBy l))[i]? =B e:=by unfold mY at hi;rw[fW]at hi;cases q:(mX (r.overBy l))[i]? with|none=>rw[q]at hi;cases hi|some e=>exact⟨e,Y⟩
   obtain⟨e,Im⟩:=Im;have agD:gZ≠x:=vG sz.1 rV;have agE:cU gZ=B (.lst ((mX (r.overBy l)).map mr)):=mw _ _ agD (aE _ _ rV);have DP:fV a cU g aB nl F k ⟨r,⟨l,aa⟩⟩:=fo.frame (S:=[x]) (λc u n q=>mw c u (λz=>n (by simp[z])) (fy _ _ q)) (λc a7 z=>Zz (by rw[<-jY.mp z];exact a7));obtain⟨_,_,_,_,_,DQ⟩:=DP.obj;refine⟨g,_,_,Y,DQ,Y,gZ,_,_,mr e,Y,Y,bo.of agE,gw (by rw[fW,Im];rfl),g,aB,nl,F,k,_,e,Y,DP,λc' fi OU=>?_⟩;refine cK i e u c' Im hi aq bY ((l7.DN ((df.of fy).trans mw) vH OT).trans (l7.ofM fi)) ?_ OU;obtain⟨vy,Ce⟩:=vQ;exact⟨vy,fi.fr.cI _ _ Zz Ce⟩
  .exact jX (fy _ _ l5) (aE _ _ hF) (by show(15:Nat)≠2;decide)
  exact vG (eu.same fy).1 (fy _ _ lO)
 by_cases b8:r.overBy l=0
 .refine eR (by show decide (V.int ((r.overBy l:Nat):Int)=V.int 0)=a9;rw[b8];decide) ⟨(by show 4<=cN;decide),λaT agF=>?_⟩;refine rest aT _ (aw.upd s1 agF) ?_;rw[b3,b8];rfl
 refine ec (λz=>b8 (by have z:=V.int.inj (e7 z);have z:((r.overBy l:Nat):Int)=0:=z;lia)) ?_;refine rest aO _ s1 ?_;rw[ZA];unfold mX;rw[aL b8];rfl
def ZF(r:f5)(l:sl (Nat×Nat))(h:r.overBy l=0):(mX (r.overBy l)).map (λe=>(n6 (r.winner ⟨l,e⟩) (r.overOf ⟨l,e⟩),e))=Jv:=by
 have o:∀e,r.overOf ⟨l,e⟩=Qq e:=λe=>by unfold yx;dsimp only;rw[aL (λz=>z h)]
 have w:∀e,r.winner ⟨l,e⟩=match e with|none=>Tafl.OPEN|some .hunters=>1|some .king=>0|some .drawn=>Tafl.DRAWN:=λe=>by unfold Qp;rw[o];cases e with|none=>rfl|some y=>cases y<;>rfl
 rw[h];unfold mX Jv;rw[aZ Y];simp only[ir,vZ,o,w,Qq]
def OV(r:f5)(l:sl (Nat×Nat))(h:r.overBy l=0):mY r l=Jv.map a12:=by rw[<-ZF r l h,iL];rfl
def agG{L:sl (aS×Iw we)}{x:aS×Iw we}(h:L[i]? =B x)(aq:du x.1 b=a9)(bY:∀j u,j<i->(L.map a12)[j]? =B u->du u b=aK):(L.find? λ(x:aS×Iw we)=>du x.1 b)=B x:=by rw[aiK];obtain⟨bw,cy⟩:=ei.mp h;refine⟨aq,i,bw,cy,λj xK=>?_⟩;have:=bY j L[j].1 xK (by rw[fW,ff (by lia)];rfl);rw[this];rfl
def agH(T:Txt K a6 a)(gS:dH P w K a6 base (mb 2 P w) 10 "read_move" ["reader","game"] (OS a)):dH P w K a6 base (mb 2 P w) 11 "read_game" ["rules","source"] (Zy a):=by
 refine T.ab6.kI N0 ?_;rintro f bU A _ s H _ Q E _ ak ⟨aB,nl,r,aD,b,rfl,fm,d2,R,Io,cK,bJ⟩;have a5:dp 2 (A.deeper (fH "read_game" (bh zK) s⁻¹ f bU)):=ak.mono;have aG:dp 3 (A.deeper (fH "read_game" (bh zK) s⁻¹ f bU)):=ak.mono;have cJ:dp 4 (A.deeper (fH "read_game" (bh zK) s⁻¹ f bU)):=ak.mono;have f7:dp 5 (A.deeper (fH "read_game" (bh zK) s⁻¹ f bU)):=ak.mono;refine⟨_,aC (cz (i:=2) N0.bj (pK (NQ T) a5 Y T.cO.2 bu (ao (J 1) az))) (aC (cz (i:=3) N0.bj (pK (Zm T) ak Y T.dn.2 bu (ao (J 0) az))) (aC (ea (cw (agz T) f7 Y d_.passes (ao (J 2) (ao (J 0) az)))) (aC (wt AP (jq.pt (nX (d1 dB (gb (DJ T) (J 3) T.dn.1 a5 bu) (cL T.si Y) (cu _)) (p_ (d1 pa (dR (XU T) (J 2) T.cO.1 a5 bu (ao (e' T.Nk Y) az)) (fj Fo Y T.i3 iu (ao (e' T.Nk Y) az)) (cu _))))) (aX (ea (cw gS ak Y d_.passes (ao (J 2) (ao (J 3) az)))))) (aC (ea (cw (agB T) cJ Y d_.passes (ao (J 2) (ao (J 3) az)))) (aC (ea (gb (NR T) (J 2) T.cO.1 aG d_.passes)) (aX (bF (J 3)))))))),?_⟩;obtain⟨⟨_,l5⟩,lO⟩:=id d2;have c0:=R.g.c0;refine(λx a3 mN ou bV=>⟨x,a3,aD,Y,b3,Y,?_⟩);rw[j5];obtain⟨s1,DR⟩:=XX (a:=a) fm mN ou bV;generalize av (av H a3 (.own x)) x (.ins a.Reader a3 (sm aD 0))=ai at s1 DR ⊢;refine(λg fa qq DS OW=>⟨g,fa,aB,nl,r,Y,b3,?_,R,λau vR f2 OX ZG=>⟨Y,?_⟩⟩)
 .exact d2.same (s1.trans (aw.upd (aw.new DS) (by rw[aM (ej OW)];exact qq)))
 have f6:aw ai (av (av ai fa (.own g)) g (.ins a.Game fa [])):=aw.upd (aw.new DS) (by rw[aM (ej OW)];exact qq);have pQ:aw ai au:=λc u q=>f2.cI _ _ (by simp only[jY];exact cV q qq) (f6 _ _ q);have s2:aw H au:=s1.trans pQ;have agI:∀c∈vR,c=aB∨c=nl∨H c=aa:=λc a7=>by
  obtain z|z|z|z:=OX c a7
  .rw[z];exact .inr (.inr (s1.free qq))
  .exact .inl z
  .exact .inr (.inl z)
  exact .inr (.inr (s1.free (f6.free z)))
 obtain⟨_,ma⟩:=id DR.1;have ZH:x∉vR:=λa7=>by
  obtain z|z|z|z:=OX x a7
  .rw[z]at ma;rw[ma]at qq;cases qq
  .exact jX (s1 _ _ l5) ma (by show(15:Nat)≠2;decide) z.symm
  .exact vG DR.1 (s1 _ _ lO) z.symm
  rw[f6 _ _ ma]at z;cases z
 have sz:=DR.same pQ;clear f2 f6 OX qq DS OW ou bV;have aY:=a7h (r:=r) b;rw[show(⟨b,0⟩:eV)=cE b 0 from Y]at aY;refine⟨x,aD,b,0,aB,nl,r,Y,sz,d2.same s2,λm bc aH dJ=>?_,λk aA dV bc c5 hd=>bJ k (aY.trans (m9 aA)) dV bc (aw.nL s2 mN c5) hd⟩;have aY:=aY.trans (nA aH);have agJ:∀{F:sl I},x∉F->∀c∈F,c∉[x]:=fun{F} n c a7 z=>n (by rw[<-jY.mp z];exact a7);have agK:fV a bc g aB nl vR 1 ⟨r,a21⟩:=ZG.frame (S:=[x]) (λc u n q=>dJ.c5 c u (λz=>n (by simp[z])) q) (agJ ZH);have bE:aw H bc:=aw.nL s2 mN dJ.c5;refine Bf (λaN H'=>aN=[B (.ref aB),B (.ref aD),B (.ref x),B (.ref g)]/\∃l n F,aw H H'/\hP a H' x aD n/\n<=b.length/\fV a H' g aB nl F (l.length+1) ⟨r,⟨l,aa⟩⟩/\Tf.Row r l/\x∉F/\(∀c∈F,c=aB∨c=nl∨H c=aa)/\2*l.length<=n/\l.length<=r.limit/\r.readGame b=(pD r (r.limit+2-l.length) l (cE b n)>>=λx=>if x.2.rest=[]then .ok x.1 else .error x.2.at_)) (λ_ H'=>((b.length:Int)-l4 H' x).toNat)
  ⟨Y,[],m,vR,bE,dJ.cF.1,dJ.cF.2.2,agK,Tf.Row.nil,ZH,agI,es _,es _,aY⟩ (λaN H' bI=>?_) (λaN H' xD xE v9 h=>?_)
 .obtain⟨rfl,l,n,F,s4,vQ,agL,fo,fJ,vS,vT,_,_,aY⟩:=bI;have cb:Tf.Inv ⟨r,⟨l,aa⟩⟩:=⟨R,fJ,λz=>absurd Y z⟩;have hw:=fJ.wf c0 (nM R);have OY:fg a H' x aD b n:=⟨vQ,s4 _ _ fm,agL⟩;obtain⟨_,_,_,_,_,DQ⟩:=fo.obj;obtain⟨_,Au⟩:=id vQ;have ob:∀(c':ag),aw H' c'->(r.overBy l≠0∨du [101,110] (b.drop n)=a9)->(nY (Ba (iR (OR a) [] E (ed (dc 2) (ed (dc 3) gi)))) (nY (Ba (jb a.Reader "finish" (NP a) [] E (dc 2) gi)) (p3 (dc 3)))) {c8:=λ_ H'=>Q .bR H',iw:=Q} [B (.ref aB),B (.ref aD),B (.ref x),B (.ref g)] c':=λc' g0 vB=>by
   have xW:=s4.trans g0;have hf:r.limit+2-l.length=(r.limit+1-l.length)+1:=by lia
   rw[hf]at aY;have fin:∀e vU (fQ:ag),vU<=b.length->aw H fQ->hP a fQ x aD vU->fV a fQ g aB nl F (l.length+1) ⟨r,⟨l,e⟩⟩->(e≠aa->r.overBy l=0)->pD r ((r.limit+1-l.length)+1) l (cE b n)=.ok (⟨l,e⟩,cE b vU)->(nY (Ba (jb a.Reader "finish" (NP a) [] E (dc 2) gi)) (p3 (dc 3))) {c8:=λ_ H'=>Q .bR H',iw:=Q} [B (.ref aB),B (.ref aD),B (.ref x),B (.ref g)] fQ:=λe vU fQ OZ eX xX DT lJ zC=>by
    have aY:=aY.trans (nA zC);obtain⟨_,agN⟩:=id xX;have aY:r.readGame b=if b.drop vU=[]then .ok ⟨l,e⟩else .error vU:=aY
    refine⟨x,_,_,Y,agN,Y,x,aD,b,vU,Y,⟨xX,eX _ _ fm,OZ⟩,λhq=>?_,λ_ dV fv c5 hd=>bJ vU ?_ dV fv (aw.nL eX mN c5) hd⟩
    .rw[aZ (E7 hq)]at aY;exact cK ⟨l,e⟩ g fQ F aY eX vT (DT.less (by lia)) ⟨R,fJ,lJ⟩ (by show l.length<=750;lia)
    rw[aY,aL];intro z;have:=g5 ub z;rw[m_]at this;simp at this
    lia
   refine⟨x,aD,b,n,g,aB,nl,F,l.length+1,r,l,Y,OY.same g0,fo.same g0,cb,vS,λi e w fQ aF O_ aq bY fr xX DT=>?_,λiE dV fQ fr hd=>bJ _ ?_ dV fQ (aw.DO xW mN vT fr) hd⟩
   .have eX:=aw.DO xW mN vT fr;have hq:=HJ aq;rw[m_]at hq;have OZ:n+w.length<=b.length:=by lia
    have lJ:e≠aa->r.overBy l=0:=λbV=>by
     unfold mX at aF;split at aF
     .assumption
     cases i with|zero=>cases aF;exact absurd Y bV|succ j=>simp at aF
    have ZI:w=n6 (r.winner ⟨l,e⟩) (r.overOf ⟨l,e⟩):=by unfold mY at O_;rw[fW,aF]at O_;exact(h4 O_).symm
    refine fin e (n+w.length) fQ OZ eX xX DT lJ ?_;by_cases b8:r.overBy l=0
    .rw[Uh c0 hw b8 (vB.resolve_left (λz=>z b8))];have aU:=ZF r l b8;have hi:Jv[i]? =B (w,e):=by rw[<-aU,fW,aF,ZI];rfl
     have agO:=agG (b:=b.drop n) hi aq (λj u xK bx=>bY j u xK (by rw[OV r l b8];exact bx));rw[show(cE b n).rest=b.drop n from Y,agO];dsimp only;rw[vE]
    have e0:e=aa:=by cases e with|none=>rfl|some y=>exact absurd (lJ (by simp)) b8
    subst e0;rw[Ug b8,<-ZI,aZ (by rw[show(cE b n).rest=b.drop n from Y];exact aq),vE]
   refine aY.trans (m9 ?_);by_cases b8:r.overBy l=0
   .rw[Uh c0 hw b8 (vB.resolve_left (λz=>z b8))];have aH:(Jv.find? λ(x:aS×Iw we)=>du x.1 (b.drop n))=aa:=y2.mpr λy bl z=>by have:=iE y.1 (by rw[OV r l b8];exact a0L bl);rw[this]at z;cases z
    rw[show(cE b n).rest=b.drop n from Y,aH];dsimp only;rw[OV r l b8];unfold mT;rw[iL];rfl
   have t6:mY r l=[n6 (r.winner ⟨l,aa⟩) (r.overOf ⟨l,aa⟩)]:=by unfold mY mX;rw[aL b8];rfl
   rw[Ug b8,aL (by rw[show(cE b n).rest=b.drop n from Y,iE _ (by rw[t6];simp)];decide),t6];unfold mT;simp;rfl
  refine⟨g,_,_,Y,DQ,Y,g,aB,nl,F,_,_,Y,fo,cb,Y,_,Y,?_⟩;rw[a6K Y];dsimp only;by_cases b8:r.overBy l=0
  .refine eR (by rw[b8];decide) ⟨x,_,_,Y,Au,Y,x,aD,b,n,[101,110],?_,OY,dQ,λc' g0=>⟨_,Y,dQ,_,_,Y,Y,_,Y,?_⟩⟩
   .rw[show("en" :a8)=cm [101,110]from by decide+kernel];rfl
   rw[show("en" :a8).length=2 from by decide+kernel];have Sv:l.length<r.limit:=by
    refine aj4 λz=>?_;unfold EI at b8;dsimp only at b8;split at b8
    .contradiction
    split at b8
    .cases b8
    first|cases b8|(split at b8<;>first|cases b8|lia)|lia
   by_cases lJ:du [101,110] (b.drop n)=a9
   .have a7:=(pC _ _).mp lJ;exact ec (by rw[a7];decide) (ob c' g0 (.inr lJ))
   have bV:cj (b.drop n) [101,110]≠2:=λz=>lJ ((pC _ _).mpr z);have hq:=zc (b.drop n) [101,110];have hq:cj (b.drop n) [101,110]<=2:=hq;refine eR (eL (by show((cj (b.drop n) [101,110]:Nat):Int)<((2:Nat):Int);lia)) ?_;have hf:r.limit+2-l.length=(r.limit+2-(l.length+1))+1:=by lia
   rw[hf]at aY;have xW:=s4.trans g0;have lJ:du [101,110] (b.drop n)=aK:=nT lJ;refine⟨x,aD,b,n,g,aB,nl,F,l.length+1,r,l,Y,OY.same g0,fo.same g0,cb,b8,vS,λc a7=>?_,(by lia),(by lia),Io,λl8 fQ agP t sj yW fr ZJ xX DT t9=>?_,λl8 sj yW dV fQ fr hd=>bJ _ (aY.trans (m9 (a7f (c:=cE b n) c0 hw b8 lJ sj yW))) dV fQ (aw.DO xW mN vT fr) hd,λp sj dV fQ fr hd=>bJ _ (aY.trans (m9 (a7g (c:=cE b n) c0 hw b8 lJ sj))) dV fQ (aw.DO xW mN vT fr) hd⟩
   .obtain z|z|z:=vT c a7
    .exact .inl λq=>f3 fm l5 (by rw[<-z,q])
    .exact .inr z
    exact .inl λq=>by rw[q,fm]at z;cases z
   have eX:=aw.DO xW mN vT fr;have zC:=a7e (c:=cE b n) (f:=r.limit+2-(l.length+1)) c0 hw b8 sj yW;rw[zC,vE]at aY;have agQ:n+((er (b.drop n)).length+1)<=b.length:=by
    have:=g5 ub yW;rw[m_,dh,fX]at this
    lia
   have kl:1<=(er (b.drop n)).length:=by
    have e:r.moveLine (r.after l) l8=er (b.drop n):=by
     unfold EJ at sj;split at sj
     .next m' aQ=>cases sj;simpa using PF aQ
     cases sj
    rw[<-e];exact Ud _ _
   have gZ:(l++[l8]).length=l.length+1:=by simp
   refine⟨⟨Y,l++[l8],n+((er (b.drop n)).length+1),agP,eX,xX,agQ,by rw[gZ];exact DT,Tf.Row.snoc fJ t9,λa7=>?_,λc a7=>?_,by rw[gZ];lia,by rw[gZ];lia,by rw[gZ];exact aY⟩,?_⟩
   .obtain z|z:=ZJ x a7
    .exact vS z
    rw[g0 _ _ Au]at z;cases z
   .obtain z|z:=ZJ c a7
    .exact vT c z
    exact .inr (.inr (xW.free z))
   have aO:l4 H' x=(n:Int):=Ab vQ;have aT:l4 fQ x=((n+((er (b.drop n)).length+1):Nat):Int):=Ab xX;show((b.length:Int)-l4 fQ x).toNat<((b.length:Int)-l4 H' x).toNat;rw[aO,aT]
   lia
  refine ec (λz=>b8 (by have z:=V.int.inj (e7 z);have z:((r.overBy l:Nat):Int)=0:=z;lia)) (gF (ob H' (aw.refl _) (.inl b8)))
 refine NW (λG H Q e9 m h=>?_) (λG H Q e9 m h=>?_) aN H' xD xE v9 h
 .dsimp only[o7,k2,ha,jb,p0,iR,ed]at h ⊢;obtain⟨u,e,g',d',h6,aO,aT,e1,g2,agR,agS,vR,cS,eG,hN,kA,mj,lL,q,pP,h⟩:=nf h;exact o_ e ⟨g',d',h6,aO,aT,e1,g2,agR,agS,vR,cS,eG,hN,kA,mj,lL,q,pP,m _ _ h⟩
 dsimp only[o7,k2,ha,jb,p0,iR,ed]at h ⊢;obtain⟨u,e,eT,d',h6,aO,aT,e1,eG,s2,b2,cS,oZ,hN,kA,mj,h⟩:=nf h;refine o_ e ⟨eT,d',h6,aO,aT,e1,eG,s2,b2,cS,oZ,hN,kA,mj,λH' aE=>?_⟩;obtain⟨z,lL,pP,i,j,rf,xJ,q,Dc,h⟩:=h H' aE;exact⟨z,lL,pP,i,j,rf,xJ,q,Dc,m _ _ h⟩
inductive DU (P:bP) (w:bG) (K:bb) (a6:a8->Iw ae) (base:bq) (k:Nat) (x:a8) (aJ:sl a8) (sp:bN):Prop
 |mk f fd:a6 x=B (.ref f)->zE P w K a6 base k f fd aJ sp->Binds K fd aJ []->nQ K (.ref f)=a9->DU P w K a6 base k x aJ sp
inductive Ip (P:bP) (w:bG) (K:bb) (a6:a8->Iw ae) (base:bq) (k:Nat) (C:I) (m:a8) (aJ:sl a8) (sp:bN):Prop
 |mk f fd:uK K C m f->zE P w K a6 base k f fd aJ sp->Binds K fd aJ []->Ip P w K a6 base k C m aJ sp
abbrev ZK(P:bP)(w:bG)(K:bb)(a6:a8->Iw ae)(base:bq)(N:sl a8)(bX:a8)(st:bD)(k:Nat)(sp:bN):Prop:=
 ∀(f:I)(bU:ae)(A:da)(e0:I)(outer:sl eC)(s:ay)(H:ag)(vs:sl V)(Q:c2)(E:cW),kf k (A.deeper (fH bX (bh st) s⁻¹ f bU))->(xk P w K a6 base N bX (bh st) f bU A outer s H E).A.handled=B (.ref e0)->HeldAt e0 H->sp vs H Q E->∃t,ix (xk P w K a6 base N bX (bh st) f bU A outer s H E) (jR st) t/\t {c8:=λ_ H'=>Q .bR H',iw:=Q} (start N vs) H
section
variable{x m:a8}
def Laid.Iq(L:Laid K a6 x st)(S:b' N aJ (bh st))(a0:ZK P w K a6 base N x st k sp)(d:tJ sp x x st aJ:=by exact{}):DU P w K a6 base (k+1) x aJ sp:=
 let⟨f,fd,hm,F⟩:=L;⟨f,fd,hm,Vi F S d.len λbU A e0 outer s H vs Q E ak bT hd h=>a0 f bU A e0 outer s H vs Q E ak bT hd h,F.binds d.bd,F.dK⟩
def fx.Iq(L:fx K C m bX st)(S:b' N aJ (bh st))(a0:ZK P w K a6 base N bX st k sp)(d:tJ sp m bX st aJ:=by exact{}):Ip P w K a6 base (k+1) C m aJ sp:=
 let⟨f,fd,hm,F⟩:=L;⟨f,fd,hm,Vi F S d.len λbU A e0 outer s H vs Q E ak bT hd h=>a0 f bU A e0 outer s H vs Q E ak bT hd h,F.binds d.bd⟩
variable{e0:I}{p fw:Pos}{o:bO}{c1:bZ}{t:gA}
def ZL(af:DU X.prog X.w X.K X.a6 X.base k x aJ sp)(ak:kf k X.A)(bT:X.A.handled=B (.ref e0))(aI:hJ X x)(bf:hI X (e::b5) t)(gj:kV x:=by decide)(aF:o9 X e b5:=by rfl)(eN:lx X pos b5:=by rfl):
  bS X (.Call (.Name x p) (e::b5) [] pos) (iR (zF e0 sp) [] E t):=let⟨f,fd,hm,F,a0,aA⟩:=af;a99 F ak bT aI hm aA a0 bf gj aF eN
def agT{pl:hX Bool}(af:Ip X.prog X.w X.K X.a6 X.base k C m aJ sp)(aF:bS X o c1)(c:iA X.K C)(ak:kf k X.A)(bT:X.A.handled=B (.ref e0))(bf:hI X (e::b5) t)(fA:fI (e::b5) X.env=(aK,eval e X.env)::fI b5 X.env:=by rfl)(eN:lx X pos b5:=by rfl)(b9:eval (.Call (.Attribute o m fw) (e::b5) [] pos) X.env=(do
   let fP <-eval o X.env
   ur fw.atName
   let(f,first) <-rB [fP] (w9 fP m pl)
   ym pos f first (lS pos (fI (e::b5) X.env)) (uj pos (um [] X.env))):=by rfl):
  bS X (.Call (.Attribute o m fw) (e::b5) [] pos) (jb C m (zF e0 sp) [] E c1 t):=let⟨f,fd,hm,F,a0⟩:=af;a9a aF c hm F ak bT a0 bf fA eN b9
end
def agU{e0 a b:I}{ys:sl V}{g:h7}{cf:ez}{af:Ends}(Pv:Nat->L2.St->ag->Prop)(b8:Pv 0 G H)(ar:∀i G H,Pv i G H->(bo K H a xs/\bo K H b ys)/\HeldAt e0 H)(ax:∀i x y G H,xs[i]? =B x->ys[i]? =B y->Pv i G H->∀T,H T=aa->g (.ref T) G (av H T (.tup [x,y])) λcQ au=>cf {af with c8:=Pv (i+1),dX:=Pv (i+1),gK:=af.c8} cQ au)(hd:∀i G H,i<=xs.length->i<=ys.length->(i=xs.length∨i=ys.length)->Pv i G H->af.c8 G H):∃W:Nat->Nat->L2.St->ag->Prop,(∃m,W 0 m G H)/\∀i m G H,W i m G H->((tF e0 (ti K a b)).stop i H/\af.c8 G H)∨((tF e0 (ti K a b)).go i H/\∃N:L2.St->ag->Prop,(∀aN H',N aN H'->∃m',m'<m/\W (i+1) m' aN H')/\∀x H',(tF e0 (ti K a b)).j' i H x H'->g x G H' λcQ au=>cf {af with c8:=N,dX:=N,gK:=af.c8} cQ au):=by
 refine⟨λi m G H=>m=xs.length-i/\i<=xs.length/\i<=ys.length/\Pv i G H,⟨xs.length,by simp,es _,es _,b8⟩,?_⟩;rintro i m G H ⟨rfl,hi,vh,p⟩;obtain⟨⟨q,cy⟩,h⟩:=ar i G H p;by_cases c:i<xs.length/\i<ys.length
 .refine .inr ⟨⟨xs,ys,xs[i],ys[i],q,cy,ff c.1,ff c.2⟩,Pv (i+1),λaN H' fS=>⟨_,by lia,Y,c.1,c.2,fS⟩,λv H' bl=>?_⟩;obtain⟨T,x,y,rfl,dq,rfl,ah,bl⟩:=bl;exact ax i x y G H (ah xs q) (bl ys cy) p T dq
 exact .inl ⟨⟨⟨xs,ys,q,cy,by lia⟩,h⟩,hd i G H hi vh (by lia) p⟩
def agV{e0:I}{x:a8}{g:h7}{tt:TT}{b_:bZ}{vs:sl Nat}{af:I}{Qd:ag->Prop}(Pv:Nat->ag->Prop)(b8:Pv 0 (av ai af (.lst [])))(ax:∀i c H,x.cps[i]? =B c->Pv i H->g (.str ⟨#[c]⟩) (eZ G vs) H λcQ au=>eZ cQ vs=eZ G vs/\tt cQ au λb bc=>if b=a9 then b_ cQ bc λy cU=>∃bK,cU af=B (.lst bK)/\bK.length<cN/\Pv (i+1) (av cU af (.lst (bK++[y])))else Pv (i+1) bc)(hd:∀H,Pv x.cps.size H->HeldAt e0 H/\Qd H):∃W:Nat->Nat->ag->Prop,(∃m,W 0 m (av ai af (.lst [])))/\∀i m H,W i m H->((tF e0 (pj x)).stop i H/\Qd H)∨((tF e0 (pj x)).go i H/\∃ie:ag->Prop,(∀H',ie H'->∃m',m'<m/\W (i+1) m' H')/\∀v H',(tF e0 (pj x)).j' i H v H'->g v (eZ G vs) H' λcQ au=>eZ cQ vs=eZ G vs/\tt cQ au λb bc=>if b=a9 then b_ cQ bc λy cU=>∃bK,cU af=B (.lst bK)/\bK.length<cN/\ie (av cU af (.lst (bK++[y])))else ie bc):=by obtain⟨W,iy,ax⟩:=UX (Qd:=λH=>HeldAt e0 H/\Qd H) Pv b8 ax hd;exact⟨W,iy,λi m H' z=>(ax i m H' z).imp (λ⟨p,q,r⟩=>⟨⟨p,q⟩,r⟩) id⟩
def agW:bN:=λvs H Q E=>∃w,jE (vs=[.str (cm w)]) ((cm w).cps.all (·<128)=a9) (w.length<=100000) (∀l H',H l=aa->aw H H'->H' l=B (.lst (cA w))->Q (.ref l) H')
def ZM(a:b4):bN:=λvs H Q _=>kJ λx aD b n w=>mQ (vs=[.ref x,.str (cm w)]) ((cm w).cps.all (·<128)=a9) (fg a H x aD b n) (w.length<=1000) (∀H',aw H H'->Q (.int ((cj (b.drop n) w:Nat):Int)) H')
def agX(T:Txt K a6 a):DU P w K a6 base 1 "bytes_of" ["signs"] agW:=by
 refine T.Xk.Iq zP (λf _ A _ _ s H _ Q E _ bT hd h=>?_);obtain⟨wd,rfl,O',_,k⟩:=h;refine⟨_,aX (bF (a90 bT zP.bj (a98 (J 0)) (og (own:=[("sign",1)]) Y) (λ_ _ _ _ _=>h8 (i:=1) zP.bj) (λ_ _ _ _ _=>qN) (λ_ _ _ _ _=>fj sY Y T.tO w0 (ao (J 1) az)))),cm wd,Y,O',λaf d3=>agV (x:=cm wd) (λj H'=>aw H H'/\H' af=B (.lst (cA (wd.take j)))) ⟨aw.new d3,b3⟩ (λj c H' bY aR=>?_) λH' aR=>?_⟩
 .obtain⟨aE,gU⟩:=aR;obtain⟨y,bl,rfl⟩:=XM bY;refine⟨Y,_,Y,Y,_,gU,?_,λb o z=>?_,?_⟩
  .rw[iI,ko];exact A8 (by lia)
  .rw[aM (cV z d3)];exact aE _ _ z
  rw[b3,take_snoc bl,vA];rfl
 obtain⟨aE,gU⟩:=aR;rw[XK,jl]at gU;exact⟨hd.mono aE,k af H' d3 aE gU⟩
def agY(T:Txt K a6 a):DU P w K a6 base 1 "agreed" ["source","place","row"] XN:=by
 refine T.Xl.Iq sg (λf _ A e0 _ s H _ Q E _ bT hd h=>?_);obtain⟨p,b,n,wp,wd,rfl,aq,qk,k⟩:=h;refine⟨_,aC (cz (i:=3) sg.bj cg) (aC (a8Y oQ bT (a95 Y T.Xp (ao (t5 uN (J 0) (nq (J 1)) (nq (de o3 (J 1) (fj jc Y T.i3 iu (ao (J 2) az))))) (ao (J 2) az))) (a92 bT (yK (h8 (i:=4) sg.bj) (yK (h8 (i:=5) sg.bj) JQ))) (aC (d4 (d1 o6 (J 4) (J 5) (cu _)) (aX (bF (J 3))) d9) (aX (wq (i:=3) sg.bj Y (v' Y) cg F7)))) (aX (bF (J 3)))),_,Y,wp,_,Y,.inl (bo.of qk),?_⟩;rw[iI];refine⟨_,_,Y,Y,_,Y,p,_,Y,bo.of aq,λl ar=>⟨l,wp,cA ((b.drop n).take wd.length),cA wd,Y,bo.of ?_,bo.of ?_,agU (e0:=e0) (xs:=cA ((b.drop n).take wd.length)) (ys:=cA wd) (λi aN H'=>∃gc fE,aN=[B (.ref p),B (.int (n:Int)),B (.ref wp),B (.int ((i:Nat):Int)),gc,fE]/\aw H H'/\H' l=B (.lst (cA ((b.drop n).take wd.length)))/\(b.drop n).take i=wd.take i/\i<=(b.drop n).length/\i<=wd.length) ⟨aa,aa,Y,aw.new ar,?_,Y,es _,es _⟩ (λi aN H' bI=>?_) (λi x c aN H' hi a7 bI N dF=>?_) λi aN H' _ _ vB bI=>?_⟩⟩
 .rw[b3,A7]
 .rw[aM (cV qk ar)];exact qk
 .rw[b3,A7]
 .obtain⟨gc,fE,rfl,aE,O,_⟩:=bI;exact⟨⟨bo.of O,bo.of (aE _ _ qk)⟩,hd.mono aE⟩
 .obtain⟨gc,fE,rfl,aE,O,b9,gu,hp⟩:=bI;obtain⟨eT,k9,rfl⟩:=HF hi;obtain⟨y,bl,rfl⟩:=HF a7;have a0:(b.drop n)[i]? =B eT:=by
   rw[aiO]at k9;split at k9
   .exact k9
   cases k9
  refine⟨hd.mono (aw.upd aE dF),N,_,Y,dt.of b3,Y,_,_,Y,_,_,Y,Y,Y,_,Y,?_⟩;have eQ:aw H (av H' N (.tup [.int (eT.toNat:Int),.int (y.toNat:Int)])):=aw.upd aE dF;by_cases e:eT=y
  .subst e;refine ec (by simp) ?_;refine⟨_,_,Y,Y,B (.int (eT.toNat:Int)),B (.int (eT.toNat:Int)),?_,eQ,?_,Tz b9 a0 bl,?_,?_⟩
   .rfl
   .rw[aM (cV O dF)];exact O
   .exact(ei.mp a0).1
   exact(ei.mp bl).1
  refine eR ?_ ?_
  .have:¬V.int (eT.toNat:Int)=V.int (y.toNat:Int):=λz=>e (by have z:=V.int.inj z;exact a26.mp (by lia));show(!decide (V.int (eT.toNat:Int)=V.int (y.toNat:Int)))=a9;rw[gW this];rfl
  have c9:=k _ eQ;rw[G5 gu hp b9 (λu v bx bk=>by rw[a0]at bx;rw[bl]at bk;cases bx;cases bk;exact e)]at c9;exact c9
 obtain⟨gc,fE,rfl,aE,O,b9,gu,hp⟩:=bI;have c9:=k _ aE;rw[G5 gu hp b9 (λu v bx bk=>by
  rw[iI,ko]at vB;rw[iI]at vB;have:=(ei.mp bx).1;have:=(ei.mp bk).1
  lia)]at c9
 exact c9
def agZ(T:Txt K a6 a):Ip P w K a6 base 2 a.Reader "agreed_with" ["self","word"] (ZM a):=by refine T.Xm.Iq X0 (λf _ A _ _ s H _ Q E ak bT hd h=>?_);obtain⟨x,aD,b,n,wd,rfl,O',⟨⟨_,ah⟩,fm,_⟩,_,k⟩:=h;refine⟨_,aX (bF (ZL (E:=E) (agY T) ak bT Y (ao (bg (J 0) Y) (ao (bg (J 0) Y) (ao (ZL (E:=E) (agX T) ak bT Y (ao (J 1) az)) az))))),x,_,_,_,_,Y,ah,T.cO.1,T.r8,Y,x,_,_,_,_,Y,ah,T.cO.1,T.jF,Y,hd,wd,Y,O',(by lia),λl _ _ s1 gu=>?_⟩;exact⟨hd.mono s1,aD,b,n,l,wd,Y,s1 _ _ fm,gu,λau s2=>k au (s1.trans s2)⟩
def ah0(T:Txt K a6 a):DB P w K a6 base 1 a.mg ["place"] ["self","place"] (xF a.mg "place"):=by have L:=T.r7;obtain⟨_,_,ee,_⟩:=id L;refine L.YE W' (λf _ A _ s H _ Q E h=>?_);obtain⟨x,u,rfl,ah,k⟩:=h;exact⟨_,aX (Cc (J 0) (J 1) Y),x,_,_,_,Y,ee,by simp,.inl ⟨ah,λa3 fL bV=>k a3 fL bV⟩⟩
def ah1{u t:Nat}{x:a8}{p:Pos}{c1:gA}(af:dH X.prog X.w X.K X.a6 X.base (mb t X.prog X.w) k x aJ sp)(ak:dp k X.A)(aI:hJ X x)(c:zD u X G E)(bx:t<=u)(bf:hI X (e::b5) c1)(gj:kV x:=by decide)(aF:o9 X e b5:=by rfl)(eN:lx X pos b5:=by rfl):
  GV X G (.Call (.Name x p) (e::b5) [] pos) (iR sp [] E c1):=let⟨f,fd,hm,F,a0,aA⟩:=af;a8J F ak aI hm aA a0 c bx bf gj aF eN
def ah2{gH e0 qe gI:I}{f:a8}{u:V}{pF:cW}(ee:kc K C gH cT)(b8:H e0=B (dW e0 qe (B gI) 1))(h:∀a3 H',aw H H'->H' a3=B (gs a3 [(f,u)])->E (.ref C) (B a3) H'):∀a,H a=aa->xF C f [.ref a,u] (av H a (dW a C aa 0)) (λw au=>w=.bR/\GJ K e0 E (.ref a) au) pF:=λa bf=>⟨a,u,Y,b3,λa3 fL bV=>by
  have vC:H a3=aa:=by rw[aM bV]at fL;exact fL
  have O:e0≠a:=cV b8 bf;have a5:e0≠a3:=cV b8 vC;refine⟨Y,a,C,a3,gH,cT,qe,gI,Y,b3,ee,by rw[aM O,aM a5,aM O];exact b8,O,h a3 _ (λc o q=>?_) (by rw[aM bV,aM bV,b3])⟩;have O:c≠a:=cV q bf;rw[aM O,aM O,aM (cV q vC),aM O];exact q⟩
def ah3(T:Txt K a6 a):dH P w K a6 base (mb 2 P w) 10 "read_move" ["reader","game"] (OS a):=by
 refine T.ab8.kI N1 ?_;rintro f bU A _ s H _ _ E _ ak ⟨x,aD,b,n,g,aB,nl,F,k,r,l,rfl,eu,fo,cb,b8,vS,alG,vP,k5,Io,cK,bJ,eh⟩;have O:dp 1 (A.deeper (fH "read_move" (bh zL) s⁻¹ f bU)):=ak.mono;have aG:dp 3 (A.deeper (fH "read_move" (bh zL) s⁻¹ f bU)):=ak.mono;have cJ:dp 4 (A.deeper (fH "read_move" (bh zL) s⁻¹ f bU)):=ak.mono;have a5:kf 2 (A.deeper (fH "read_move" (bh zL) s⁻¹ f bU)):=dp.Ck ak.mono;obtain⟨_,_,xO,_⟩:=id T.r7;obtain⟨_,_,XL,_⟩:=id T.Hc;refine⟨_,aC (cz (i:=2) N1.bj (gb (adA T) (J 0) T.cO.1 O bu)) (aC (a8M (i:=4) (j:=3) (t:=1) (u:=2) (E1:=λcls i_ H'=>∃d,∃p:Nat,cls=.ref a.vp/\i_=B d/\r.readMove (r.after l) (er (b.drop n))=.error p/\aw H H'/\H' d=B (gs d [("place",.int (p:Int))])) (E2:=E) (b_:=iR (OA a) [] (λcls i_ H'=>∃d,∃p:Nat,cls=.ref a.vp/\i_=B d/\r.readMove (r.after l) (er (b.drop n))=.error p/\aw H H'/\H' d=B (gs d [("place",.int (p:Int))])) (ed (ha K (dc 1) "rules") (ed (jb a.Game "last_position" (I7 a) [] E (dc 1) gi) (ed (dc 2) gi)))) (tn:=λe=>Mu K e (x7 a.mg (xF a.mg "place") E (ed (k2 (lZ λi j=>.int (i+j)) (ha K (dc 0) "place") (Bp (Vg e) (ed (x9 K (dc 4) "place") (ed (jb a.Reader "agreed_with" (zF e (ZM a)) [] E (dc 0) (ed (iP (.str "en")) gi)) gi)))) gi)) E) Y Y N1.bj Y Y Y Y Y T.Nw XL (λG c_ bL c=>ah1 (YT T) ak Y c (cP _) (ao (bg (J 1) Y) (ao (gb (I8 T) (J 1) T.dn.1 ak.mono bu) (ao (J 2) az)))) d_ (λe c_ bL c=>aX (UL (e0:=e) (Ol (ah0 T) ⟨a5.eF,a5.un⟩ Y T.tM (ao (de o3 (bg (J 0) Y) (fj (a93 Y) Y T.NA a15 (ao (zv (J 4) Y) (ao (agT (agZ T) (J 0) T.cO.1 ⟨a5.eF,a5.un⟩ Y (ao (e' T.Nk Y) az)) az)))) az)) Y c))) (aC (ea (dR (NT T) (J 0) T.cO.1 aG d_.passes (ao (J 2) az))) (aC (ea (dR (jJ T) (J 0) T.cO.1 cJ d_.passes (ao ek az))) (aX (ea (dR (Za T) (J 1) T.dn.1 ak bu (ao (dZ m2 (J 3) cg (λ_ _=>rfl)) (ao (dZ m2 (J 3) cg (λ_ _=>rfl)) az)))))))),?_⟩;obtain⟨_,ah⟩:=id eu.1;obtain⟨aV,bz,bC,a',c7,_,fa,aW,aj,_,fk⟩:=id fo;have hw:=cb.fJ.wf cb.el.g.c0 (nM cb.el);have km:∀c∈F,c∉[x]:=λc a7 z=>vS (by rw[<-jY.mp z];exact a7);have P0:aB≠x:=λz=>vS (z ▸ fk aB (iK.mpr (.inr (.inl Y))));have P1:nl≠x:=λz=>vS (z ▸ fk nl (iK.mpr (by simp)));refine⟨x,_,_,Y,ah,Y,x,aD,b,n,Y,eu,λZN ai _ _ s1 gu aA DF LH=>?_⟩;obtain⟨gZ,NO⟩:=a7b DF LH aA;rw[gZ]at gu;have dN:=(aj.keep (H':=ai) λc _ o q=>s1 c o q).ck;have DR:=eu.same s1;refine⟨⟨g,_,_,_,_,Y,dN.obj,T.dn.1,T.pL,Y,g,_,_,Y,dN.obj,Y,g,aB,nl,aV,bz,bC,a',c7,fa,_,r,l,aW,Y,dN,λcZ ah6=>⟨aB,r,_,cZ,ZN,_,Y,dN.kK.at,ah6,cb.el.g,hw,M9 b8,gu,λm t au hm s2 b9=>?_,λp aq d au s2 hd=>⟨d,p,Y,Y,aq,s1.trans s2,hd⟩⟩⟩,λcls i_ au ⟨d,p,aO,aT,aq,aE,hd⟩=>⟨aO,λe _ m aU aF hm=>?_⟩⟩
 .have ZO:m∈r.moves (r.after l):=by
   unfold EJ at hm;split at hm
   .next m' aQ=>cases hm;exact Eb aQ
   cases hm
  have pQ:=s1.trans s2;have sz:=eu.same pQ;obtain⟨_,hF⟩:=id sz.1;have ZG:=fo.same pQ;have hq:=eu.2.2;refine⟨x,_,_,Y,hF,Y,x,aD,b,n,ZN,_,Y,sz,s2 _ _ gu,λ_ bc oK ZP=>?_,λz=>?_⟩
  .obtain⟨_,ah7⟩:=id ZP;have ah8:bc aD=B (.lst (cA b)):=oK _ _ (vD sz.1 sz.2.1) sz.2.1;have eY:n+(er (b.drop n)).length<=b.length:=by rw[<-NO];rw[m_]at aA;lia
   have ah9:b.drop (n+(er (b.drop n)).length)=(b.drop n).drop (er (b.drop n)).length:=(E6 ..).symm;have xN:b.drop n=er (b.drop n)->b.drop (n+(er (b.drop n)).length)=[]:=λz=>by
    rw[aiH];have:=g5 ub z;rw[m_]at this
    lia
   have lN:∀L dY:aS,b.drop n=L++10::dY->(b.drop n).drop L.length=10::dY:=λL dY z=>by rw[z,PD]
   refine⟨x,_,_,Y,ah7,Y,x,aD,b,_,[10],?_,⟨ZP,ah8,eY⟩,dQ,λv8 cU mw vQ=>?_,λv8 vy cU mw zm=>?_⟩
   .rw[show("\n" :a8)=cm [10]from by decide+kernel];rfl
   .obtain z|⟨dY,z⟩:=Gs (b.drop n)
    .rw[xN z]at v8;exact absurd v8 dQ
    have c5:df x H cU:=((df.of pQ).trans oK).trans mw;have DP:fV a cU g aB nl F k ⟨r,⟨l,aa⟩⟩:=fo.frame (S:=[x]) (λc u n q=>c5 c u (λz=>n (by simp[z])) q) km;obtain⟨_,_,_,_,_,DQ⟩:=DP.obj;have wQ:t≠x:=λq=>by rw[q,hF]at b9;cases b9
    have Ap:cU t=B (.tup [.int ((m.1:Nat):Int),.int ((m.2:Nat):Int)]):=mw _ _ wQ (oK _ _ wQ b9);refine⟨g,_,_,Y,DQ,Y,t,_,_,_,Y,Y,dt.of Ap,Y,t,_,_,_,Y,Y,dt.of Ap,Y,g,aB,nl,F,k,⟨r,⟨l,aa⟩⟩,m.1,m.2,Y,DP,cb,Y,ZO,vP,k5,λc' P2 fr aha OU=>?_⟩;refine cK m c' P2 dY hm z ((l7.DN c5 P0 P1).trans (l7.ofM fr)) (λc a7=>?_) ?_ OU ZO
    .obtain q|q:=aha c a7
     .exact .inl q
     refine .inr ?_;cases iU:H c with
     |none=>rfl
     |some u=>
      by_cases e4:c=x
      .obtain⟨vy,Au⟩:=vQ;rw[e4,Au]at q;cases q
      rw[c5 c u e4 iU]at q;cases q
    obtain⟨vy,Au⟩:=vQ;exact⟨vy,fr.fr.cI _ _ vS Au⟩
   obtain z|⟨dY,z⟩:=Gs (b.drop n)
   .rw[xN z]at zm;exact bJ m hm z vy cU (l7.DN (((df.of pQ).trans oK).trans mw) P0 P1) zm
   rw[ah9.trans (lN _ _ z)]at v8;exact absurd v8 (by simp[du])
  exfalso;have:du (er (b.drop n)) (b.drop n)=a9:=by
   rw[s7];obtain z|⟨dY,z⟩:=Gs (b.drop n)
   .exact⟨[],by rw[<-z];simp⟩
   exact⟨_,z⟩
  rw[this]at z;cases z
 rw[aT]at aU;cases aU;have oI:m=1:=by lia
 subst oI;have ZQ:=eu.same aE;obtain⟨_,ZR⟩:=id ZQ.1;have kX:HeldAt e au:=⟨_,_,1,cP _,aF⟩;refine⟨x,_,_,_,_,Y,ZR,T.cO.1,T.jF,Y,e,_,_,_,d,_,_,_,Y,XL,by simp,aF,hd,A9 aF hd,Y,x,_,_,Y,ZR,Y,kX,x,aD,b,n,[101,110],?_,dQ,ZQ,dQ,λbc bE=>⟨kX.mono bE,_,_,Y,_,_,Y,Y,gd,ah2 xO (bE _ _ aF) λZS c' g0 ahb=>?_⟩⟩
 .rw[show("en" :a8)=cm [101,110]from by decide+kernel];rfl
 have q:=eh p aq ZS c' (l7.DN (df.of ((aE.trans bE).trans g0)) P0 P1);refine q (ahb.trans ?_);have iS:((n:Int)+(if((cj (b.drop n) [101,110]:Nat):Int)>(p:Int)then((cj (b.drop n) [101,110]:Nat):Int)else(p:Int)))=((n+max p (cj (b.drop n) [101,110]):Nat):Int):=by split<;>lia
 show B (gs ZS [("place",V.int ((n:Int)+(if((cj (b.drop n) [101,110]:Nat):Int)>(p:Int)then((cj (b.drop n) [101,110]:Nat):Int)else(p:Int))))])=_;rw[iS]
def cb(l:sl Int):sl V:=l.map V.int
def xY(l:sl Int):(cb l).length=l.length:=by unfold cb;rw[cX]
def xZ(cl:I)(n:Nat):sl (a8×V):=[("calls",.ref cl),("place",.int (n:Int))]
def u7(a:b4)(H:ag)(f cl:I)(n:Nat):Prop:=∃a3,H f=B (.ins a.i' a3 (xZ cl n))
def ahc(a:b4):bN:=λvs H Q _=>qf λf a3 cl=>il (vs=[.ref f,.ref cl]) (H f=B (.ins a.i' a3 [])) (Q .bR (av H f (.ins a.i' a3 (xZ cl 0))))
def ahd(K:bb)(a:b4):bN:=λvs H Q _=>kg λf cl n l=>jE (vs=[.ref f]) (u7 a H f cl n) (bo K H cl (cb l)) (Q (.c3 (decide (n<l.length))) H)
def ZT(K:bb)(a:b4):bN:=λvs H Q _=>kJ λf cl n l z=>mQ (vs=[.ref f]) (u7 a H f cl n) (bo K H cl (cb l)) (l[n]? =B z) (∀H',df f H H'->u7 a H' f cl (n+1)->Q (.int z) H')
def ZU(K:bb)(a:b4):bN:=λvs H Q _=>kJ λf cl n l (k:Nat)=>qg (vs=[.ref f]) (u7 a H f cl n) (bo K H cl (cb l)) (l[n]? =B (k:Int)) (n+1+k<=l.length) (∀q H',H q=aa->df f H H'->u7 a H' f cl (n+1+k)->H' q=B (.lst (cb ((l.drop (n+1)).take k)))->Q (.ref q) H')
def ahe{l:sl Int}(h:n+k<=l.length):m1 (cb l) (B ((n:Nat):Int)) (B (((n:Nat):Int)+((k:Nat):Int)))=cb ((l.drop n).take k):=by unfold m1;rw[show(((n:Nat):Int)+((k:Nat):Int))=((n+k:Nat):Int) by lia,HT.uM,HT.uM,xY,y7 h,y7 (show n<=l.length by lia),a0S];unfold cb;rw[aiR,IT]
def P4{cl:I}(ah:H x=B (.ins C d fs))(s:df x H H')(h:bo K H cl xs):bo K H' cl xs:=by
 obtain(h|⟨o,h⟩)|h:=h
 .exact .inl (.inl (s _ _ (λz=>by rw[z,ah]at h;cases h) h))
 .exact .inl (.inr ⟨o,s _ _ (λz=>by rw[z,ah]at h;cases h) h⟩)
 exact .inr h
def ahf(T:Txt K a6 a):ox P w K a6 base cp 1 a.i' ["self","calls"] (ahc a):=by refine T.abN.ok a9U ?_;rintro _ _ _ _ _ _ _ _ _ _ _ ⟨x,a3,cl,rfl,ah,k⟩;refine⟨_,aC (e2 (J 0) (J 1) Y) (aX (e2 (J 0) cg Y)),x,_,_,_,Y,ah,T.mh.1,T.Hn,dQ,x,_,_,_,Y,b3,T.mh.1,T.xx,qE,?_⟩;rw[j5];exact k
def ahg(T:Txt K a6 a):fT P w K a6 base cp 1 a.i' "has_more" ["self"] (ahd K a):=by
 refine T.abO.ok a9V ?_;rintro _ _ _ _ _ _ _ _ _ _ _ ⟨x,cl,n,l,rfl,⟨a3,ah⟩,ar,k⟩;refine⟨_,aX (bF (gM pa (bg (J 0) Y) (fj jc Y T.i3 iu (ao (bg (J 0) Y) az)) (cu _))),x,_,_,_,_,Y,ah,T.mh.1,T.xx,Y,x,_,_,_,_,Y,ah,T.mh.1,T.Hn,Y,cl,_,Y,.inl ar,_,_,Y,Y,?_⟩;rw[xY];have e:decide (((n:Nat):Int)<((l.length:Nat):Int))=decide (n<l.length):=by rw[hT,mE,mE];lia
 rw[<-e]at k;exact k
def P5(T:Txt K a6 a):fT P w K a6 base cp 1 a.i' "number" ["self"] (ZT K a):=by refine T.abP.ok X6 ?_;rintro _ _ _ _ _ H _ _ _ _ _ ⟨x,cl,n,l,z,rfl,⟨a3,ah⟩,ar,aR,k⟩;refine⟨_,aC (cz (i:=1) X6.bj (dZ hL (bg (J 0) Y) (bg (J 0) Y) (λ_ _=>rfl))) (aC (yR (J 0) cg yS) (aX (bF (J 1)))),?_⟩;have ke:ho (cb l) (n:Int)=B (.int z):=gw (by unfold cb;rw[fW,aR];rfl);refine⟨x,_,_,_,_,Y,ah,T.mh.1,T.Hn,Y,x,_,_,_,_,Y,ah,T.mh.1,T.xx,Y,cl,_,_,_,Y,Y,ar,ke,x,_,_,_,_,Y,ah,T.mh.1,T.xx,Y,_,_,Y,Y,a3,_,ah,sO,?_⟩;exact k _ (df.upd (df.of (aw.refl H))) ⟨a3,by rw[b3];rfl⟩
def ahh(T:Txt K a6 a):fT P w K a6 base cp 2 a.i' "row" ["self"] (ZU K a):=by
 refine T.abQ.ok N9 ?_;rintro _ _ _ _ _ H _ _ _ _ ak ⟨x,cl,n,l,k0,rfl,mN,ar,aR,hq,k⟩;refine⟨_,aC (cz (i:=1) N9.bj (gb (P5 T) (J 0) T.mh.1 ak bu)) (aC (cz (i:=2) N9.bj (bg (J 0) Y)) (aC (yR (J 0) (J 1) yS) (aX (bF (t5 uN (bg (J 0) Y) (nq (J 2)) (nq (bg (J 0) Y))))))),?_⟩;obtain⟨_,ah⟩:=id mN;refine⟨x,_,_,Y,ah,Y,x,cl,n,l,_,Y,mN,ar,aR,λai Ir ⟨a3,ma⟩=>?_⟩;refine⟨x,_,_,_,_,Y,ma,T.mh.1,T.xx,Y,x,_,_,_,_,Y,ma,T.mh.1,T.xx,Y,_,_,Y,Y,a3,_,ma,sO,?_⟩;rw[show gN ("place" :a8) (V.int (((n+1:Nat):Int)+((k0:Nat):Int))) (xZ cl (n+1))=([("calls",.ref cl),("place",.int (((n+1:Nat):Int)+((k0:Nat):Int)))]:sl (a8×V))from Y];have sq:df x H (av ai x (.ins a.i' a3 [("calls",.ref cl),("place",.int (((n+1:Nat):Int)+((k0:Nat):Int)))])):=df.upd Ir;have hF:(av ai x (.ins a.i' a3 [("calls",.ref cl),("place",.int (((n+1:Nat):Int)+((k0:Nat):Int)))])) x=B (.ins a.i' a3 [("calls",.ref cl),("place",.int (((n+1:Nat):Int)+((k0:Nat):Int)))]):=b3;generalize av ai x (.ins a.i' a3 [("calls",.ref cl),("place",.int (((n+1:Nat):Int)+((k0:Nat):Int)))])=au at sq hF ⊢;refine⟨x,_,_,_,_,Y,hF,T.mh.1,T.Hn,Y,_,Y,x,_,_,_,_,Y,hF,T.mh.1,T.xx,Y,_,Y,cl,_,Y,P4 ah sq ar,λq aQ=>?_⟩;have D9:q≠x:=λz=>by rw[z,hF]at aQ;cases aQ
 have NY:H q=aa:=by cases e:H q with|none=>rfl|some u=>have:=sq _ _ D9 e;rw[aQ]at this;cases this
 refine k q _ NY (df.XT sq aQ) ⟨a3,?_⟩ ?_
 .rw[aM (ej D9),hF];unfold xZ;rw[show(((n+1:Nat):Int)+((k0:Nat):Int))=((n+1+k0:Nat):Int) by lia]
 rw[b3,ahe hq]
def It(a:b4)(H:ag)(F:sl I)(n:Nat)(v:V):jn->Prop
 |none=>v=.bR
 |some x=>∃g aB nl,v=.ref g/\fV a H g aB nl F n x/\Tf.Inv x/\x.rules.name.length<=16/\x.game.moves.length+50<=n
inductive h1 (a:b4) (H:ag) (d:I) (F:sl I) (n:Nat) (s:jn):Prop
 |mk a3 v:H d=B (.ins a.fc a3 [("game",v)])->d∉F->It a H F n v s->h1 a H d F n s
def h2(a:b4)(H:ag)(d:I)(F:sl I)(n:Nat)(s:jn)(sA:oS)(Q:c2):Prop:=∀l H' hS,Fr (d::F) H H'->H l=aa->(∀c∈hS,c∈F∨H c=aa)->h1 a H' d hS (n+1) s->H' l=B (.lst (cb sA.nums))->Q (.ref l) H'
variable{s:jn}
section
variable{x:jZ}
def It.same{v:V}(h:It a H F n v s)(e:aw H H')(l:n<=m):It a H' F m v s:=by cases s with|none=>exact h|some x=>obtain⟨g,aB,nl,O,a5,aG,cJ,f7⟩:=h;exact⟨g,aB,nl,O,(a5.same e).less l,aG,cJ,dE f7 l⟩
def h1.same(h:h1 a H d F n s)(e:aw H H')(l:n<=m):h1 a H' d F m s:=let⟨a3,v,O,a5,aG⟩:=h;⟨a3,v,e _ _ O,a5,aG.same e l⟩
def h1.game(h:h1 a H d F n (B x)):∃a3 g aB nl,H d=B (.ins a.fc a3 [("game",.ref g)])/\d∉F/\fV a H g aB nl F n x/\Tf.Inv x/\x.rules.name.length<=16/\x.game.moves.length+50<=n:=by obtain⟨a3,v,O,a5,g,aB,nl,rfl,aG,cJ,f7,iV⟩:=h;exact⟨a3,g,aB,nl,O,a5,aG,cJ,f7,iV⟩
def h1.to{hS:sl I}{y:jZ}(O:H d=B (.ins a.fc a3 [("game",.ref g)]))(a5:d∉F)(fr:Fr F H H')(hf:∀c∈hS,c∈F∨H c=aa)(aj:fV a H' g aB nl hS m y)(cb:Tf.Inv y)(aH:y.rules.name.length<=16)(bk:y.game.moves.length+50<=m):h1 a H' d hS m (B y):=by
 refine⟨a3,.ref g,fr.cI _ _ a5 O,λz=>?_,g,aB,nl,Y,aj,cb,aH,bk⟩;obtain h|h:=hf d z
 .exact a5 h
 rw[O]at h;cases h
end
def ahi(l:sl Nat):cb (a25 l)=dD l:=by unfold cb a25 dD;rw[iL];rfl
def h2.after{sA:oS}(af:h2 a H d F n s sA Q)(aE:aw H ai):h2 a ai d F n s sA Q:=λl H' hS fr ar hf dg aF=>af l H' hS ((Fr.of aE).trans fr) (aE.free ar) (λc a7=>(hf c a7).imp id λz=>aE.free z) dg aF
def h2.keep{sA:oS}{l:I}(af:h2 a H d F n s sA Q)(dg:h1 a H d F n s)(aE:aw H ai)(ar:H l=aa)(aF:ai l=B (.lst (cb sA.nums))):Q (.ref l) ai:=
 af l _ F (Fr.of aE) ar (λc a7=>.inl a7) (dg.same aE (sH _)) aF
def h2.refuse{z:Int}{l:I}(af:h2 a H d F n s (hy z) Q)(dg:h1 a H d F n s)(aE:aw H ai)(ar:ai l=aa):Q (.ref l) (av ai l (.lst [.int z])):=
 af.keep dg (aw.upd aE ar) (aE.free ar) b3
def h2.game{ahj ahk:I}{hS:sl I}{y:jZ}{sA:oS}{l:I}(af:h2 a H d F n (B y) sA Q)(O:H d=B (.ins a.fc a3 [("game",.ref g)]))(a5:d∉F)(fr:mu aB nl F H ai)(hf:∀c∈hS,c∈F∨H c=aa)(aj:fV a ai g ahj ahk hS (n+1) y)(cb:Tf.Inv y)(aH:y.rules.name.length<=16)(bk:y.game.moves.length+50<=n+1)(s2:aw ai au)(ar:ai l=aa)(aF:au l=B (.lst (Hg.cb sA.nums))):Q (.ref l) au:=
 af l _ hS ((fr.fr.more λc a7=>eH _ a7).trans (Fr.of s2)) (fr.fr.hR _ ar) hf ((h1.to O a5 fr.fr hf aj cb aH bk).same s2 (cP _)) aF
def ZV:bN:=λvs H Q _=>sf λt xs=>jE (vs=[.ref t]) (H t=B (.lst xs)) (xs.length<=100000) (∀l H',H l=aa->aw H H'->H' l=B (.lst (.int 0::.int ((xs.length:Nat):Int)::xs))->Q (.ref l) H')
def ahl(a:b4):bN:=λvs H Q _=>kJ λd F n x (h:Nat)=>il (vs=[.ref d,.int (h:Int)]) (h1 a H d F n (B x)) (h2 a H d F n (ft (B x) (.end_ h)).1 (ft (B x) (.end_ h)).2 Q)
def ahm(a:b4):bN:=λvs H Q _=>kg λd F n x=>jE (vs=[.ref d]) (h1 a H d F n (B x)) (n<=5000) (h2 a H d F n (ft (B x) .back).1 (ft (B x) .back).2 Q)
def ahn(a:b4):bN:=λvs H Q _=>jD λd F n x (u v:Nat)=>r5 (vs=[.ref d,.int (u:Int),.int (v:Int)]) (h1 a H d F n (B x)) (n<=5000) (x.game.ending=aa) ((u,v)∈x.rules.moves (x.rules.after x.game.moves)) (x.game.moves.length<900) (h2 a H d F n (yA x (u,v)).1 (yA x (u,v)).2 Q)
def aho(a:b4):bN:=λvs H Q _=>jD λd F n x (u v:Nat)=>mQ (vs=[.ref d,.int (u:Int),.int (v:Int)]) (h1 a H d F n (B x)) (n<=5000) (x.game.moves.length<900) (h2 a H d F n (ft (B x) (.move u v)).1 (ft (B x) (.move u v)).2 Q)
def P6(h:n≠0):(!decide (V.int ((n:Nat):Int)=V.int 0))=a9:=by rw[gW (λz=>h (by have z:=V.int.inj z;lia))];rfl
def Iu(T:Txt K a6 a):dH P w K a6 base cp 1 "counted" ["row"] ZV:=by
 refine T.abl.ok a9B ?_;rintro _ _ _ _ _ H _ _ _ _ _ ⟨t,xs,rfl,b9,aR,k⟩;refine⟨_,aX (bF (de oa (fC (ao (cL T.CQ Y) (ao (fj jc Y T.i3 iu (ao (J 0) az)) az))) (J 0))),t,_,Y,.inl (bo.of b9),nU,λIv I6=>?_⟩;have s2:=aw.upd (o:=.lst [.int 0,.int ((xs.length:Nat):Int)]) (aw.refl H) I6;refine⟨Iv,t,_,_,Y,Y,b3,s2 _ _ b9,?_,λl ar=>?_⟩
 .exact hv (lR (show 2+xs.length<=100002 by lia) dQ)
 exact k l _ (s2.free ar) (aw.upd s2 ar) b3
def ahp(T:Txt K a6 a):fT P w K a6 base cp 3 a.fc "end" ["self","ended_by"] (ahl a):=by
 refine T.abX.ok aa0 ?_;rintro _ _ _ _ _ H _ Q _ _ ak ⟨d,F,n,x,bT,rfl,dg,af⟩;refine⟨_,aC (d4 (d1 rS (J 1) (cL T.Nh Y) (cu _)) (aX (bF (fC (ao (cL T.Xf Y) az)))) d9) (aC (d4 (d1 o6 (gb (DJ T) (bg (J 0) Y) T.dn.1 ak bu) (cL T.si Y) (cu _)) (aX (bF (fC (ao (cL T.Ni Y) az)))) d9) (aC (ea (dR (Zi T) (bg (J 0) Y) T.dn.1 ak.mono bu (ao (J 1) az))) (aX (bF (fC (ao (cL T.CQ Y) az)))))),?_⟩;obtain⟨_,g,aB,nl,hd,km,fo,ew,nm,l8⟩:=dg.game;obtain⟨_,_,_,_,_,aI⟩:=fo.obj;have af:h2 a H d F n (if 2<bT then(B x,hy (-1))else if x.rules.overOf x.game≠0 then(B x,hy (-4))else(B ⟨x.rules,⟨x.game.moves,Qv bT⟩⟩,hy 0):jn×oS).1 (if 2<bT then(B x,hy (-1))else if x.rules.overOf x.game≠0 then(B x,hy (-4))else(B ⟨x.rules,⟨x.game.moves,Qv bT⟩⟩,hy 0):jn×oS).2 Q:=af;refine⟨_,_,Y,Y,_,Y,?_⟩;by_cases a5:2<bT
 .rw[aZ a5]at af;exact eR (eL (by lia)) ⟨gd,λl ar=>af.refuse dg (aw.refl H) ar⟩
 rw[aL a5]at af;refine ec (λz=>a5 (by have:=e7 z;lia)) ?_;refine⟨d,_,_,_,_,Y,hd,T.eU.1,T.hs,Y,g,_,_,Y,aI,Y,g,aB,nl,F,n,x,Y,fo,ew,Y,_,Y,?_⟩;by_cases b8:x.rules.overOf x.game=0
 .rw[aL (by rw[b8];decide)]at af;refine ec (by rw[b8];decide) ?_;have iS:V.int (bT:Int)=mr (Qv bT):=by
   have:bT=0∨bT=1∨bT=2:=by lia
   rcases this with rfl|rfl|rfl<;>rfl
  refine⟨d,_,_,_,_,Y,hd,T.eU.1,T.hs,Y,g,_,_,Y,aI,Y,g,aB,nl,F,n,x,Qv bT,by rw[<-iS];rfl,fo,λ_ fr hD=>⟨gd,λl ar=>?_⟩⟩;exact af.game hd km fr (λc a7=>.inl a7) (hD.less (sH _)) ⟨ew.el,ew.fJ,λ_=>(M8 b8).2⟩ nm (aj3 l8) (aw.new ar) ar b3
 rw[aZ b8]at af;exact eR (P6 b8) ⟨gd,λl ar=>af.refuse dg (aw.refl H) ar⟩
def ahq(T:Txt K a6 a):fT P w K a6 base cp 2 a.fc "back" ["self"] (ahm a):=by
 refine T.abY.ok aa1 ?_;rintro _ _ _ _ _ H _ Q _ _ ak ⟨d,F,n,x,rfl,dg,kz,af⟩;refine⟨_,aC (d4 (js (gb (ag2 T) (bg (J 0) Y) T.dn.1 ak bu)) (aX (bF (fC (ao (cL T.CQ Y) az)))) d9) (aX (bF (fC (ao (cL T.H8 Y) az)))),?_⟩;obtain⟨_,g,aB,nl,hd,km,fo,ew,nm,l8⟩:=dg.game;obtain⟨_,_,_,_,_,aI⟩:=fo.obj;have af:h2 a H d F n (if x.game.ending≠aa then(B ⟨x.rules,⟨x.game.moves,aa⟩⟩,hy 0)else if x.game.moves=[]then(B x,hy (-2))else(B ⟨x.rules,⟨x.game.moves.dropLast,aa⟩⟩,hy 0):jn×oS).1 (if x.game.ending≠aa then(B ⟨x.rules,⟨x.game.moves,aa⟩⟩,hy 0)else if x.game.moves=[]then(B x,hy (-2))else(B ⟨x.rules,⟨x.game.moves.dropLast,aa⟩⟩,hy 0):jn×oS).2 Q:=af;refine⟨d,_,_,_,_,Y,hd,T.eU.1,T.hs,Y,g,_,_,Y,aI,Y,g,aB,nl,F,n,x,Y,fo,ew,kz,λO au fr hD=>⟨_,Y,?_⟩,λO a5=>⟨_,Y,?_⟩,λO a5 au fr hD=>⟨_,Y,?_⟩⟩
 .rw[aZ O]at af;exact hM ⟨gd,λl ar=>af.game hd km fr (λc a7=>.inl a7) hD ⟨ew.el,ew.fJ,λz=>absurd Y z⟩ nm (aj3 l8) (aw.new ar) ar b3⟩
 .rw[aL (by rw[O];simp),aZ a5]at af;exact gF ⟨gd,λl ar=>af.refuse dg (aw.refl H) ar⟩
 rw[aL (by rw[O];simp),aL a5]at af;exact hM ⟨gd,λl ar=>af.game hd km fr (λc a7=>.inl a7) hD ew.back nm (by show x.game.moves.dropLast.length+50<=n+1;rw[aiQ];lia) (aw.new ar) ar b3⟩
def ZW(z:Int)(l:sl Nat):cb (pX z [.list l]).nums=.int z::.int ((l.length:Nat):Int)::dD l:=by unfold pX aky;simp only[mZ,PG,a22,hU];show V.int z::V.int _::cb (a25 _)=_;rw[ahi]
def ZX(T:Txt K a6 a):fT P w K a6 base cp 10 a.fc "make" ["self","x","y"] (ahn a):=by
 refine T.abW.ok a9Z ?_;rintro _ _ _ _ _ _ _ _ _ _ ak ⟨d,F,n,x,u,v,rfl,dg,kz,aH,hm,bC,af⟩;refine⟨_,aC (ea (dR (Za T) (bg (J 0) Y) T.dn.1 ak bu (ao (J 1) (ao (J 2) az)))) (aX (bF (cw (Iu T) ak.mono Y bu (ao (dZ hL (bg (bg (J 0) Y) Y) (Bi Bj cg) (λ_ _=>rfl)) az)))),?_⟩;obtain⟨_,g,aB,nl,hd,km,fo,ew,nm,_⟩:=dg.game;obtain⟨_,_,_,_,_,aI⟩:=fo.obj;have hw:=ew.fJ.wf ew.el.g.c0 (nM ew.el);have dY:=C4 hw ew.el.g.c0 (pz hw ew.el.g.c0 hm);refine⟨d,_,_,_,_,Y,hd,T.eU.1,T.hs,Y,g,_,_,Y,aI,Y,g,aB,nl,F,n,x,u,v,Y,fo,ew,aH,hm,bC,kz,λai _ fr hf dN=>?_⟩;have Ic:=fr.fr.cI _ _ km hd;obtain⟨_,P7,_,_,_,x_,_,_,M,_⟩:=id dN;have tn:x_.length=x.game.moves.length+1:=by rw[M.kM];simp
 have c6:x.game.moves.length<x_.length:=by lia
 have vM:=ff c6;have a01:ho (x_.map V.ref) (-1)=B (.ref x_[x.game.moves.length]):=by
  have e:=take_snoc vM;rw[lQ (by lia)]at e;conv=>lhs;rw[e,fO]
  exact RA _ _
 have b9:ai x_[x.game.moves.length]=B (.lst (dD (qC x.rules (x.game.moves++[(u,v)]) x.game.moves.length))):=(M.vO _ _ vM).1;generalize x_[x.game.moves.length]=t at a01 b9;have ahr:(qC x.rules (x.game.moves++[(u,v)]) x.game.moves.length).length<=200:=by
  rw[Ti];simp only[fX]
  lia
 refine⟨d,_,_,_,_,Y,Ic,T.eU.1,T.hs,Y,g,_,_,_,_,Y,M.ck.obj,T.dn.1,T.tN,Y,_,Y,P7,_,_,_,Y,Y,bo.of M.jj,a01,t,_,Y,b9,(by rw[jI];lia),λl _ ar s2 aF=>?_⟩;refine af.game hd km fr hf dN (ew.moved hm) nm (by show(x.game.moves++[(u,v)]).length+50<=n+1;rw[dh,gy];lia) s2 ar ?_;rw[aF,jI];unfold yA;rw[ZW]
def ahs(T:Txt K a6 a):fT P w K a6 base cp 11 a.fc "move" ["self","x","y"] (aho a):=by
 refine T.abU.ok a9Y ?_;rintro _ _ _ _ _ H _ Q _ _ ak ⟨d,F,n,x,u,v,rfl,dg,kz,bC,af⟩;refine⟨_,aC (d4 (d1 o6 (gb (DJ T) (bg (J 0) Y) T.dn.1 ak.mono bu) (cL T.si Y) (cu _)) (aX (bF (fC (ao (cL T.Ni Y) az)))) d9) (aC (d4 (wo (js (dR (afN T) (bg (J 0) Y) T.dn.1 ak.mono bu (ao (J 1) (ao (J 2) az))))) (aX (bF (fC (ao (cL T.H8 Y) az)))) d9) (aX (bF (dR (ZX T) (J 0) T.eU.1 ak bu (ao (J 1) (ao (J 2) az)))))),?_⟩;obtain⟨_,g,aB,nl,hd,_,fo,ew,_,_⟩:=dg.game;obtain⟨_,_,_,_,_,aI⟩:=fo.obj;have af:h2 a H d F n (if x.rules.overOf x.game≠0 then(B x,hy (-4))else if(x.rules.moves (x.rules.after x.game.moves)).contains (u,v)=aK then(B x,hy (-2))else yA x (u,v):jn×oS).1 (if x.rules.overOf x.game≠0 then(B x,hy (-4))else if(x.rules.moves (x.rules.after x.game.moves)).contains (u,v)=aK then(B x,hy (-2))else yA x (u,v):jn×oS).2 Q:=af;refine⟨d,_,_,_,_,Y,hd,T.eU.1,T.hs,Y,g,_,_,Y,aI,Y,g,aB,nl,F,n,x,Y,fo,ew,Y,_,Y,?_⟩;by_cases b8:x.rules.overOf x.game=0
 .obtain⟨aH,P8⟩:=M8 b8;rw[aL (by rw[b8];decide)]at af;refine ec (by rw[b8];decide) ?_;obtain⟨ZY,P7,ZZ,Z_,Z',_,qo,a00,M,_⟩:=id fo;refine⟨d,_,_,_,_,Y,hd,T.eU.1,T.hs,Y,g,_,_,Y,M.ck.obj,Y,g,aB,nl,ZY,P7,ZZ,Z_,Z',qo,_,x.rules,x.game.moves,a00,u,v,Y,M.ck,ew.el,ew.fJ.wf ew.el.g.c0 (nM ew.el),M9 P8,λ_ s2=>⟨_,Y,?_⟩⟩;cases a7:(x.rules.moves (x.rules.after x.game.moves)).contains (u,v)with|false=>rw[aZ a7]at af;exact hM ⟨gd,λl ar=>af.refuse dg s2 ar⟩|true=>rw[aL (by rw[a7];decide)]at af;refine gF ?_;exact⟨d,_,_,Y,s2 _ _ hd,Y,d,F,n,x,u,v,Y,dg.same s2 (cP _),kz,aH,y1.mp a7,bC,af.after s2⟩
 rw[aZ b8]at af;exact eR (P6 b8) ⟨gd,λl ar=>af.refuse dg (aw.refl H) ar⟩
def P9{u:Nat}:mO u X λ_ _ _=>False:=λ_ _ _ _ _ _ _ _ _ _ _ _ _ _ _ _ _ h=>h.elim
def aht(h:mD b=.ok r):ft s (.begin_ b)=(B ⟨r,.none_⟩,hy 0):=by
 show(match mD b with
  |.error (k,p)=>(s,Qr (-6) k p)
  |.ok r=>(B ⟨r,.none_⟩,hy 0))=_
 rw[h]
def ahu{p:Nat}(h:mD b=.error (k,p)):ft s (.begin_ b)=(s,Qr (-6) k p):=by
 show(match mD b with
  |.error (k,p)=>(s,Qr (-6) k p)
  |.ok r=>(B ⟨r,.none_⟩,hy 0))=_
 rw[h]
def ahv{x:jZ}(h:x.rules.overOf x.game≠0):ft (B x) (.say b)=(B x,hy (-4)):=by show(if x.rules.overOf x.game≠0 then(B x,hy (-4))else _:jn×oS)=_;rw[aZ h]
def ahw{x:jZ}(h:x.rules.overOf x.game=0)(ak:x.rules.readMove (x.rules.after x.game.moves) b=.error k):ft (B x) (.say b)=(B x,pX (-5) [.num k]):=by
 show(if x.rules.overOf x.game≠0 then(B x,hy (-4))else match x.rules.readMove (x.rules.after x.game.moves) b with
  |.error k=>(B x,pX (-5) [.num k])
  |.ok m=>yA x m:jn×oS)=_
 rw[aL (by rw[h];decide),ak]
def ahx{x:jZ}{m:Nat×Nat}(h:x.rules.overOf x.game=0)(ak:x.rules.readMove (x.rules.after x.game.moves) b=.ok m):ft (B x) (.say b)=yA x m:=by
 show(if x.rules.overOf x.game≠0 then(B x,hy (-4))else match x.rules.readMove (x.rules.after x.game.moves) b with
  |.error k=>(B x,pX (-5) [.num k])
  |.ok m=>yA x m:jn×oS)=_
 rw[aL (by rw[h];decide),ak]
def ahy{x:jZ}(ak:x.rules.readGame b=.error k):ft (B x) (.read b)=(B x,pX (-5) [.num k]):=by
 show(match x.rules.readGame b with
  |.error p=>(B x,pX (-5) [.num p])
  |.ok g=>(B {x with game:=g},hy 0):jn×oS)=_
 rw[ak]
def ahz{x:jZ}{y:Tafl.Game}(ak:x.rules.readGame b=.ok y):ft (B x) (.read b)=(B ⟨x.rules,y⟩,hy 0):=by
 show(match x.rules.readGame b with
  |.error p=>(B x,pX (-5) [.num p])
  |.ok g=>(B {x with game:=g},hy 0):jn×oS)=_
 rw[ak]
def a02(a:b4)(H:ag)(x:jZ)(b:aS):cW:=λcls i_ H'=>∃a3,∃k:Nat,cls=.ref a.vp/\i_=B a3/\x.rules.readMove (x.rules.after x.game.moves) b=.error k/\aw H H'/\H' a3=B (gs a3 [("place",.int (k:Int))])
def a03(a:b4)(H:ag)(x:jZ)(b:aS):cW:=λcls i_ H'=>∃a3,∃k:Nat,cls=.ref a.mg/\i_=B a3/\x.rules.readGame b=.error k/\aw H H'/\H' a3=B (gs a3 [("place",.int (k:Int))])
def ahA(a:b4):bN:=λvs H Q _=>jD λd F n s aD b=>mQ (vs=[.ref d,.ref aD]) (h1 a H d F n s) (800<=n) (H aD=B (.lst (cA b))) (h2 a H d F n (ft s (.begin_ b)).1 (ft s (.begin_ b)).2 Q)
def ahB(a:b4):bN:=λvs H Q _=>jD λd F n x aD b=>qg (vs=[.ref d,.ref aD]) (h1 a H d F n (B x)) (n<=5000) (x.game.moves.length<900) (H aD=B (.lst (cA b))) (h2 a H d F n (ft (B x) (.say b)).1 (ft (B x) (.say b)).2 Q)
def ahC(a:b4):bN:=λvs H Q _=>jD λd F n x aD b=>qg (vs=[.ref d,.ref aD]) (h1 a H d F n (B x)) (800<=n) (H aD=B (.lst (cA b))) (b.length<=1500) (h2 a H d F n (ft (B x) (.read b)).1 (ft (B x) (.read b)).2 Q)
def h2.fresh{l:I}{v:V}{hS:sl I}{y:jZ}{z:Int}(af:h2 a H d F n (B y) (hy z) Q)(O:H d=B (.ins a.fc a3 [("game",v)]))(a5:d∉F)(aE:aw H ai)(hf:∀c∈hS,c∈F∨H c=aa)(aj:fV a ai g aB nl hS m y)(hm:m<=n+1)(cb:Tf.Inv y)(aH:y.rules.name.length<=16)(bk:y.game.moves.length+50<=n+1)(ar:(av ai d (.ins a.fc a3 [("game",.ref g)])) l=aa):Q (.ref l) (av (av ai d (.ins a.fc a3 [("game",.ref g)])) l (.lst [.int z])):=by
 have Pa:d∉hS:=λz=>by
  obtain h|h:=hf d z
  .exact a5 h
  rw[O]at h;cases h
 have alK:l≠d:=λz=>by rw[z,b3]at ar;cases ar
 have mq:=aw.upd (o:=.lst [.int z]) (aw.refl (av ai d (.ins a.fc a3 [("game",.ref g)]))) ar;have fr:Fr (d::F) H (av ai d (.ins a.fc a3 [("game",.ref g)])):=(Fr.of aE).put (by simp);refine af l _ hS (fr.trans (Fr.of mq)) (fr.hR _ ar) hf ?_ b3;exact⟨a3,.ref g,mq _ _ b3,Pa,g,aB,nl,Y,(fV.same (aj.frame (S:=[d]) ((hh.refl _ _).put (by simp)) λc a7 z=>Pa (by rw[<-jY.mp z];exact a7)) mq).less hm,cb,aH,bk⟩
def ahD(T:Txt K a6 a):fT P w K a6 base cp 11 a.fc "begin" ["self","source"] (ahA a):=by
 refine T.abT.ok Na ?_;rintro _ _ _ _ _ H _ Q _ _ ak ⟨d,F,n,st,aD,b,rfl,dg,Iy,fm,af⟩;obtain⟨_,_,Am,_⟩:=id T.Ny;refine⟨_,aC (GO (i:=3) (t:=2) (u:=1) (E1:=λcls i_ H'=>∃a3,∃pN pl:Nat,cls=.ref a.vq/\i_=B a3/\mD b=.error (pN,pl)/\aw H H'/\H' a3=B (gs a3 [("kind",.int (pN:Int)),("place",.int (pl:Int))])) (E2:=λ_ _ _=>False) (th:=λe=>p3 (Fe (ed (iP (.int (-6))) (ed (x9 K (dc 3) "kind") (ed (x9 K (dc 3) "place") gi))))) Y Y Na.bj Y Y Y T.Nx Am (λc_ bL c=>aX (cz (i:=2) Na.bj (cw (af3 T) ak.mono Y c.passes (ao (J 1) az)))) P9 (λe c_ bL c=>aX (bF (fC (ao (cL T.aaq Y) (ao (zv (J 3) Y) (ao (zv (J 3) Y) az))))))) (aC (e2 (J 0) (pK (Zm T) ak Y T.dn.2 bu (ao (J 2) az)) Y) (aX (bF (fC (ao (cL T.CQ Y) az))))),⟨aD,b,Y,fm,λr p nl ai bY Om tw aE d2=>?_,λpN pl bY a3 ai aE hd=>⟨a3,pN,pl,Y,Y,bY,aE,hd⟩⟩,λcls i_ ai ⟨a3,pN,pl,aO,aT,bY,aE,hd⟩=>⟨aO,λe dV m aU aF _=>?_⟩⟩
 .have af:h2 a H d F n (B ⟨r,.none_⟩) (hy 0) Q:=by rw[aht bY]at af;exact af
  have R:=Tf.judge_ok bY;obtain⟨a3,v,hd,km,_⟩:=dg;refine(λg fa qq DS bV=>?_);have s2:aw ai (av (av ai fa (.own g)) g (.ins a.Game fa [])):=aw.upd (aw.new DS) (by rw[aM (ej bV)];exact qq);refine⟨g,fa,p,nl,r,Y,b3,d2.same s2,R,λau _ fr hf fo=>⟨Y,?_⟩⟩;have a04:aw H au:=aE.trans λc u q=>fr.cI c u (by simp only[jY];exact cV q qq) (s2 _ _ q);refine⟨d,_,_,_,Y,a04 _ _ hd,T.eU.1,T.hs,qE,gd,λl ar=>af.fresh hd km a04 (λc a7=>.inr ?_) fo (by lia) (Tf.Inv.fresh R) (a77 bY) (by show 0+50<=n+1;lia) ar⟩;obtain h|h|h|h:=hf c a7
  .rw[h];exact aE.free qq
  .rw[h];exact Om
  .rw[h];exact tw
  exact aE.free (s2.free h)
 have af:h2 a H d F n st (Qr (-6) pN pl) Q:=by rw[ahu bY]at af;exact af
 have lH:dV=a3:=by rw[aT]at aU;exact(h4 aU).symm
 subst lH;refine⟨e,_,_,_,dV,_,_,_,Y,Am,by simp,aF,hd,A9 aF hd,Y,e,_,_,_,dV,_,_,_,Y,Am,by simp,aF,hd,A9 aF hd,Y,Jw,λl ar=>?_⟩;exact af.keep dg (aw.upd aE ar) (aE.free ar) b3
def ahE(T:Txt K a6 a):fT P w K a6 base cp 11 a.fc "say" ["self","source"] (ahB a):=by
 refine T.abV.ok Nb ?_;rintro _ _ _ _ _ H _ _ _ _ ak ⟨d,F,n,x,aD,b,rfl,dg,kz,bC,fm,af⟩;obtain⟨_,_,XL,_⟩:=id T.Hc;refine⟨_,aC (d4 (d1 o6 (gb (DJ T) (bg (J 0) Y) T.dn.1 ak.mono bu) (cL T.si Y) (cu _)) (aX (bF (fC (ao (cL T.Ni Y) az)))) d9) (aC (GO (i:=3) (t:=1) (u:=1) (E1:=a02 a H x b) (cf:=p6 (iR (OA a) [] (a02 a H x b) (ed (ha K (ha K (dc 0) "game") "rules") (ed (jb a.Game "last_position" (I7 a) [] q5 (ha K (dc 0) "game") gi) (ed (dc 1) gi)))) (mJ 2)) (E2:=λ_ _ _=>False) (th:=λe=>p3 (Fe (ed (iP (.int (-5))) (ed (x9 K (dc 3) "place") gi)))) Y Y Nb.bj Y Y Y T.Nw XL (λc_ bL c=>aX (cz (i:=2) Nb.bj (cw (YT T) ak.mono Y c.passes (ao (bg (bg (J 0) Y) Y) (ao (gb (I8 T) (bg (J 0) Y) T.dn.1 ak.mono bu) (ao (J 1) az)))))) P9 (λe c_ bL c=>aX (bF (fC (ao (cL T.Xg Y) (ao (zv (J 3) Y) az)))))) (aX (bF (dR (ZX T) (J 0) T.eU.1 ak bu (ao (dZ m2 (J 2) cg (λ_ _=>rfl)) (ao (dZ m2 (J 2) cg (λ_ _=>rfl)) az)))))),?_⟩;obtain⟨_,g,aB,nl,hd,_,fo,ew,_,_⟩:=dg.game;obtain⟨_,_,_,_,_,aI⟩:=fo.obj;refine⟨d,_,_,_,_,Y,hd,T.eU.1,T.hs,Y,g,_,_,Y,aI,Y,g,aB,nl,F,n,x,Y,fo,ew,Y,_,Y,?_⟩;by_cases b8:x.rules.overOf x.game=0
 .obtain⟨aH,P8⟩:=M8 b8;refine ec (by rw[b8];decide) ?_;obtain⟨aV,bz,iX,a',c7,_,qo,aW,M,_⟩:=id fo;have c0:=ew.el.g.c0;have hw:=ew.fJ.wf c0 (nM ew.el);refine⟨⟨d,_,_,_,_,Y,hd,T.eU.1,T.hs,Y,g,_,_,_,_,Y,M.ck.obj,T.dn.1,T.pL,Y,d,_,_,_,_,Y,hd,T.eU.1,T.hs,Y,g,_,_,Y,M.ck.obj,Y,g,aB,nl,aV,bz,iX,a',c7,qo,_,x.rules,x.game.moves,aW,Y,M.ck,λp aq=>⟨aB,x.rules,_,p,aD,b,Y,M.ck.kK.at,aq,ew.el.g,hw,M9 P8,fm,λm t au j0 s2 b9=>?_,λk j0 mi au s2 nk=>⟨mi,k,Y,Y,j0,s2,nk⟩⟩⟩,λ_ _ au ⟨mi,k,aO,aT,j0,aE,nk⟩=>⟨aO,λe dV m aU aF _=>?_⟩⟩
  .rw[ahx b8 j0]at af;have t9:m∈x.rules.moves (x.rules.after x.game.moves):=by
    unfold EJ at j0;split at j0
    .next z aR=>cases j0;exact Eb aR
    cases j0
   exact⟨d,_,_,Y,s2 _ _ hd,Y,t,_,_,_,Y,Y,dt.of b9,gw (j:=0) Y,t,_,_,_,Y,Y,dt.of b9,gw (j:=1) Y,d,F,n,x,m.1,m.2,Y,dg.same s2 (cP _),kz,aH,t9,bC,af.after s2⟩
  rw[ahw b8 j0]at af;have lH:dV=mi:=by rw[aT]at aU;exact(h4 aU).symm
  subst lH;refine⟨e,_,_,_,dV,_,_,_,Y,XL,by simp,aF,nk,A9 aF nk,Y,nU,λl ar=>?_⟩;exact af.keep dg (aw.upd aE ar) (aE.free ar) b3
 rw[ahv b8]at af;exact eR (P6 b8) ⟨gd,λl ar=>af.refuse dg (aw.refl H) ar⟩
def ahF(T:Txt K a6 a):fT P w K a6 base cp 12 a.fc "read" ["self","source"] (ahC a):=by
 refine T.ac4.ok Nd ?_;rintro _ _ _ _ _ H _ _ _ _ ak ⟨d,F,n,x,aD,b,rfl,dg,Iy,fm,Io,af⟩;obtain⟨_,_,xO,_⟩:=id T.r7;refine⟨_,aC (GO (i:=3) (t:=2) (u:=1) (E1:=a03 a H x b) (cf:=p6 (iR (Zy a) [] (a03 a H x b) (ed (ha K (ha K (dc 0) "game") "rules") (ed (dc 1) gi))) (mJ 2)) (E2:=λ_ _ _=>False) (th:=λe=>p3 (Fe (ed (iP (.int (-5))) (ed (x9 K (dc 3) "place") gi)))) Y Y Nd.bj Y Y Y T.tM xO (λc_ bL c=>aX (cz (i:=2) Nd.bj (cw (agH T (ah3 T)) ak Y c.passes (ao (bg (bg (J 0) Y) Y) (ao (J 1) az))))) P9 (λe c_ bL c=>aX (bF (fC (ao (cL T.Xg Y) (ao (zv (J 3) Y) az)))))) (aC (e2 (J 0) (J 2) Y) (aX (bF (fC (ao (cL T.CQ Y) az))))),?_⟩;obtain⟨_,g,aB,nl,hd,km,fo,ew,nm,_⟩:=dg.game;obtain⟨_,_,_,_,_,_,_,_,M,_,fk⟩:=id fo;refine⟨⟨d,_,_,_,_,Y,hd,T.eU.1,T.hs,Y,g,_,_,_,_,Y,M.ck.obj,T.dn.1,T.pL,Y,aB,nl,x.rules,aD,b,Y,fm,M.ck.kK,ew.el,Io,λy _ au _ bl s2 hf hD ahG _=>?_,λk aA mi au s2 nk=>⟨mi,k,Y,Y,aA,s2,nk⟩⟩,λ_ _ au ⟨mi,k,aO,aT,aA,aE,nk⟩=>⟨aO,λe dV m aU aF _=>?_⟩⟩
 .rw[ahz bl]at af;refine⟨d,_,_,_,Y,s2 _ _ hd,T.eU.1,T.hs,qE,gd,λl ar=>h2.fresh af hd km s2 (λc a7=>?_) hD (by lia) ahG nm (by show y.moves.length+50<=n+1;lia) ar⟩;obtain h|h|h:=hf c a7
  .rw[h];exact .inl (fk aB (iK.mpr (.inr (.inl Y))))
  .rw[h];exact .inl (fk nl (iK.mpr (by simp)))
  exact .inr h
 rw[ahy aA]at af;have lH:dV=mi:=by rw[aT]at aU;exact(h4 aU).symm
 subst lH;refine⟨e,_,_,_,dV,_,_,_,Y,xO,by simp,aF,nk,A9 aF nk,Y,nU,λl ar=>?_⟩;exact af.keep dg (aw.upd aE ar) (aE.free ar) b3
def a05{f:Nat->aS}{c:Nat}(h:∀i,(f i).length<=c):∀l:sl Nat,(l.flatMap f).length<=c*l.length
 |[]=>cP _
 |x::l=>by
  rw[mZ,dh,fX,aj6];have:=h x;have:=a05 h l
  lia
def Pb(s:dj r)(q:gv):(r.line q).length<=600:=by
 have q9:=s.q9;have pw:=s.pw;unfold amP;rw[dh];have:=a05 (c:=42) (f:=λ(i:Nat)=>(if i=0 then[]else[47])++oT 0 (r.rowOf q (r.high-1-i))) (λi=>by
  rw[dh];have e:(r.rowOf q (r.high-1-i)).length=r.wide:=by unfold Jq;simp
  have:=Gl (r.rowOf q (r.high-1-i)) 0 (by rw[e];lia);rw[e]at this;have:((if i=0 then[]else[47]:aS)).length<=1:=by split<;>simp
  lia) (eI r.high)
 rw[IS]at this;simp only[fX,uc]
 lia
def ahH(R:Tf.Right r)(fJ:Tf.Row r l):∀b∈iG r l,b.length<=30:=λb a0=>by
 unfold iG at a0;obtain⟨i,hi,rfl⟩:=fG.mp a0;have hi:=fY.mp hi;have e:l.take (i+1)=l.take i++[l[i]]:=by rw[ue,ff hi];rfl
 have je:=(fJ.take (i+1)).last e;have hw:=je.1.wf R.g.c0 (nM R);have:l.getD i (0,0)=l[i]:=by simp[AA,ff hi]
 rw[this];exact Oz R.g.c0 hw (pz hw R.g.c0 je.2)
def a06{c:Nat}:∀l:sl aS,(∀b∈l,b.length<=c)->l.flatten.length<=c*l.length
 |[],_=>cP _
 |x::l,h=>by
  rw[E9,dh,fX,aj6];have:=h x iM;have:=a06 l λb a0=>h b (eH _ a0)
  lia
def ahI{x:jZ}{h k:aS}(cb:Tf.Inv x)(nm:x.rules.name.length<=16)(vP:x.game.moves.length<=900)(Ii:h.length<=1500)(Ij:k.length<=1500):(x.rules.gameText h k x.game).length<=40000:=by
 rw[U7];have agm:Tf.dN.length=5:=by decide+kernel
 have agn:Tf.hD.length=7:=by decide+kernel
 have gZ:=Gr (Gn x.rules x.game) (Gp x.rules x.game);have:=a06 (c:=31) ((iG x.rules x.game.moves).map (·++[10])) λb a0=>by obtain⟨z,aR,rfl⟩:=fG.mp a0;have:=ahH cb.el cb.fJ z aR;rw[dh,gy];lia
 rw[cX,Gm]at this;simp only[dh,gy];refine dE (PK (Nat.add_le_add_right (PK this _) _) _) ?_
 lia
def Pc(z:Int)(t:aS)(l:sl Int):cb (pX z (.text t::l.map .num)).nums=(.int z::.int ((t.length:Nat):Int)::cA t)++cb l:=by
 have e:∀l:sl Int,(l.map Tafl.Item.num).flatMap a22=l:=λl=>by induction l with|nil=>rfl|cons n l ih=>rw[ir,mZ,ih];rfl
 unfold pX aky;simp only[mZ,a22,e];unfold cb cA;simp
def ahJ(a:b4):bN:=λvs H Q _=>kJ λd F n x (k:Nat)=>jE (vs=[.ref d,.int (k:Int)]) (h1 a H d F n (B x)) (k<=x.game.moves.length) (∀l H',H l=aa->aw H H'->H' l=B (.lst (.int 0::.int (((x.rules.line (x.rules.after (x.game.moves.take k))).length:Nat):Int)::cA (x.rules.line (x.rules.after (x.game.moves.take k)))))->Q (.ref l) H')
def ahK(a:b4):bN:=λvs H Q _=>kg λd F n x=>il (vs=[.ref d]) (h1 a H d F n (B x)) (h2 a H d F n (ft (B x) .now).1 (ft (B x) .now).2 Q)
def ahL(a:b4):bN:=λvs H Q _=>kJ λd F n x (k:Nat)=>il (vs=[.ref d,.int (k:Int)]) (h1 a H d F n (B x)) (h2 a H d F n (ft (B x) (.at_ k)).1 (ft (B x) (.at_ k)).2 Q)
def ahM(a:b4):bN:=λvs H Q _=>kJ λd F n x (k:Nat)=>il (vs=[.ref d,.int (k:Int)]) (h1 a H d F n (B x)) (h2 a H d F n (ft (B x) (.made k)).1 (ft (B x) (.made k)).2 Q)
def ahN(a:b4):bN:=λvs H Q _=>G_ λd F n x aq dK h k=>tH (vs=[.ref d,.ref aq,.ref dK]) (h1 a H d F n (B x)) (x.game.moves.length<=900) (H aq=B (.lst (cA h))) (H dK=B (.lst (cA k))) (h.length<=1500) (k.length<=1500) (h2 a H d F n (ft (B x) (.text h k)).1 (ft (B x) (.text h k)).2 Q)
def a07(T:Txt K a6 a):fT P w K a6 base cp 4 a.fc "line_at" ["self","k"] (ahJ a):=by
 refine T.ac1.ok aa3 ?_;rintro f bU A _ s _ _ _ _ _ ak ⟨d,F,n,x,k,rfl,dg,aA,c9⟩;have O:dp 1 (A.deeper (fH "Desk.line_at" (bh MV) s⁻¹ f bU)):=ak.mono;refine⟨_,aX (bF (cw (Iu T) O Y bu (ao (cw (sk T) O Y bu (ao (cw (afD T) ak Y bu (ao (bg (bg (J 0) Y) Y) (ao (bg (dZ hL (bg (bg (J 0) Y) Y) (J 1) (λ_ _=>rfl)) Y) az))) az)) az))),?_⟩;obtain⟨_,g,aB,_,hd,_,fo,ew,_,_⟩:=dg.game;obtain⟨aV,_,_,_,c7,_,_,_,M,_⟩:=id fo;have c6:k<c7.length:=by rw[M.ck.kL];lia
 have DV:=ff c6;obtain⟨⟨_,ax⟩,aq⟩:=M.ck.sx k _ DV;have ke:ho (c7.map λs=>V.ref s.1) (k:Int)=B (.ref c7[k].1):=gw (by rw[fW,DV];rfl);have hw:=(ew.fJ.take k).wf ew.el.g.c0 (nM ew.el);have bC:=Pb ew.el.g.c0 (x.rules.after (x.game.moves.take k));refine⟨d,_,_,_,_,Y,hd,T.eU.1,T.hs,Y,g,_,_,_,_,Y,M.ck.obj,T.dn.1,T.pL,Y,d,_,_,_,_,Y,hd,T.eU.1,T.hs,Y,g,_,_,_,_,Y,M.ck.obj,T.dn.1,T.xv,Y,aV,_,_,_,Y,Y,bo.of M.ck.iJ,ke,c7[k].1,_,_,_,_,Y,ax,T.nG.1,T.zY,Y,aB,x.rules,_,c7[k].2,Y,M.ck.kK.at,aq,ew.el.g.c0,hw,λ_ s1=>⟨_,Y,(by lia),λt _ _ s2 vV=>⟨t,_,Y,vV,(by rw[iI];lia),λl bc ar bE gZ=>?_⟩⟩⟩;rw[iI]at gZ;exact c9 l bc ((s1.trans s2).free ar) ((s1.trans s2).trans bE) gZ
def ahO(T:Txt K a6 a):fT P w K a6 base cp 5 a.fc "now" ["self"] (ahK a):=by
 refine T.abZ.ok Nc ?_;rintro _ _ _ _ _ H _ Q _ _ ak ⟨d,F,n,x,rfl,dg,af⟩;refine⟨_,aC (cz (i:=1) Nc.bj (bg (J 0) Y)) (aC (cz (i:=2) Nc.bj (fj jc Y T.i3 iu (ao (bg (J 1) Y) az))) (aX (bF (de oa (dR (a07 T) (J 0) T.eU.1 ak bu (ao (J 2) az)) (fC (ao (J 2) (ao (gb (DJ T) (J 1) T.dn.1 ak.mono bu) (ao (gb (ag1 T) (J 1) T.dn.1 ak.mono bu) (ao (bg (gb (xQ T) (J 1) T.dn.1 ak.mono bu) Y) az))))))))),?_⟩;obtain⟨_,g,aB,nl,hd,_,fo,ew,_,_⟩:=dg.game;obtain⟨aV,bz,iX,a',_,ts,qo,_,M,_⟩:=id fo;have af:h2 a H d F n (B x) (pX 0 [.text (x.rules.line (x.rules.after x.game.moves)),.num x.game.moves.length,.num (x.rules.overOf x.game),.num (x.rules.winner x.game),.num (x.rules.seen x.game.moves)]) Q:=af;have oI:((ts.map V.ref).length:Int)=((x.game.moves.length:Nat):Int):=by rw[cX,M.kM]
 have bC:=Pb ew.el.g.c0 (x.rules.after x.game.moves);refine⟨d,_,_,_,_,Y,hd,T.eU.1,T.hs,Y,g,_,_,_,_,Y,M.ck.obj,T.dn.1,T.tN,Y,bz,_,Y,.inl (bo.of M.jj),?_⟩;rw[oI];refine⟨d,_,_,Y,hd,Y,d,F,n,x,x.game.moves.length,Y,dg,cP _,λt ai _ s1 vV=>?_⟩;rw[jl]at vV;have sC:=M.keep (H':=ai) λc _ o q=>s1 c o q;have a08:=fo.same s1;obtain⟨hG,aO,⟨⟨_,ax⟩,_⟩,_⟩:=sC.ck.last;refine⟨g,_,_,Y,sC.ck.obj,Y,g,aB,nl,F,n,x,Y,a08,ew,g,_,_,Y,sC.ck.obj,Y,g,aB,nl,F,n,x,Y,a08,ew,g,_,_,Y,sC.ck.obj,Y,g,aB,aV,bz,iX,a',qo,_,_,_,Y,sC.ck.obj,sC.ck.iJ,aO,hG.1,_,_,_,_,Y,ax,T.nG.1,T.Hd,Y,(by show 4<=cN;decide),λgD hp=>?_⟩;have s2:=aw.upd (o:=.lst (cb [((x.game.moves.length:Nat):Int),((x.rules.overOf x.game:Nat):Int),((x.rules.winner x.game:Nat):Int),((x.rules.seen x.game.moves:Nat):Int)])) (aw.refl ai) hp;refine⟨t,gD,_,_,Y,Y,s2 _ _ vV,b3,?_,λl ar=>?_⟩
 .exact hv (gE (by simp only[fX,uc,iI];lia))
 refine af.keep dg (s1.trans (aw.upd s2 ar)) ((s1.trans s2).free ar) ?_;rw[b3];exact g5 (λz=>B (dA.lst z)) (Pc 0 _ [((x.game.moves.length:Nat):Int),((x.rules.overOf x.game:Nat):Int),((x.rules.winner x.game:Nat):Int),((x.rules.seen x.game.moves:Nat):Int)]).symm
def ahP(T:Txt K a6 a):fT P w K a6 base cp 5 a.fc "at" ["self","k"] (ahL a):=by
 refine T.ac0.ok aa2 ?_;rintro _ _ _ _ s H _ Q _ _ ak ⟨d,F,n,x,k,rfl,dg,af⟩;refine⟨_,aC (d4 (d1 rS (J 1) (fj jc Y T.i3 iu (ao (bg (bg (J 0) Y) Y) az)) (cu _)) (aX (bF (fC (ao (cL T.H8 Y) az)))) d9) (aX (bF (de oa (dR (a07 T) (J 0) T.eU.1 ak bu (ao (J 1) az)) (fC (ao (bg (dZ hL (bg (bg (J 0) Y) Y) (J 1) (λ_ _=>rfl)) Y) az))))),?_⟩;obtain⟨_,g,_,_,hd,_,fo,ew,_,_⟩:=dg.game;obtain⟨aV,bz,_,_,c7,ts,_,_,M,_⟩:=id fo;have af:h2 a H d F n (B x) (if x.game.moves.length<k then hy (-2)else pX 0 [.text (x.rules.line (x.rules.after (x.game.moves.take k))),.num (x.rules.seen (x.game.moves.take k))]) Q:=af;have oI:((ts.map V.ref).length:Int)=((x.game.moves.length:Nat):Int):=by rw[cX,M.kM]
 refine⟨d,_,_,_,_,Y,hd,T.eU.1,T.hs,Y,g,_,_,_,_,Y,M.ck.obj,T.dn.1,T.tN,Y,bz,_,Y,.inl (bo.of M.jj),_,_,Y,Y,_,Y,?_⟩;rw[oI];by_cases aA:x.game.moves.length<k
 .rw[aZ aA]at af;exact eR (eL (by lia)) ⟨gd,λl ar=>af.refuse dg (aw.refl H) ar⟩
 rw[aL aA]at af;have bC:=Pb ew.el.g.c0 (x.rules.after (x.game.moves.take k));refine ec (λz=>aA (by have:=e7 z;lia)) ?_;refine⟨d,_,_,Y,hd,Y,d,F,n,x,k,Y,dg,(by lia),λt ai _ s1 vV=>?_⟩;have sC:=M.keep (H':=ai) λc _ o q=>s1 c o q;have c6:k<c7.length:=by rw[M.ck.kL];lia
 have DV:=ff c6;obtain⟨⟨_,ax⟩,_⟩:=sC.ck.sx k _ DV;have ke:ho (c7.map λs=>V.ref s.1) (k:Int)=B (.ref c7[k].1):=gw (by rw[fW,DV];rfl);refine⟨d,_,_,_,_,Y,s1 _ _ hd,T.eU.1,T.hs,Y,g,_,_,_,_,Y,sC.ck.obj,T.dn.1,T.xv,Y,aV,_,_,_,Y,Y,bo.of sC.ck.iJ,ke,c7[k].1,_,_,_,_,Y,ax,T.nG.1,T.Hd,Y,gd,λgD hp=>?_⟩;have s2:=aw.upd (o:=.lst (cb [((x.rules.seen (x.game.moves.take k):Nat):Int)])) (aw.refl ai) hp;refine⟨t,gD,_,_,Y,Y,s2 _ _ vV,b3,?_,λl ar=>?_⟩
 .exact hv (gE (by simp only[fX,uc,iI];lia))
 refine af.keep dg (s1.trans (aw.upd s2 ar)) ((s1.trans s2).free ar) ?_;rw[b3];exact g5 (λz=>B (dA.lst z)) (Pc 0 _ [((x.rules.seen (x.game.moves.take k):Nat):Int)]).symm
def ahQ(T:Txt K a6 a):fT P w K a6 base cp 2 a.fc "made" ["self","k"] (ahM a):=by
 refine T.ac2.ok aa4 ?_;rintro _ _ _ _ _ H _ Q _ _ ak ⟨d,F,n,x,k,rfl,dg,af⟩;refine⟨_,aC (d4 (d1 F8 (J 1) (fj jc Y T.i3 iu (ao (bg (bg (J 0) Y) Y) az)) (cu _)) (aX (bF (fC (ao (cL T.H8 Y) az)))) d9) (aX (bF (cw (Iu T) ak Y bu (ao (dZ hL (bg (bg (J 0) Y) Y) (J 1) (λ_ _=>rfl)) az)))),?_⟩;obtain⟨_,g,_,_,hd,_,fo,ew,_,_⟩:=dg.game;obtain⟨_,bz,_,_,_,ts,_,_,M,_⟩:=id fo;have af:h2 a H d F n (B x) (if x.game.moves.length<=k then hy (-2)else pX 0 [.list (qC x.rules x.game.moves k)]) Q:=af;have oI:((ts.map V.ref).length:Int)=((x.game.moves.length:Nat):Int):=by rw[cX,M.kM]
 refine⟨d,_,_,_,_,Y,hd,T.eU.1,T.hs,Y,g,_,_,_,_,Y,M.ck.obj,T.dn.1,T.tN,Y,bz,_,Y,.inl (bo.of M.jj),_,_,Y,Y,_,Y,?_⟩;rw[oI];by_cases aA:x.game.moves.length<=k
 .rw[aZ aA]at af;exact eR (eL (by lia)) ⟨gd,λl ar=>af.refuse dg (aw.refl H) ar⟩
 rw[aL aA]at af;refine ec (λz=>aA (by have:=e7 z;lia)) ?_;have c6:k<ts.length:=by rw[M.kM];lia
 have vM:=ff c6;have ke:ho (ts.map V.ref) (k:Int)=B (.ref ts[k]):=gw (by rw[fW,vM];rfl);have ahr:(qC x.rules x.game.moves k).length<=200:=by
  have yZ:k<x.game.moves.length:=by lia
  have e:x.game.moves.take (k+1)=x.game.moves.take k++[x.game.moves[k]]:=by rw[ue,ff yZ];rfl
  have je:=(ew.fJ.take (k+1)).last e;have hw:=je.1.wf ew.el.g.c0 (nM ew.el);have:=C4 hw ew.el.g.c0 (pz hw ew.el.g.c0 je.2);unfold qC;have lH:x.game.moves.getD k (0,0)=x.game.moves[k]:=by simp[AA,ff yZ]
  rw[lH];simp only[fX]
  lia
 refine⟨d,_,_,_,_,Y,hd,T.eU.1,T.hs,Y,g,_,_,_,_,Y,M.ck.obj,T.dn.1,T.tN,Y,bz,_,_,_,Y,Y,bo.of M.jj,ke,ts[k],_,Y,(M.vO k _ vM).1,(by rw[jI];lia),λl _ ar s2 gZ=>?_⟩;refine af.keep dg s2 ar ?_;rw[gZ,jI,ZW]
def ahR(T:Txt K a6 a):fT P w K a6 base cp 5 a.fc "text" ["self","hunters_name","kings_name"] (ahN a):=by
 refine T.ac3.ok aa5 ?_;rintro _ _ _ _ _ H _ Q _ _ ak ⟨d,F,n,x,aq,dK,a0,j2,rfl,dg,vP,bT,aA,Ii,Ij,af⟩;refine⟨_,aC (d4 (jq.pt (EZ (wo (js (cw (XY T) ak Y bu (ao (J 1) az)))) (JM (wo (js (cw (XY T) ak Y bu (ao (J 2) az))))))) (aX (bF (fC (ao (cL T.Xf Y) az)))) d9) (aX (bF (cw (Iu T) ak.mono Y bu (ao (cw (agl T) ak Y bu (ao (bg (J 0) Y) (ao (J 1) (ao (J 2) az)))) az)))),?_⟩;obtain⟨_,g,aB,nl,hd,_,fo,ew,nm,_⟩:=dg.game;have af:h2 a H d F n (B x) (if rG a0=aK∨rG j2=aK then hy (-1)else pX 0 [.text (x.rules.gameText a0 j2 x.game)]) Q:=af;have fin:∀au,aw H au->rG a0=a9->rG j2=a9->(p3 (iR ZV [] q5 (ed (iR (OM a) [] q5 (ed (ha K (dc 0) "game") (ed (dc 1) (ed (dc 2) gi)))) gi))) {c8:=λ_ H'=>Q .bR H',iw:=Q} [B (.ref d),B (.ref aq),B (.ref dK)] au:=λau s2 aO aT=>by rw[aL (by rw[aO,aT];decide)]at af;refine⟨d,_,_,_,_,Y,s2 _ _ hd,T.eU.1,T.hs,Y,g,aB,nl,F,n,x,aq,dK,a0,j2,Y,fo.same s2,ew,nm,vP,s2 _ _ bT,s2 _ _ aA,Ii,Ij,λt _ _ bE vV=>⟨t,_,Y,vV,(by rw[iI];have:=ahI ew nm vP Ii Ij;lia),λl _ ar s4 gZ=>?_⟩⟩;refine af.keep dg ((s2.trans bE).trans s4) ((s2.trans bE).free ar) ?_;rw[gZ,iI];have:=Pc 0 (x.rules.gameText a0 j2 x.game) [];rw[show cb []=[]from Y,hU]at this;exact g5 (λz=>B (dA.lst z)) this.symm
 refine⟨aq,a0,Y,bT,λ_ s1=>⟨_,Y,?_⟩⟩;dsimp only;cases aO:rG a0 with
 |false=>rw[aZ (.inl aO)]at af;exact hM (hM ⟨gd,λl ar=>af.refuse dg s1 ar⟩)
 |true=>refine gF ⟨dK,j2,Y,s1 _ _ aA,λau s2=>⟨_,Y,?_⟩⟩;cases aT:rG j2 with|false=>rw[aZ (.inr aT)]at af;exact hM ⟨gd,λl ar=>af.refuse dg (s1.trans s2) ar⟩|true=>exact gF (fin au (s1.trans s2) aO aT)
inductive Iz (H:ag) (l:I) (cH:sl (sl Int)):Prop
 |mk:∀fD:sl I,H l=B (.lst (fD.map V.ref))->fD.length=cH.length->(∀(i:Nat) q r,fD[i]? =B q->cH[i]? =B r->H q=B (.lst (cb r)))->Iz H l cH
inductive a09 (a:b4) (vs:sl V) (H:ag) (Q:c2) (E:cW):Prop
 |mk d F n s nl je p ns cH x:vs=[.ref d,.int p,.ref nl,.ref je]->h1 a H d F n s->800<=n->n<=5000->H nl=B (.lst (cb ns))->Iz H je cH->(∀r∈cH,r.length<=1500)->Tf.Means ((p::ns)::cH) x->(∀y,s=B y->y.game.moves.length<900)->h2 a H d F n (ft s x).1 (ft s x).2 Q->a09 a vs H Q E
def ahS(a:b4):bN:=λvs H Q _=>sf λd a3=>il (vs=[.ref d]) (H d=B (.ins a.fc a3 [])) (Q .bR (av H d (.ins a.fc a3 [("game",.bR)])))
def DW(b:aS):cb (Tf.zs b)=cA b:=by unfold cb Tf.zs cA;rw[iL];rfl
def Iz.at{l:I}{cH:sl (sl Int)}(h:Iz H l cH){r:sl Int}(ak:cH[i]? =B r):∃q xs,H l=B (.lst xs)/\ho xs (i:Int)=B (.ref q)/\H q=B (.lst (cb r)):=by
 obtain⟨fD,O,a5,aG⟩:=h;have hi:i<fD.length:=by rw[a5];exact(ei.mp ak).1
 have e:=ff hi;exact⟨fD[i],_,O,gw (by rw[fW,e];rfl),aG i _ _ e ak⟩
def DX{l:sl Int}{z:Int}(h:l[i]? =B z):ho (cb l) (i:Int)=B (.int z):=gw (by unfold cb;rw[fW,h];rfl)
def ahT(T:Txt K a6 a):ox P w K a6 base cp 1 a.fc ["self"] (ahS a):=by refine T.abR.ok a9W ?_;rintro _ _ _ _ _ _ _ _ _ _ _ ⟨x,a3,rfl,ah,k⟩;exact⟨_,aX (e2 (J 0) B6 Y),x,_,_,_,Y,ah,T.eU.1,T.hs,dQ,k⟩
def ahU(T:Txt K a6 a):fT P w K a6 base cp 13 a.fc "answer" ["self","call","numbers","rows"] (a09 a):=by
 refine T.abS.ok a9X ?_;rintro f bU A _ s H _ _ _ _ ak ⟨d,F,n,st,nl,je,p,ns,cH,x,rfl,dg,Iy,kz,tW,DY,DZ,gS,kn,af⟩;have ia:dp 11 (A.deeper (fH "Desk.answer" (bh zN) s⁻¹ f bU)):=ak.mono;have Og:dp 3 (A.deeper (fH "Desk.answer" (bh zN) s⁻¹ f bU)):=ak.mono;have nV:dp 2 (A.deeper (fH "Desk.answer" (bh zN) s⁻¹ f bU)):=ak.mono;have Pd:dp 5 (A.deeper (fH "Desk.answer" (bh zN) s⁻¹ f bU)):=ak.mono;refine⟨_,aC (d4 (d1 dB (J 1) (cL T.aah Y) (cu _)) (aX (bF (dR (ahD T) (J 0) T.eU.1 ia bu (ao (dZ hL (J 3) cg (λ_ _=>rfl)) az)))) d9) (aC (d4 (JJ (QM (bg (J 0) Y))) (aX (bF (fC (ao (cL T.aap Y) az)))) d9) (aC (d4 (d1 dB (J 1) (cL T.aai Y) (cu _)) (aX (bF (dR (ahs T) (J 0) T.eU.1 ia bu (ao (dZ hL (J 2) cg (λ_ _=>rfl)) (ao (dZ hL (J 2) cg (λ_ _=>rfl)) az))))) d9) (aC (d4 (d1 dB (J 1) (cL T.aaj Y) (cu _)) (aX (bF (dR (ahE T) (J 0) T.eU.1 ia bu (ao (dZ hL (J 3) cg (λ_ _=>rfl)) az)))) d9) (aC (d4 (d1 dB (J 1) (cL T.aak Y) (cu _)) (aX (bF (dR (ahp T) (J 0) T.eU.1 Og bu (ao (dZ hL (J 2) cg (λ_ _=>rfl)) az)))) d9) (aC (d4 (d1 dB (J 1) (cL T.aal Y) (cu _)) (aX (bF (gb (ahq T) (J 0) T.eU.1 nV bu))) d9) (aC (d4 (d1 dB (J 1) (cL T.aam Y) (cu _)) (aX (bF (gb (ahO T) (J 0) T.eU.1 Pd bu))) d9) (aC (d4 (d1 dB (J 1) (cL T.AT Y) (cu _)) (aX (bF (dR (ahP T) (J 0) T.eU.1 Pd bu (ao (dZ hL (J 2) cg (λ_ _=>rfl)) az)))) d9) (aC (d4 (d1 dB (J 1) (cL T.aan Y) (cu _)) (aX (bF (dR (ahQ T) (J 0) T.eU.1 nV bu (ao (dZ hL (J 2) cg (λ_ _=>rfl)) az)))) d9) (aC (d4 (d1 dB (J 1) (cL T.aao Y) (cu _)) (aX (bF (dR (ahR T) (J 0) T.eU.1 Pd bu (ao (dZ hL (J 3) cg (λ_ _=>rfl)) (ao (dZ hL (J 3) cg (λ_ _=>rfl)) az))))) d9) (aX (bF (dR (ahF T) (J 0) T.eU.1 ak bu (ao (dZ hL (J 3) cg (λ_ _=>rfl)) az))))))))))))),?_⟩;obtain⟨_,sD,hd,_,aY⟩:=id dg;refine⟨Y,_,Y,?_⟩;cases gS with
 |begin_ t=>obtain⟨q,xs,O,a5,aG⟩:=DY.at (i:=0) Y;rw[DW]at aG;exact ip ⟨d,_,_,Y,hd,Y,je,_,_,_,Y,Y,bo.of O,a5,d,F,n,st,q,t,Y,dg,Iy,aG,af⟩
 |move u v=>refine d7 ⟨d,_,_,_,_,Y,hd,T.eU.1,T.hs,Y,_,Y,?_⟩;cases st with|none=>obtain rfl:sD=.bR:=aY;exact ip ⟨gd,λl ar=>af.refuse dg (aw.refl H) ar⟩|some y=>have kn:=kn y Y;obtain⟨g,aB,nm,rfl,_⟩:=aY;refine ec (λz=>nomatch (e7 z)) ?_;exact⟨Y,_,Y,ip ⟨d,_,_,Y,hd,Y,nl,_,_,_,Y,Y,bo.of tW,DX (i:=0) Y,nl,_,_,_,Y,Y,bo.of tW,DX (i:=1) Y,d,F,n,y,u,v,Y,dg,kz,kn,af⟩⟩
 |say t=>refine d7 ⟨d,_,_,_,_,Y,hd,T.eU.1,T.hs,Y,_,Y,?_⟩;cases st with|none=>obtain rfl:sD=.bR:=aY;exact ip ⟨gd,λl ar=>af.refuse dg (aw.refl H) ar⟩|some y=>have kn:=kn y Y;obtain⟨g,aB,nm,rfl,_⟩:=aY;refine ec (λz=>nomatch (e7 z)) ?_;refine⟨Y,_,Y,d7 ?_⟩;obtain⟨q,xs,O,a5,aG⟩:=DY.at (i:=0) Y;rw[DW]at aG;exact⟨Y,_,Y,ip ⟨d,_,_,Y,hd,Y,je,_,_,_,Y,Y,bo.of O,a5,d,F,n,y,q,t,Y,dg,kz,kn,aG,af⟩⟩
 |end_ h=>refine d7 ⟨d,_,_,_,_,Y,hd,T.eU.1,T.hs,Y,_,Y,?_⟩;cases st with|none=>obtain rfl:sD=.bR:=aY;exact ip ⟨gd,λl ar=>af.refuse dg (aw.refl H) ar⟩|some y=>have kn:=kn y Y;obtain⟨g,aB,nm,rfl,_⟩:=aY;refine ec (λz=>nomatch (e7 z)) ?_;refine⟨Y,_,Y,d7 ?_⟩;refine⟨Y,_,Y,d7 ?_⟩;exact⟨Y,_,Y,ip ⟨d,_,_,Y,hd,Y,nl,_,_,_,Y,Y,bo.of tW,DX (i:=0) Y,d,F,n,y,h,Y,dg,af⟩⟩
 |back=>refine d7 ⟨d,_,_,_,_,Y,hd,T.eU.1,T.hs,Y,_,Y,?_⟩;cases st with|none=>obtain rfl:sD=.bR:=aY;exact ip ⟨gd,λl ar=>af.refuse dg (aw.refl H) ar⟩|some y=>have kn:=kn y Y;obtain⟨g,aB,nm,rfl,_⟩:=aY;refine ec (λz=>nomatch (e7 z)) ?_;(iterate 3 refine⟨Y,_,Y,d7 ?_⟩);exact⟨Y,_,Y,ip ⟨d,_,_,Y,hd,Y,d,F,n,y,Y,dg,kz,af⟩⟩
 |now=>refine d7 ⟨d,_,_,_,_,Y,hd,T.eU.1,T.hs,Y,_,Y,?_⟩;cases st with|none=>obtain rfl:sD=.bR:=aY;exact ip ⟨gd,λl ar=>af.refuse dg (aw.refl H) ar⟩|some y=>have kn:=kn y Y;obtain⟨g,aB,nm,rfl,_⟩:=aY;refine ec (λz=>nomatch (e7 z)) ?_;(iterate 4 refine⟨Y,_,Y,d7 ?_⟩);exact⟨Y,_,Y,ip ⟨d,_,_,Y,hd,Y,d,F,n,y,Y,dg,af⟩⟩
 |at_ k=>refine d7 ⟨d,_,_,_,_,Y,hd,T.eU.1,T.hs,Y,_,Y,?_⟩;cases st with|none=>obtain rfl:sD=.bR:=aY;exact ip ⟨gd,λl ar=>af.refuse dg (aw.refl H) ar⟩|some y=>have kn:=kn y Y;obtain⟨g,aB,nm,rfl,_⟩:=aY;refine ec (λz=>nomatch (e7 z)) ?_;(iterate 5 refine⟨Y,_,Y,d7 ?_⟩);exact⟨Y,_,Y,ip ⟨d,_,_,Y,hd,Y,nl,_,_,_,Y,Y,bo.of tW,DX (i:=0) Y,d,F,n,y,k,Y,dg,af⟩⟩
 |made k=>refine d7 ⟨d,_,_,_,_,Y,hd,T.eU.1,T.hs,Y,_,Y,?_⟩;cases st with|none=>obtain rfl:sD=.bR:=aY;exact ip ⟨gd,λl ar=>af.refuse dg (aw.refl H) ar⟩|some y=>have kn:=kn y Y;obtain⟨g,aB,nm,rfl,_⟩:=aY;refine ec (λz=>nomatch (e7 z)) ?_;(iterate 6 refine⟨Y,_,Y,d7 ?_⟩);exact⟨Y,_,Y,ip ⟨d,_,_,Y,hd,Y,nl,_,_,_,Y,Y,bo.of tW,DX (i:=0) Y,d,F,n,y,k,Y,dg,af⟩⟩
 |text t t'=>refine d7 ⟨d,_,_,_,_,Y,hd,T.eU.1,T.hs,Y,_,Y,?_⟩;cases st with|none=>obtain rfl:sD=.bR:=aY;exact ip ⟨gd,λl ar=>af.refuse dg (aw.refl H) ar⟩|some y=>have kn:=kn y Y;obtain⟨g,aB,nm,rfl,_⟩:=aY;refine ec (λz=>nomatch (e7 z)) ?_;(iterate 7 refine⟨Y,_,Y,d7 ?_⟩);obtain⟨q,xs,O,a5,aG⟩:=DY.at (i:=0) Y;rw[DW]at aG;obtain⟨eW,_,uU,BN,a0a⟩:=DY.at (i:=1) Y;rw[DW]at a0a;have D_:=DZ _ (iM);rw[L']at D_;have a0b:=DZ _ (eH _ iM);rw[L']at a0b;exact⟨Y,_,Y,ip ⟨d,_,_,Y,hd,Y,je,_,_,_,Y,Y,bo.of O,a5,je,_,_,_,Y,Y,bo.of uU,BN,d,F,n,y,q,eW,t,t',Y,dg,hv kn,aG,a0a,D_,a0b,af⟩⟩
 |read t=>refine d7 ⟨d,_,_,_,_,Y,hd,T.eU.1,T.hs,Y,_,Y,?_⟩;cases st with|none=>obtain rfl:sD=.bR:=aY;exact ip ⟨gd,λl ar=>af.refuse dg (aw.refl H) ar⟩|some y=>have kn:=kn y Y;obtain⟨g,aB,nm,rfl,_⟩:=aY;refine ec (λz=>nomatch (e7 z)) ?_;(iterate 8 refine⟨Y,_,Y,d7 ?_⟩);obtain⟨q,xs,O,a5,aG⟩:=DY.at (i:=0) Y;rw[DW]at aG;have D_:=DZ _ (iM);rw[L']at D_;exact⟨d,_,_,Y,hd,Y,je,_,_,_,Y,Y,bo.of O,a5,d,F,n,y,q,t,Y,dg,Iy,aG,D_,af⟩
def a0c(s:aw H H'):hh S H H':=λc u _ q=>s c u q
def h1.frame(h:h1 a H d F n s)(cI:hh S H H')(hd:d∉S)(fk:∀c∈F,c∉S):h1 a H' d F n s:=by obtain⟨a3,v,O,a5,aG⟩:=h;refine⟨a3,v,cI _ _ hd O,a5,?_⟩;cases s with|none=>exact aG|some x=>obtain⟨g,aB,nl,aO,aT,e1⟩:=aG;exact⟨g,aB,nl,aO,aT.frame cI fk,e1⟩
def h1.most(h:h1 a H d F n s):∀y,s=B y->y.game.moves.length+50<=n:=λy e=>by subst e;obtain⟨_,_,_,_,_,_,_,_,_,l8⟩:=h.game;exact l8
def ahV(T:Txt K a6 a){p:Int}{ns:sl Int}{cH:sl (sl Int)}{x:EM}(h:Tf.Means ((p::ns)::cH) x):∃o8,ho ([.ref a.CF,.ref a.CG,.ref a.CH,.ref a.CI,.ref a.CJ,.ref a.CK,.ref a.CL,.ref a.CM,.ref a.CN,.ref a.CO]:sl V) p=B (.ref o8)/\∀H,dt K H o8 [.int ((ns.length:Nat):Int),.int ((cH.length:Nat):Int)]:=by cases h with|begin_ t=>exact⟨_,gw (j:=0) rfl,T.CF⟩|move u v=>exact⟨_,gw (j:=1) rfl,T.CG⟩|say t=>exact⟨_,gw (j:=2) rfl,T.CH⟩|end_ h=>exact⟨_,gw (j:=3) rfl,T.CI⟩|back=>exact⟨_,gw (j:=4) rfl,T.CJ⟩|now=>exact⟨_,gw (j:=5) rfl,T.CK⟩|at_ k=>exact⟨_,gw (j:=6) rfl,T.CL⟩|made k=>exact⟨_,gw (j:=7) rfl,T.CM⟩|text t u=>exact⟨_,gw (j:=8) rfl,T.CN⟩|read t=>exact⟨_,gw (j:=9) rfl,T.CO⟩
def ahW{c:sl (sl Int)}{x:EM}(h:Tf.Means c x):∃p ns cH,c=(p::ns)::cH/\ns.length<=2/\cH.length<=2:=by cases h<;>exact⟨_,_,_,Y,by simp,by simp⟩
structure Pe (a:b4) (H H':ag) (cl f d a':I) (F:sl I) (c4:sl (sl (sl Int))) (xs:sl EM) (i:Nat) (s:jn) (T:sl Int):Prop where
 aE:aw H H'
 fd:u7 a H' f cl (i7 (c4.take i)).length
 dg:h1 a H' d F (800+i) s
 dY:H' a'=B (.lst (cb T))
 b_:T++Tf.tell s (xs.drop i)=Tf.tell wg xs
 hf:H f=aa
 hd:H d=aa
 b9:H a'=aa
 fk:∀c∈F,H c=aa
 DM:f∉F
 Pf:a'∉F
def D'(K:bb)(a:b4):bN:=λvs H Q _=>qf λcl c4 xs=>tH (vs=[.ref cl]) (bo K H cl (cb (i7 c4))) (c4.length=xs.length) ((∀(i:Nat) c x,c4[i]? =B c->xs[i]? =B x->Tf.Means c x)) ((∀c∈c4,∀r∈c.drop 1,r.length<=1500)) (c4.length<=60) ((Tf.tell wg xs).length<=10000000) (∀a' H',H a'=aa->aw H H'->H' a'=B (.lst (cb (Tf.tell wg xs)))->Q (.ref a') H')
def ahX{f:I}{fd:kp}(T:Txt K a6 a)(F:oi K "answers" "answers" Cr f fd):jP P w K a6 base cp 14 f fd ["calls"] (D' K a):=by
 refine F.ok sh (λvs H Q E h=>?_) (λbU A _ s H vs Q E ak h=>?_)
 .obtain⟨cl,c4,xs,rfl,_⟩:=h;rfl
 obtain⟨cl,c4,xs,rfl,f9,_,ahY,DZ,_,_,k⟩:=h;have O:dp 1 (A.deeper (fH "answers" (bh Cr) s⁻¹ f bU)):=ak.mono;have a5:dp 2 (A.deeper (fH "answers" (bh Cr) s⁻¹ f bU)):=ak.mono;refine⟨_,aC (cz (i:=1) sh.bj (pK (ahf T) a5 Y T.mh.2 bu (ao (J 0) az))) (aC (cz (i:=2) sh.bj (a9d (ahT T) a5 Y T.eU.2 bu)) (aC (cz (i:=3) sh.bj (fC az)) (aC (wt oQ (js (gb (ahg T) (J 1) T.mh.1 O bu)) (aC (cz (i:=4) sh.bj (gb (P5 T) (J 1) T.mh.1 O bu)) (aC (Fx (i:=5) (b_:=jb a.i' "number" (ZT K a) [] q5 (dc 1) gi) Y sh.bj Y Y (Fy Y Y Y Y) (Bc Y T.z' (ao (dZ m2 (dZ m2 (mf T.tK.1 Y) (J 4) (λ_ _=>rfl)) cg (λ_ _=>rfl)) az)) (og (own:=[("count",6)]) Y) (λ_ _ _ _ _=>h8 (i:=6) sh.bj) (λ_ _ _ _ _=>qN) (λ_ _ _ _ _=>gb (P5 T) (J 1) T.mh.1 O bu)) (aC (Fx (i:=7) (b_:=jb a.i' "row" (ZU K a) [] q5 (dc 1) gi) Y sh.bj Y Y (Fy Y Y Y Y) (Bc Y T.z' (ao (dZ m2 (dZ m2 (mf T.tK.1 Y) (J 4) (λ_ _=>rfl)) cg (λ_ _=>rfl)) az)) (og (own:=[("count",6)]) Y) (λ_ _ _ _ _=>h8 (i:=6) sh.bj) (λ_ _ _ _ _=>qN) (λ_ _ _ _ _=>gb (ahh T) (J 1) T.mh.1 a5 bu)) (aC (cz (i:=8) sh.bj (dR (ahU T) (J 2) T.eU.1 ak bu (ao (J 4) (ao (J 5) (ao (J 7) az))))) (aC (ea (q1 oP uf w3 t8 (J 3) (ao (fj jc Y T.i3 iu (ao (J 8) az)) az))) (aX (ea (q1 oP PY a1g KC (J 3) (ao (J 8) az)))))))))) (aX (bF (J 3)))))),?_⟩;refine(λen kW Pg a0d bV=>⟨en,kW,cl,Y,b3,Y,?_⟩);rw[j5];have mq:aw H (av (av H kW (.own en)) en (.ins a.i' kW (xZ cl 0))):=aw.upd (aw.new a0d) (by rw[aM (ej bV)];exact Pg);have Ph:u7 a (av (av H kW (.own en)) en (.ins a.i' kW (xZ cl 0))) en cl 0:=⟨kW,b3⟩;generalize av (av H kW (.own en)) en (.ins a.i' kW (xZ cl 0))=ai at mq Ph ⊢;refine λd ex ou HR a0e=>⟨d,ex,Y,b3,Y,?_⟩;rw[j5];have l3:aw ai (av (av ai ex (.own d)) d (.ins a.fc ex [("game",.bR)])):=aw.upd (aw.new HR) (by rw[aM (ej a0e)];exact ou);have Pj:h1 a (av (av ai ex (.own d)) d (.ins a.fc ex [("game",.bR)])) d [] (800+0) wg:=⟨ex,.bR,b3,by simp,Y⟩;generalize av (av ai ex (.own d)) d (.ins a.fc ex [("game",.bR)])=au at l3 Pj ⊢;refine⟨es _,λa' u5=>?_⟩;have IA:aw au (av au a' (.lst [])):=aw.new u5;have Pk:Pe a H (av au a' (.lst [])) cl en d a' [] c4 xs 0 wg []:=⟨(mq.trans l3).trans IA,let⟨z,q⟩:=Ph;⟨z,IA _ _ (l3 _ _ q)⟩,Pj.same IA (cP _),b3,by simp,Pg,mq.free ou,(mq.trans l3).free u5,by simp,by simp,by simp⟩;generalize av au a' (.lst [])=bc at Pk ⊢;clear u5 IA Pj l3 Ph mq ou HR a0e bV a0d Pg;refine⟨λm aN H'=>∃i st F rr gc fE i4 nK Av,aN=[B (.ref cl),B (.ref en),B (.ref d),B (.ref a'),gc,fE,i4,nK,Av]/\m=c4.length-i/\i<=c4.length/\Pe a H H' cl en d a' F c4 xs i st rr,⟨_,0,_,_,_,aa,aa,aa,aa,aa,Y,Y,es _,Pk⟩,?_⟩;clear Pk;rintro m aN H' ⟨i,st,F,rr,gc,fE,i4,nK,Av,rfl,rfl,hi,L⟩;obtain⟨_,E0⟩:=id L.fd;have Pl:=L.aE.seq f9;refine⟨en,_,_,Y,E0,Y,en,cl,_,_,Y,L.fd,Pl,_,Y,?_⟩;obtain c6|zz:=y6 i c4.length
 .obtain⟨c,a7⟩:∃c,c4[i]? =B c:=⟨_,ff c6⟩;obtain⟨x,ah⟩:∃x,xs[i]? =B x:=⟨_,ff (by lia)⟩;have hm:=ahY i c x a7 ah;have LZ:=DZ c (n0 a7);obtain⟨p,ns,cH,rfl,_,_⟩:=ahW hm;obtain⟨o8,ke,zr⟩:=ahV T hm;obtain⟨At,a0f⟩:=a6R a7;have a0g:=L.fd;generalize aH:(i7 (c4.take i)).length=n at At a0f a0g ⊢;have tW:=(ei.mp At.pl).1;have a0h:a'≠en:=f3 L.dY E0;obtain⟨_,_,a0i,_,_⟩:=id L.dg;have a0j:d≠en:=jX a0i E0 (by show(1:Nat)≠2;decide);have Ia:a'≠d:=f3 L.dY a0i;refine eR (eL tW) ⟨λcQ au=>∃st F rr gc fE i4 nK Av,cQ=[B (.ref cl),B (.ref en),B (.ref d),B (.ref a'),gc,fE,i4,nK,Av]/\Pe a H au cl en d a' F c4 xs (i+1) st rr,λcQ au ⟨st,F,rr,gc,fE,i4,nK,Av,e,L⟩=>⟨c4.length-(i+1),by lia,i+1,st,F,rr,gc,fE,i4,nK,Av,e,Y,c6,L⟩,?_⟩;refine⟨en,_,_,Y,E0,Y,en,cl,n,_,p,Y,a0g,Pl,At.pl,λai Ir Pm=>?_⟩;have b1:hh [en] H' ai:=λc u h q=>Ir c u (λz=>h (by simp[z])) q;have lU:∀{c:I},c≠en->c∉[en]:=λh z=>h (jY.mp z);have xy:=P4 E0 Ir Pl;obtain⟨_,a0k⟩:=id Pm;have Pn:∀{aj qt:ag}{e:I}{fs:sl (a8×V)},aj en=B (.ins a.i' e fs)->hh [en] aj qt->bo K aj cl (cb (i7 c4))->bo K qt cl (cb (i7 c4)):=λO a5 aG=>P4 O (λc u n q=>a5 c u (lU n) q) aG;refine⟨a.tK,_,_,_,Y,Y,T.tK.2 _,ke,o8,_,_,_,Y,Y,zr _,gw (j:=0) Y,_,Y,(by lia),(by lia),λaf d3=>?_⟩;rw[u9];have IB:af≠en:=λz=>by obtain⟨q,h⟩:=Pm;rw[z,h]at d3;cases d3
  refine L5 (lo:=0) (n:=ns.length) (λj au=>hh [en] ai au/\u7 a au en cl (n+1+j)/\au af=B (.lst (cb (ns.take j)))) ⟨a0c (aw.new d3),let⟨q,h⟩:=Pm;⟨q,by rw[aM (ej IB)];exact h⟩,b3⟩ (λj au bY aR=>?_) λau aR=>?_
  .obtain⟨cI,E3,ahZ⟩:=aR;obtain⟨ai0,IC⟩:=id E3;have aR:=ff bY;refine⟨Y,en,_,_,Y,IC,Y,en,cl,_,_,ns[j],Y,E3,Pn a0k cI xy,At.a6Q j _ aR,λcU mw Po=>⟨_,mw _ _ IB ahZ,?_,?_,?_,?_⟩⟩
   .rw[xY,ko];exact gE (by lia)
   .intro c u h q;rw[aM (cV q d3)];exact mw c u (λz=>h (by simp[z])) (cI c u h q)
   .obtain⟨q,h⟩:=Po;exact⟨q,by rw[aM (ej IB)];exact h⟩
   rw[b3,take_snoc aR];unfold cb;rw[fO];rfl
  obtain⟨b2,Pp,sr⟩:=aR;rw[jl]at sr;refine⟨a.tK,_,_,_,Y,Y,T.tK.2 _,ke,o8,_,_,_,Y,Y,zr _,gw (j:=1) Y,_,Y,(by lia),(by lia),λR d2=>?_⟩;rw[u9];have Pq:R≠en:=λz=>by obtain⟨q,h⟩:=Pp;rw[z,h]at d2;cases d2
  obtain⟨_,ai1⟩:=id Pp;have ai2:=Pn a0k b2 xy;refine L5 (lo:=0) (n:=cH.length) (λj bc=>hh [en] au bc/\u7 a bc en cl (n+1+ns.length+(jK (cH.take j)).length)/\∃fD:sl I,bc R=B (.lst (fD.map V.ref))/\fD.length=j/\∀(i:Nat) q r,fD[i]? =B q->cH[i]? =B r->bc q=B (.lst (cb r))/\q≠R)
   ⟨a0c (aw.new d2),let⟨q,h⟩:=Pp;⟨q,by rw[aM (ej Pq)];exact h⟩,[],b3,Y,λi q r h=>by simp at h⟩ (λj bc bY aR=>?_) λbc aR=>?_
  .obtain⟨cI,E3,fD,a0l,ID,Pr⟩:=aR;obtain⟨ai0,IC⟩:=id E3;have ak:=ff bY;obtain⟨o1,o2,ai3⟩:=At.fJ j _ ak;obtain⟨_,ai4⟩:=TQ ak;refine⟨Y,en,_,_,Y,IC,Y,en,cl,_,_,cH[j].length,Y,E3,Pn ai1 cI ai2,o1,ai3,λq cU aQ mw Po ai5=>⟨_,mw _ _ Pq a0l,?_,?_,?_,fD++[q],?_,?_,?_⟩⟩
   .rw[cX];exact gE (by lia)
   .intro c u h q;rw[aM (cV q d2)];exact mw c u (λz=>h (by simp[z])) (cI c u h q)
   .obtain⟨z,h⟩:=Po;refine⟨z,?_⟩;rw[aM (ej Pq),h,ai4,<-a0R,<-a0R]
   .rw[b3,fO];rfl
   .rw[dh,gy,ID]
   intro i eW r O a5;have a0m:q≠R:=λz=>by rw[z,a0l]at aQ;cases aQ
   obtain hi|hi:=y6 i fD.length
   .rw[l9 hi]at O;obtain⟨aG,cJ⟩:=Pr i eW r O a5;exact⟨by rw[aM cJ];exact mw _ _ (f3 aG IC) aG,cJ⟩
   rw[pR hi]at O;have l2:i=j:=by
    have:=(ei.mp O).1;rw[gy]at this
    lia
   subst l2;rw[ID,a0Z]at O;cases O;rw[ak]at a5;cases a5;exact⟨by rw[aM a0m,ai5,o2],a0m⟩
  obtain⟨m6,a0n,fD,ai6,ID,Pr⟩:=aR;rw[jl]at a0n;have Pt:hh [en] H' bc:=(b1.trans b2).trans m6;have bE:aw H bc:=λc u q=>Pt c u (lU (cV q L.hf)) (L.aE _ _ q);have Pu:h1 a bc d F (800+i) st:=L.dg.frame Pt (lU a0j) λc a7=>lU λz=>L.DM (z ▸ a7);have tX:=m6 _ _ (lU IB) sr;have IE:=Pt _ _ (lU a0h) L.dY;obtain⟨_,_,r0,_⟩:=id Pu;obtain⟨ai7,HO⟩:=id a0n;refine⟨d,_,_,Y,r0,Y,d,F,800+i,st,af,R,p,ns,cH,x,Y,Pu,(by lia),(by lia),tX,⟨fD,ai6,ID,λi q r O a5=>(Pr i q r O a5).1⟩,LZ,hm,λy e=>(by have:=Pu.most y e;lia),λl c' P2 wy su Af ai8 a0o=>?_⟩;have ai9:l≠a':=λz=>by rw[z,IE]at su;cases su
  have aia:a'∉d::F:=λz=>by
   obtain z|z:=dz.mp z
   .exact Ia z
   exact L.Pf z
  have aib:en∉d::F:=λz=>by
   obtain z|z:=dz.mp z
   .exact a0j z.symm
   exact L.DM z
  have a0p:=wy.cI _ _ aia IE;have aic:=wy.cI _ _ aib HO;have ex:xs.drop i=x::xs.drop (i+1):=by obtain⟨bw,cy⟩:=ei.mp ah;rw[<-cy];exact IJ bw
  have b_:rr++(((((ft st x).2.nums.length:Nat):Int)::(ft st x).2.nums)++Tf.tell (ft st x).1 (xs.drop (i+1)))=Tf.tell wg xs:=by have z:=L.b_;rw[ex]at z;exact z
  have aid:=g5 ub b_;simp only[dh,fX]at aid;have g0:aw H c':=λc u q=>wy.cI c u (λz=>by
   obtain z|z:=dz.mp z
   .rw[z,L.hd]at q;cases q
   rw[L.fk c z]at q;cases q) (bE _ _ q)
  have big:(10000000:Nat)<cN:=by decide
  refine⟨.inl ⟨Y,_,bo.of a0p⟩,l,_,Y,.inl (bo.of a0o),a',_,_,Y,Y,a0p,(by rw[xY];lia),?_⟩;have aie:(av c' a' (.lst (cb rr++[.int (((cb (ft st x).2.nums).length:Nat):Int)]))) l=B (.lst (cb (ft st x).2.nums)):=by rw[aM ai9];exact a0o
  refine⟨.inl ⟨Y,_,bo.of b3⟩,a',l,_,_,Y,Y,b3,aie,(by rw[dh,xY,xY,gy];lia),?_⟩;rw[j5];refine⟨(ft st x).1,P2,rr++((((ft st x).2.nums.length:Nat):Int)::(ft st x).2.nums),_,_,_,_,_,Y,?_⟩;have keep:∀{c:I}{u:dA},c≠a'->c' c=B u->(av c' a' (.lst ((cb rr++[.int (((cb (ft st x).2.nums).length:Nat):Int)])++cb (ft st x).2.nums))) c=B u:=λh q=>by rw[aM h];exact q
  refine⟨λc u q=>keep (cV q L.b9) (g0 _ _ q),⟨ai7,?_⟩,ai8.frame (S:=[a']) (λc u h q=>keep (λz=>h (by simp[z])) q) (λz=>Ia (jY.mp z).symm) (λc a7 z=>?_),?_,by rw[lP];exact b_,L.hf,L.hd,L.b9,λc a7=>?_,λz=>?_,λz=>?_⟩
  .rw[keep (ej a0h) aic,a0f]
  .rw[jY.mp z]at a7;obtain h|h:=Af a' a7
   .exact L.Pf h
   rw[IE]at h;cases h
  .rw[b3,xY];unfold cb;simp
  .obtain h|h:=Af c a7
   .exact L.fk c h
   exact bE.free h
  .obtain h|h:=Af en z
   .exact L.DM h
   rw[HO]at h;cases h
  obtain h|h:=Af a' z
  .exact L.Pf h
  rw[IE]at h;cases h
 have l2:i=c4.length:=by lia
 subst l2;rw[jl];refine ec (λz=>absurd (e7 z) (ry _)) ?_;have e:=L.b_;rw[E7 (by lia)]at e;have e:rr=Tf.tell wg xs:=by rw[<-e];simp[Tf.tell]
 exact k a' H' L.b9 L.aE (by rw[<-e];exact L.dY)
variable{aV:Array (Iw ae)}
section
variable{h:bq}{x m:a8}{f N:I}
def fp(X:K.In h)(aj:h.Ns mz a6){i:Int}{t:jL}(a:Q8 K mz x=B (B (.int i t)):=by k_is):e_ a6 x i:=⟨t,lb X aj a⟩
def oL(X:K.In h)(aj:h.Ns mz a6){t:jL}(a:Q8 K mz x=B (B (.str z t)):=by k_is):mR a6 x z:=⟨t,lb X aj a⟩
def i5{b6:Array ae}{od:Iw I}(l:K.lookup C=B ⟨.type "tuple",od,.seq b6 n,aV⟩:=by k_is)(bk:cC xs b6.toList:=by repeat first|exact .nil|refine .cons ⟨_,rfl⟩ ?_|refine .cons rfl ?_)(aR:b6.size<=cN:=by decide):∀H,dt K H C xs:=λH=>.inr ⟨_,b6,n,l,Y,Y,aR,bk⟩
variable{ks ey gB gC d6 dX:ae}{od gP:Iw I}
def dP(X:K.In h)(aj:h.Ns mz a6)(a:Q8 K mz x=B (B (.ref f)):=by k_is)(l:K.lookup f=B ⟨ks,od,.func (nP x x (oh st) (jR st) (bh st) .none ey gB gC gP d6 dX),aV⟩:=by k_is)(c:AR K d6 x=a9:=by k_is)(k:nQ K (.ref f)=a9:=by k_is):Laid K a6 x st:=⟨f,_,lb X aj a,FG l c k⟩
def gx(a:qz K (.ref C) m=B (B (.ref f)):=by k_is)(i:J8 K (.ref f)=a9:=by k_is)(l:K.lookup f=B ⟨ks,od,.func (nP m bX (oh st) (jR st) (bh st) .none ey gB gC gP d6 dX),aV⟩:=by k_is)(c:AR K d6 bX=a9:=by k_is)(k:nQ K (.ref f)=a9:=by k_is):fx K C m bX st:=⟨f,_,⟨a,i,k⟩,FG l c k⟩
def rt(mk:a1o K C=a9:=by k_is)(a:qz K (.ref C) "__init__" =B (B (.ref f)):=by k_is)(i:J8 K (.ref f)=a9:=by k_is)(eo:nQ K (.ref C)=a9:=by k_is)(l:K.lookup f=B ⟨ks,od,.func (nP "__init__" bX (oh st) (jR st) (bh st) .none ey gB gC gP d6 dX),aV⟩:=by k_is)(c:AR K d6 bX=a9:=by k_is)(k:nQ K (.ref f)=a9:=by k_is):oy K C bX st:=⟨f,_,⟨mk,a,i,eo⟩,FG l c k⟩
def ru(X:K.In h)(aj:h.Ns mz a6)(a:Q8 K mz x=B (B (.ref C)):=by k_is)(qJ:J9 K C AQ=a9:=by k_is)(hd:Q5 K C=a9:=by k_is)(po:a1r K C=a9:=by k_is)(o8:qz K (.ref C) "__setattr__" =B (B (.builtin "object.__setattr__")):=by k_is):iA K C/\a6 x=B (.ref C):=⟨⟨qJ,hd,po,o8⟩,lb X aj a⟩
def fF(a:qz K (.ref C) x=B aa:=by k_is):eE K C x:=a
def aif(b5:Array PX):Bool:=b5.toList.all λe=>match e.key with|.str _ _=>a9|_=>aK
def IF{nm q:a8}{bs:sl ae}{sn:sl a8}{sub:sl ae}{ab:Bool}{col:Iw Bool}{dd:Iw I}{k0 cK bJ eh k5:Iw ae}{aih:ae}{aii:Iw I}{b5:Array PX}{aij:Array (Iw ae)}(aik:K.lookup C=B (pS nm q C N bs ov a9 sn sub ab col dd k0 cK bJ eh k5 "ValueError.__new__"))(OO:K.lookup N=B ⟨aih,aii,.dict b5 n,aij⟩)(ax:aif b5=a9)(O:AV b5 "__init__" =B (.ref f))(a5:AV b5 "__setattr__" =aa)(aG:AV b5 "__getattribute__" =aa)(cJ:AV b5 "__getattr__" =aa)(f7:(cT.all λa=>(AV b5 a).isNone)=a9)(bf:∀a∈cT,pU (.type "ValueError") a=pure aa)(eo:nQ K (.ref C)=a9)(l:K.lookup f=B ⟨.type "function",od,.func (nP "__init__" bX (oh st) (jR st) (bh st) .none ey gB gC gP d6 dX),aV⟩)(c:AR K d6 bX=a9)(k:nQ K (.ref f)=a9):tI K C bX cT st:=by
 refine⟨f,_,⟨⟨nm,q,N,bs,sn,sub,ab,col,dd,k0,cK,bJ,eh,k5,λx=>AV b5 x,aik,λh X=>⟨_,b5,n,X _ _ OO,Y,λe aF=>?_,λ_=>rfl⟩,O,a5,aG,cJ,λa hm=>?_⟩,⟨_,l,Y⟩,bf,eo⟩,FG l c k⟩
 .have:=y0.mp ax e (ait.mpr aF);split at this
  .next z=>exact⟨_,_,z⟩
  cases this
 have:=y0.mp f7 a hm;exact Option.isNone_iff_eq_none.mp this
end
def ail:pU (.type "ValueError") "place" =pure aa:=by rw[akf,ajZ];kernel_rfl
def aim:pU (.type "ValueError") "kind" =pure aa:=by rw[akf,ajZ];kernel_rfl
def IG:∀a∈(["place"]:sl a8),pU (.type "ValueError") a=pure aa:=λa h=>by rw[jY.mp h];exact ail
def a0q:∀a∈(["kind","place"]:sl a8),pU (.type "ValueError") a=pure aa:=λa h=>by
 obtain h|h:=dz.mp h
 .rw[h];exact aim
 exact IG a h
def fin{en:I}(T:Txt K a6 a)(hm:a6 "answers" =B (.ref en)):∃fd:kp,(∀(s:ay)(us:sl ae),us.length=(["calls"]:sl a8).length->ya s fd ⟨us,[]⟩ ((["calls"]:sl a8).zip us))/\∀base:bq,K.In base->base.Ns mz a6->jP P w K a6 base cp 14 en fd ["calls"] (D' K a):=by obtain⟨f,fd,h,F⟩:=T.answers;cases hm.symm.trans h;refine⟨fd,?_,λbase _ _=>ahX T F⟩;obtain⟨_,_,_,_,_,_,_,_,_,rfl,_,_⟩:=F.ex;exact λs us bx=>match us,bx with|[_],_=>.of_eq rfl
def a0r{br:Type}(f:br->Nat):∀(l:sl br)(n:Nat),n<=l.foldl (λn c=>n+f c) n
 |[],n=>cP _
 |x::l,n=>dE (rx n (f x)) (a0r f l (n+f x))
def Pw{br:Type}(f:br->Nat):∀(l:sl br)(n:Nat)(x:br),x∈l->f x<=l.foldl (λn c=>n+f c) n
 |y::l,n,x,h=>by
  obtain h|h:=dz.mp h
  .rw[h];exact dE (aj1 (f y) n) (a0r f l (n+f y))
  exact Pw f l (n+f y) x h
def ain{l:sl Int}(h:Jl l=a9):(Qj l).length<=10000000:=by unfold Jl at h;cases a7:a1X l with|none=>rw[a7]at h;cases h|some c4=>rw[a7]at h;dsimp only at h;rw[j3,j3]at h;exact e7 h.2
def a0s{l:sl Int}(bf:Jl l=a9)(ax:bo K H p (l.map V.int))(iO:∀H' a',H' a'=B (.lst ((Qj l).map V.int))->Q (.ref a') H'):D' K a [.ref p] H Q E:=by
 obtain⟨c4,xs,A⟩:=a6f bf;refine⟨p,c4,xs,Y,?_,A.len,A.means,λc a7 r ak=>?_,A.most,?_,λa' H' _ _ aF=>iO H' a' ?_⟩
 .rw[<-A.put];exact ax
 .exact dE (Pw (λ(r:sl Int)=>r.length) (c.drop 1) 0 r ak) (dE (Pw akK c4 0 c a7) A.bytes)
 .rw[<-A.Tu];exact ain bf
 rw[A.Tu];exact aF
end Hg
open PySem PySem.W PyProof.Rows
open Hg (a0s ru fin fp oL rt gx IF dP fF D' i5 IG a0q)
open L2 (cp Lr Ls SD)
theorem PySem.Challenge.cw_hallgames_s01_answers_holds : PySem.Challenge.rw_hallgames_s01_answers.Holds := by
 refine hZ ?_
 k_fillS
 refine SD (r:=am8) (k:=14) (CX:=cp) (aJ:=["calls"]) (sp:=λK=>D' K ⟨36,71,92,240,356,384,478,583,652,672,693,819,938,19,15,16,17,18,461,588,589,628,629,630,631,632,633,634,635,781,771,772,773,774,775,776,777,778,779,780⟩) ws Y Y ⟨Y,by decide,by decide⟩ (λw h BV=>kIn_of BV) ?F ?S (λ_ _ _ _ z=>z);case F=>intro w a6 en h BV ba aj LA;refine fin (a:=⟨36,71,92,240,356,384,478,583,652,672,693,819,938,19,15,16,17,18,461,588,589,628,629,630,631,632,633,634,635,781,771,772,773,774,775,776,777,778,779,780⟩) ?_ LA;exact⟨fp ba aj,fp ba aj,fp ba aj,fp ba aj,fp ba aj,fp ba aj,fp ba aj,fp ba aj,fp ba aj,fp ba aj,fp ba aj,fp ba aj,fp ba aj,fp ba aj,fp ba aj,fp ba aj,fp ba aj,fp ba aj,fp ba aj,fp ba aj,fp ba aj,fp ba aj,fp ba aj,fp ba aj,fp ba aj,fp ba aj,fp ba aj,fp ba aj,fp ba aj,fp ba aj,fp ba aj,fp ba aj,fp ba aj,fp ba aj,fp ba aj,fp ba aj,fp ba aj,fp ba aj,fp ba aj,fp ba aj,fp ba aj,fp ba aj,fp ba aj,oL ba aj,oL ba aj,oL ba aj,oL ba aj,oL ba aj,oL ba aj,oL ba aj,oL ba aj,oL ba aj,oL ba aj,oL ba aj,oL ba aj,oL ba aj,⟨lb ba aj (by k_is),i5 (C:=19)⟩,i5 (C:=15),i5 (C:=16),i5 (C:=17),i5 (C:=18),⟨lb ba aj (by k_is),i5 (C:=461)⟩,⟨lb ba aj (by k_is),i5 (C:=588)⟩,⟨lb ba aj (by k_is),i5 (C:=589)⟩,⟨lb ba aj (by k_is),i5 (C:=628)⟩,⟨lb ba aj (by k_is),i5 (C:=629)⟩,⟨lb ba aj (by k_is),i5 (C:=630)⟩,⟨lb ba aj (by k_is),i5 (C:=631)⟩,⟨lb ba aj (by k_is),i5 (C:=632)⟩,⟨lb ba aj (by k_is),i5 (C:=633)⟩,⟨lb ba aj (by k_is),i5 (C:=634)⟩,⟨lb ba aj (by k_is),i5 (C:=635)⟩,⟨lb ba aj (by k_is),i5 (C:=781)⟩,i5 (C:=771),i5 (C:=772),i5 (C:=773),i5 (C:=774),i5 (C:=775),i5 (C:=776),i5 (C:=777),i5 (C:=778),i5 (C:=779),i5 (C:=780),dP (f:=47) ba aj,dP (f:=54) ba aj,dP (f:=103) ba aj,dP (f:=108) ba aj,dP (f:=115) ba aj,dP (f:=122) ba aj,dP (f:=129) ba aj,dP (f:=136) ba aj,dP (f:=143) ba aj,dP (f:=148) ba aj,dP (f:=155) ba aj,dP (f:=162) ba aj,dP (f:=169) ba aj,dP (f:=176) ba aj,dP (f:=183) ba aj,dP (f:=188) ba aj,dP (f:=195) ba aj,dP (f:=202) ba aj,dP (f:=209) ba aj,dP (f:=216) ba aj,dP (f:=223) ba aj,dP (f:=248) ba aj,dP (f:=255) ba aj,dP (f:=262) ba aj,dP (f:=269) ba aj,dP (f:=276) ba aj,dP (f:=367) ba aj,dP (f:=394) ba aj,dP (f:=401) ba aj,dP (f:=408) ba aj,dP (f:=415) ba aj,dP (f:=422) ba aj,dP (f:=427) ba aj,dP (f:=434) ba aj,dP (f:=441) ba aj,dP (f:=448) ba aj,dP (f:=453) ba aj,dP (f:=460) ba aj,dP (f:=489) ba aj,dP (f:=496) ba aj,dP (f:=596) ba aj,dP (f:=601) ba aj,dP (f:=608) ba aj,dP (f:=615) ba aj,dP (f:=622) ba aj,dP (f:=627) ba aj,dP (f:=704) ba aj,dP (f:=711) ba aj,dP (f:=718) ba aj,dP (f:=725) ba aj,dP (f:=732) ba aj,dP (f:=739) ba aj,dP (f:=744) ba aj,dP (f:=749) ba aj,dP (f:=756) ba aj,dP (f:=763) ba aj,dP (f:=770) ba aj,dP (f:=830) ba aj,dP (f:=947) ba aj,ru (C:=36) ba aj,fF,fF,fF,fF,fF,fF,fF,fF,fF,fF,fF,fF,fF,fF,fF,rt (f:=33),ru (C:=71) ba aj,fF,fF,rt (f:=68),ru (C:=92) ba aj,fF,fF,rt (f:=89),lb ba aj (by k_is),IF (f:=237) (N:=239) (by k_is) (by k_is) (by kernel_rfl) (by kernel_rfl) (by kernel_rfl) (by kernel_rfl) (by kernel_rfl) (by kernel_rfl) IG (by k_is) (by k_is) (by k_is) (by k_is),ru (C:=356) ba aj,fF,fF,rt (f:=290),gx (f:=297),gx (f:=304),gx (f:=311),gx (f:=318),gx (f:=325),gx (f:=332),gx (f:=339),gx (f:=346),gx (f:=353),lb ba aj (by k_is),IF (f:=381) (N:=383) (by k_is) (by k_is) (by kernel_rfl) (by kernel_rfl) (by kernel_rfl) (by kernel_rfl) (by kernel_rfl) (by kernel_rfl) IG (by k_is) (by k_is) (by k_is) (by k_is),ru (C:=478) ba aj,fF,fF,fF,rt (f:=475),ru (C:=583) ba aj,fF,fF,fF,fF,fF,fF,rt (f:=510),gx (f:=517),gx (f:=524),gx (f:=531),gx (f:=538),gx (f:=545),gx (f:=552),gx (f:=559),gx (f:=566),gx (f:=573),gx (f:=580),lb ba aj (by k_is),IF (f:=649) (N:=651) (by k_is) (by k_is) (by kernel_rfl) (by kernel_rfl) (by kernel_rfl) (by kernel_rfl) (by kernel_rfl) (by kernel_rfl) a0q (by k_is) (by k_is) (by k_is) (by k_is),ru (C:=672) ba aj,fF,fF,fF,rt (f:=669),ru (C:=693) ba aj,fF,fF,fF,fF,fF,rt (f:=690),ru (C:=819) ba aj,fF,fF,rt (f:=795),gx (f:=802),gx (f:=809),gx (f:=816),ru (C:=938) ba aj,fF,rt (f:=844),gx (f:=851),gx (f:=858),gx (f:=865),gx (f:=872),gx (f:=879),gx (f:=886),gx (f:=893),gx (f:=900),gx (f:=907),gx (f:=914),gx (f:=921),gx (f:=928),gx (f:=935),sJ ba aj (by k_is),sJ ba aj (by k_is),sJ ba aj (by k_is),sJ ba aj (by k_is),sJ ba aj (by k_is),sJ ba aj (by k_is),sJ ba aj (by k_is),sJ ba aj (by k_is),sJ ba aj (by k_is),sJ ba aj (by k_is),sJ ba aj (by k_is)⟩
 case S=>
  intro K H xs a z6 pf aio ah;cases ah with
  |cons O a5=>cases a5;cases O with|lst ax bf=>have e:=Ls a.1 _ bf;subst e;exact a0s aio ax λH' a' aF=>.lst (L2.bo.of aF) (Lr _)
